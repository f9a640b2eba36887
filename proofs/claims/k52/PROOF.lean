import PyProof.Rows.All
import Wide.All
import OpenK.AllK
import Wide.FinOn
import PyProof.ReprRoads
import HandS.ForExc
import HandS.ForMost
import HandS.Wide
import HandS.EndBits
import HandS.ExcInit
import HandS.ExcField
import HandS.ExcIs
import HandS.IsInst
import HandS.MakeKwOnly
import KE.KExcIs
import PyProof.StrLawsRepr
import HandS.Evl
import HandS.Text
import HandS.StrMore
import HandS.Walk
import HandS.More
import PyProof.StrLawsFrom
import PyProof.Rows.StrCut
import PyProof.StrBlock2
import HandS.Set
import HandS.Iter
import HandS.SetTxt0
import PyProof.Rows.SetFrom
import PyProof.Rows.SortStr
import HandS.Strs
import PyProof.Rows.SortShellAny
import HandS.Property
import HandS.NamedTupGet
import HandS.OwnEq
import HandS.Style
import HandS.CallSlots
import HandS.Defaults
import HandS.TupLe
import HandS.TryOnly
import HandS.Flow
import HandS.DictTup
import HandS.SetKeys
import PyProof.DictMoreH
import KE.GoesZip
import KE.GoesMore
import HandS.Zip
import HandS.DictComp
import KE.KCallOwn
import PySem.Challenge.RW_splicedfilms_k52_equal_desks
import HandS.List
set_option Elab.async false
set_option linter.all false
set_option maxRecDepth 100000
set_option maxHeartbeats 8000000
namespace Sf
open PySem PySem.Spec PyProof.Rows L2

/-! ### repr of data -/
mutual
theorem Dp.noDict {K : PySem.W.Frag} {H : Hp} : ∀ (d : PyData) (v : V), Dp K H v d → d.hasDict = false
  | .none, _, h => by simp only [PyData.hasDict]
  | .bool _, _, h => by simp only [PyData.hasDict]
  | .int _, _, h => by simp only [PyData.hasDict]
  | .str _, _, h => by simp only [PyData.hasDict]
  | .list ds, _, h => by
    cases h with
    | lst _ a => simp only [PyData.hasDict]; exact DpAll.noDict ds _ a
  | .tuple ds, _, h => by
    cases h with
    | tup _ a => simp only [PyData.hasDict]; exact DpAll.noDict ds _ a
  | .dict _, _, h => by cases h
theorem DpAll.noDict {K : PySem.W.Frag} {H : Hp} : ∀ (ds : List PyData) (vs : List V), DpAll K H vs ds → PyData.hasDictAll ds = false
  | [], _, h => by simp only [PyData.hasDictAll]
  | d :: ds, _, h => by
    cases h with
    | cons a b => simp only [PyData.hasDictAll, Dp.noDict d _ a, DpAll.noDict ds _ b, Bool.or_self]
end
def rRepr (K : PySem.W.Frag) : List V → Hp → VK → Prop := fun xs H Q =>
  ∃ x d, xs = [x] ∧ Dp K H x d ∧ d.showable = true ∧ d.shown.length ≤ sizeLine ∧ d.depth ≤ 60 ∧ Q (.str d.shown) H
theorem call_repr {X : Cx} (hg : X.A.guards = some []) (hu : X.A.units + 64 < cLine) : CallR X (.builtin "repr") (rRepr X.K) := by
  intro pins s σ H xs us Q I r h
  obtain ⟨x, d, rfl, hd, hs, hz, hdep, q⟩ := h
  obtain ⟨u, rfl, ru⟩ := vals1 r
  obtain ⟨as, rd⟩ := Dp.reads I d x u hd ru
  have nd := Dp.noDict d x hd
  cases rd with
  | none => simp only [PyData.shown] at q; exact PySem.P.repr_of_none ⟨.str _, H, I.tok _, ⟨_, rfl⟩, q⟩
  | bool b => simp only [PyData.shown] at q; exact PySem.P.repr_of_bool ⟨.str _, H, I.tok _, ⟨_, rfl⟩, q⟩
  | int i t => simp only [PyData.shown] at q; exact PySem.P.repr_of_int (by simpa [PyData.showable] using hs) ⟨.str _, H, I.tok _, ⟨_, rfl⟩, q⟩
  | str y t => simp only [PyData.shown] at q hz; exact PySem.P.repr_of_str ⟨.str _, H, I.tok _, ⟨_, rfl⟩, q⟩ hz
  | list h1 h2 h3 h4 =>
    exact repr_of_reads' (.list h1 h2 h3 h4) hs (fun z => by rw [nd] at z; cases z) hg (by omega) (fun _ _ e => e)
      (fun h' u tk k => ⟨.str _, H, I.kept (t' := tk) k, ⟨_, rfl⟩, q⟩) hz
  | tuple h1 h2 h3 h4 =>
    exact repr_of_reads' (.tuple h1 h2 h3 h4) hs (fun z => by rw [nd] at z; cases z) hg (by omega) (fun _ _ e => e)
      (fun h' u tk k => ⟨.str _, H, I.kept (t' := tk) k, ⟨_, rfl⟩, q⟩) hz
  | dict h1 h2 h3 h4 h5 => cases hd

/-! ### defs that run where no repr is under way -/
/-- FnOk's like, for stacks without a guard; nothing is let out -/
structure Gd (P : Program) (w : World) (K : PySem.W.Frag) (mg : Str → Option Value) (base : Heap) (k : Nat) (f : Addr) (fd : FuncData) (ps : List Str) (sp : Sp) : Prop where
  size : ∀ vs H Q E, sp vs H Q E → vs.length = ps.length
  go : ∀ (A : Around) (outer : List Env) (s : Shared) (H : Hp) (args : Args) (us : List Value) (vs : List V) (Q : VK) (E : XK), A.guards = some [] → Room k A →
    Env0 P w K mg base A outer s H → BindsTo s fd args (ps.zip us) → Vals vs us → sp vs H Q E → codeAny (model P w) A (.call (.ref f) args) (CR CX0 outer P w H s Q E) s
section
variable {P : Program} {w : World} {K : PySem.W.Frag} {mg : Str → Option Value} {base : Heap}
theorem gd_of {k : Nat} {f : Addr} {fd : FuncData} {ps : List Str} {sp : Sp} (F : FnOk P w K mg base CX0 k f fd ps sp) : Gd P w K mg base k f fd ps sp :=
  ⟨F.len, fun A outer s H args us vs Q E _ hr => F.run A outer s H args us vs Q E hr⟩
theorem gd_mono {j k : Nat} {f : Addr} {fd : FuncData} {ps : List Str} {sp : Sp} (F : Gd P w K mg base j f fd ps sp) (h : j ≤ k) : Gd P w K mg base k f fd ps sp :=
  ⟨F.size, fun A outer s H args us vs Q E hg hr => F.go A outer s H args us vs Q E hg (hr.mono h)⟩
theorem okG {x qual : Str} {st : Stmt} {f : Addr} {fd : FuncData} {N ps : List Str} {k : Nat} {sp : Sp} (F : Fun K x qual st f fd) (S : FnScope N ps (defScope st)) (len : ∀ vs H Q E, sp vs H Q E → vs.length = ps.length)
    (body : ∀ (cdv : Value) (A : Around) (outer : List Env) (s : Shared) (H : Hp) (vs : List V) (Q : VK) (E : XK), (A.deeper (envOfC qual (defScope st) s.heap.objs.size f cdv)).guards = some [] →
      Room k (A.deeper (envOfC qual (defScope st) s.heap.objs.size f cdv)) → sp vs H Q E →
      ∃ t, PSs (cxOf CX0 P w K mg base N qual (defScope st) f cdv A outer s H E).nox (defBody st) t ∧ t { nx := fun _ H' => Q .non H', rt := Q } (start N vs) H) : Gd P w K mg base (k + 1) f fd ps sp := by
  obtain ⟨oc, od, kV, doc, pm, an, cdv, ct, osl, e, lk, hcd⟩ := F.ex
  subst e
  refine ⟨len, ?_⟩
  intro A outer s H args us vs Q E hg hr e0 hb r hsp
  have size := len _ _ _ _ hsp
  have old : ∀ b o, base.get? b = some o → s.heap.get? b = some o := fun b o z => (e0.bs b o z).1
  have KX : K.In s.heap := e0.mod.kin.keeps old
  have kinds : ∀ y ∈ ps.zip us, (defScope st).names.lookup y.1 = some .local ∨ ((defScope st).names.lookup y.1 = some .cell ∧ ((cellsFrom (s.heap.objs.size + 1) (defScope st).names []).lookup y.1).isSome = true) := by
    intro y hy
    obtain ⟨n, v⟩ := y
    cases S.par n (List.of_mem_zip hy).1 with
    | inl q => exact .inl q
    | inr q => exact .inr ⟨q, PySem.W.cellsFrom_some _ _ _ (.inl q)⟩
  apply codeAny_call_function hr.depth (KX _ _ lk) rfl S.co S.gen rfl (PySem.W.codeRec_of KX hcd)
  apply hb
  apply wpAny_newFunctionEnv_cells S.kind kinds
  intro env he s1 x
  subst he
  refine ⟨(e0.mod.nolimit.keeps old).keeps x.toInCall.keep, codeAny_func ?_⟩
  obtain ⟨t, ht, hq⟩ := body cdv A outer s H vs Q E (by exact hg) (hr.deeper _) hsp
  have I := inv_start (CX := CX0) (f := f) (cd := cdv) (qual := qual) (outer := outer) (E := E) S hr.hd e0 size r x
  apply wpAny_mono (ht.nox.run [] s1 (start N vs) H _ I hq)
  · intro fl s' hs
    cases fl with
    | ret u => exact let ⟨v, _, H', J, rv, q⟩ := hs; ⟨v, H', J.os, J.bare, J.base, J.hok, rv, q⟩
    | next => exact let ⟨_, H', J, q⟩ := hs; ⟨V.non, H', J.os, J.bare, J.base, J.hok, rfl, q⟩
    | brk => exact let ⟨_, _, _, q⟩ := hs; q.elim
    | cont => exact let ⟨_, _, _, q⟩ := hs; q.elim
  · exact fun _ _ z => z
end
section
variable {X : Cx} {k : Nat} {f : Addr} {fd : FuncData} {ps : List Str} {sp : Sp} {x : Str} {p pos : Pos} {e : Expr} {es : List Expr} {t : TA}
/-- the call of such a def -/
theorem pe_callG (hG : X.A.guards = some []) (F : Gd X.prog X.w X.K X.mg X.base k f fd ps sp) (hr : Room k X.A) (hg : Gl X x) (hm : X.mg x = some (.ref f)) (hk : PySem.W.keepIn X.K (.ref f) = true) (hb : Binds X.K fd ps [])
    (ha : PA X (e :: es) t) (hdb : (x == ("__debug__" : Str)) = false := by decide) (he : starEach (e :: es) X.env = (false, eval e X.env) :: starEach es X.env := by rfl) (hpl : (backTo pos (starEach es X.env)).any (·.1) = false := by rfl) :
    PE X (.Call (.Name x p) (e :: es) [] pos) (tCall sp [] E0 t) := by
  constructor
  intro pins s σ H Q I h
  apply wpAny_Call_Name_kw (ld_glob I hg hm ?_ hdb)
  apply PySem.W.callWith_K (h₀ := X.base) I.ok.mod.kin hk (thn (ha.run pos pins s σ H _ I h) ?_) he hpl
  rintro us s1 ⟨vs, H1, I1, r, q⟩
  refine ⟨I1.kIn, ?_⟩
  rw [List.append_nil] at q
  have l := F.size _ _ _ _ q
  have b := hb s1 us I1.kIn (by rw [List.append_nil, ← r.length]; exact l)
  rw [List.append_nil] at b
  apply wpAny_call
  apply codeAny_mono (F.go X.A X.stack s1 H1 ⟨us, []⟩ us vs Q E0 hG hr I1.env0 b r q)
  intro res s' hq
  cases res with
  | error er => exact False.elim hq
  | ok fl =>
    cases fl with
    | ret u => exact I1.after hq
    | next => exact hq.elim
    | brk => exact hq.elim
    | cont => exact hq.elim
end

/-! ### the end of a law whose def runs where no repr is under way -/
/-- the law's call, over an abstract heap that tracks the script alone -/
theorem law_at {P : Program} {w : World} {K : PySem.W.Frag} {mg mb : Str → Option Value} {k : Nat} {fa a : Addr} {fd : FuncData} {x : Str} {sp : Sp} {s₁ : Shared} {vs : List Value} (H : Hp)
    (KX : K.In s₁.heap) (gl : s₁.heap.Ns mainGlobals mg) (hb : s₁.heap.Ns builtinsNs mb) (hbb : ∀ x : Str, x ≠ "__name__" → mb x = bootBuiltins x) (hlim : s₁.heap.NoLimit) (hg : s₁.gens = #[])
    (ha : s₁.heap.get? a = some { cls := .type "list", data := .seq vs.toArray }) (hr : Room k callerA)
    (F : ∀ base : Heap, K.In base → base.Ns mainGlobals mg → Gd P w K mg base k fa fd [x] sp) (hbind : ∀ (s : Shared) (u : Value), BindsTo s fd ⟨[u], []⟩ [(x, u)])
    (only : Only H) (lone : ∀ b u, H b = some u → b = a ∧ K.lookup a = none) (hok : HOk P w H s₁.heap) (hsp : sp [.ref a] H (fun v _ => v = .bl true) E0) :
    codeAny (model P w) callerA (.call (.ref fa) ⟨[.ref a], []⟩) (fun r s' => r = .ok (.ret (.bool true)) ∧ OldK s₁.heap s'.heap ∧ s'.os = s₁.os ∧ AllBare s'.gens) s₁ := by
  have isK : ∀ b o, K.lookup b = some o → H b = none := by
    intro b o e
    cases q : H b with
    | none => rfl
    | some u =>
      obtain ⟨z, n⟩ := lone b u q
      rw [z, n] at e
      cases e
  have isD : ∀ b o es ep, s₁.heap.get? b = some o → o.data = .dict es ep → H b = none := by
    intro b o es ep e d
    cases q : H b with
    | none => rfl
    | some u =>
      rw [(lone b u q).1, ha] at e
      cases e
      cases d
  have ns : ∀ {b : Addr} {m : Str → Option Value}, s₁.heap.Ns b m → (hidT s₁.heap H).Ns b m := by
    rintro b m ⟨o, es, ep, e, d, r⟩
    exact ⟨o, es, ep, hidT_get e (isD b o es ep e d), d, r⟩
  have kin : K.In (hidT s₁.heap H) := fun b o e => hidT_get (KX b o e) (isK b o e)
  obtain ⟨mc, l1, l2⟩ := hlim
  have e0 : Env0 P w K mg (hidT s₁.heap H) callerA [] s₁ H := {
    frames := rfl
    mod := ⟨kin, ns gl, ⟨mb, ns hb, hbb⟩, ⟨mc, ns l1, l2⟩⟩
    bs := fun b o e => of_hidT e
    bsz := Nat.le_of_eq (hidT_size _ _)
    funs := trivial
    frf := fun b z => (List.not_mem_nil z).elim
    hok := hok
    bare := .of_eq hg }
  have run := (F _ kin (ns gl)).go callerA [] s₁ H ⟨[.ref a], []⟩ [.ref a] [.ref a] _ _ rfl hr e0 (hbind s₁ (.ref a)) (.cons rfl .nil) hsp
  apply codeAny_mono run
  intro r s' h
  cases r with
  | error er => exact h.elim
  | ok fl =>
    cases fl with
    | next => exact h.elim
    | brk => exact h.elim
    | cont => exact h.elim
    | ret u =>
      obtain ⟨v, H', os, bare, un, hok', r', q⟩ := h
      have q : v = V.bl true := q
      subst q
      have r' : u = Value.bool true := r'
      subst r'
      refine ⟨rfl, OldK.of_keep ?_, os, bare⟩
      intro b o e
      cases q : H b with
      | none => exact un.keep b o e q (List.not_mem_nil) (List.not_mem_nil)
      | some u =>
        rcases only b with z | ⟨ob, xs, z⟩
        · rw [q] at z
          cases z
        · have z2 := (hok' b _ (un.frzs b ob _ z)).1
          rw [(hok b _ z).1] at e
          cases e
          exact z2
theorem law_any {P : Program} {w : World} {K : PySem.W.Frag} {mg mb : Str → Option Value} {k : Nat} {fa a : Addr} {fd : FuncData} {x : Str} {sp : Sp} {s₁ : Shared} {vs : List Value} {ns : List Int}
    (KX : K.In s₁.heap) (gl : s₁.heap.Ns mainGlobals mg) (hb : s₁.heap.Ns builtinsNs mb) (hbb : ∀ x : Str, x ≠ "__name__" → mb x = bootBuiltins x) (hlim : s₁.heap.NoLimit) (hg : s₁.gens = #[])
    (ha : s₁.heap.get? a = some { cls := .type "list", data := .seq vs.toArray }) (hi : IntsAre vs ns) (hl : ns.length ≤ sizeLine) (hr : Room k callerA)
    (F : ∀ base : Heap, K.In base → base.Ns mainGlobals mg → Gd P w K mg base k fa fd [x] sp) (hbind : ∀ (s : Shared) (u : Value), BindsTo s fd ⟨[u], []⟩ [(x, u)])
    (hsp : ∀ H : Hp, Only H → SqL K H a (ns.map V.int) → sp [.ref a] H (fun v _ => v = .bl true) E0) :
    codeAny (model P w) callerA (.call (.ref fa) ⟨[.ref a], []⟩) (fun r s' => r = .ok (.ret (.bool true)) ∧ OldK s₁.heap s'.heap ∧ s'.os = s₁.os ∧ AllBare s'.gens) s₁ := by
  have rv := vals_ints hi
  have len : vs.length = ns.length := hi.length
  cases hk : K.lookup a with
  | some o =>
    have e := KX a o hk
    rw [ha] at e
    cases e
    have sq : SqL K (fun _ => none) a (ns.map V.int) := .inr ⟨_, vs.toArray, _, hk, rfl, rfl, rfl, by rw [List.size_toArray, len]; exact hl, by simpa using rv⟩
    exact law_at (fun _ => none) KX gl hb hbb hlim hg ha hr F hbind (fun _ => .inl rfl) (fun _ _ z => by cases z) (fun b u z => by cases z) (hsp _ (fun _ => .inl rfl) sq)
  | none =>
    let frozen : HO := .frz { cls := .type "list", data := .seq vs.toArray } (.lst (ns.map V.int))
    let H : Hp := fun b => if b = a then some frozen else none
    have at_a : H a = some frozen := if_pos rfl
    have none_else : ∀ b, b ≠ a → H b = none := fun b n => if_neg n
    have one : ∀ b u, H b = some u → b = a ∧ u = frozen := by
      intro b u z
      by_cases n : b = a
      · subst n
        rw [at_a] at z
        exact ⟨rfl, (Option.some.inj z).symm⟩
      · rw [none_else b n] at z
        cases z
    have only : Only H := by
      intro b
      by_cases n : b = a
      · subst n
        exact .inr ⟨_, _, at_a⟩
      · exact .inl (none_else b n)
    refine law_at H KX gl hb hbb hlim hg ha hr F hbind only (fun b u z => ⟨(one b u z).1, hk⟩) ?_ (hsp H only (.inl (.inr ⟨_, at_a⟩)))
    intro b u z
    obtain ⟨e1, e2⟩ := one b u z
    subst e1 e2
    exact ⟨ha, by rw [List.length_map]; exact hl, vs, _, rv, ha⟩
theorem walkG {l : PySem.W.OpenLaw} {n k : Nat} {q : Program} {loose : List Str} {XP : (Str → Option Value) → Heap → Prop} {YP : World → Heap → Prop} {d : DefRec} {K : Params → PySem.W.Frag} {sp : PySem.W.Frag → Sp} {x : Str}
    (hn : l.most = some n) (hn2 : n ≤ sizeLine) (hdf : d.params.defaults = []) (hr : Room k callerA) (hY : ∀ (w : World) (h : Heap), YP w h → (K w.params).In h)
    (F : ∀ (w : World) (mg : Str → Option Value) (fa : Addr) (h : Heap), (K w.params).In h → h.Ns mainGlobals mg → mg d.name = some (.ref fa) →
      ∃ fd : FuncData, (∀ (s : Shared) (u : Value), BindsTo s fd ⟨[u], []⟩ [(x, u)]) ∧ ∀ base : Heap, (K w.params).In base → base.Ns mainGlobals mg → Gd l.prog w (K w.params) mg base k fa fd [x] (sp (K w.params)))
    (hsp : ∀ (K : PySem.W.Frag) (H : Hp) (a : Addr) (ns : List Int), ns.length ≤ n → (∀ z ∈ ns, Builtin.Int.intBits z ≤ 1048576) → SqL K H a (ns.map V.int) → sp K [.ref a] H (fun v _ => v = .bl true) E0) :
    PySem.W.WalkO q loose XP YP l.row.toRowW d [] (fun f vs => PySem.call f vs) := by
  apply Att.attach_callB hn hdf
  intro w s₀ s₁ mg mb fa o pm cd doc a vs ns G Y ho hd hcd hmg hobj hints hlen hbits hg
  have KX := hY w _ Y
  obtain ⟨fd, hb, hF⟩ := F w mg fa _ KX G.T.g hmg
  exact law_any KX G.T.g G.T.b G.T.builtins G.T.nolimit hg hobj hints (Nat.le_trans hlen hn2) hr hF hb fun H _ hS => hsp _ H a ns hlen hbits hS
end Sf

namespace Sf
open PySem PySem.Spec PyProof.Rows L2
/-! ### numbers of any size -/
def CMulX (i j : Int) : Prop := Builtin.Int.intBits i + Builtin.Int.intBits j ≤ 100000000
def CPowX (i j : Int) : Prop := 0 ≤ j ∧ (Builtin.Int.intBits i : Int) * j ≤ 100000000
section
variable {X : Cx}
theorem op_mulX : OpR X (binaryOp .Mult) (rI CMulX fun i j => .int (i * j)) := opI fun i j _ _ _ _ _ hc q => mul_int q (by
  unfold IntMulOk
  intro z
  rw [Bool.and_eq_true] at z
  have z2 := z.2
  unfold Builtin.Int.intTooBig at z2
  have z3 := of_decide_eq_true z2
  have e : bitsLine = 134217728 := by decide
  have hc' : Builtin.Int.intBits i + Builtin.Int.intBits j ≤ 100000000 := hc
  rw [e] at z3
  omega)
theorem op_powX : OpR X (binaryOp .Pow) (rI CPowX fun i j => .int (i ^ j.toNat)) := opI fun i j _ _ _ _ _ hc q => pow_int hc.1 (by
  exact Int.le_trans hc.2 (by decide)) q
end

theorem bits_le {x : Int} {n : Nat} (h : x.natAbs < 2 ^ n) : Builtin.Int.intBits x ≤ n := by
  unfold Builtin.Int.intBits
  split
  · exact Nat.zero_le _
  · rename_i hx
    have x0 : x.natAbs ≠ 0 := fun z => hx (by rw [Int.natAbs_eq_zero.mp z]; rfl)
    have := (Nat.log2_lt x0).mpr h
    omega
theorem bits_in {x : Int} {n : Nat} (h0 : 0 ≤ x) (h : x < 2 ^ n) : Builtin.Int.intBits x ≤ n := by
  apply bits_le
  have e : (x.natAbs : Int) = x := Int.natAbs_of_nonneg h0
  have e2 : ((2 ^ n : Nat) : Int) = 2 ^ n := by simp
  omega
theorem pow_ok {x j : Int} {n : Nat} (h0 : 0 ≤ x) (h : x < 2 ^ n) (hj : 0 ≤ j) (hn : (n : Int) * j ≤ 100000000) : (Builtin.Int.intBits x : Int) * j ≤ 100000000 :=
  Int.le_trans (Int.mul_le_mul_of_nonneg_right (by have := bits_in h0 h; omega) hj) hn

/-! ### where draws come from: three numbers in a list -/
/-- at a the sack, behind at most n draws -/
def Sk (n : Nat) (H : Hp) (a : Addr) : Prop := ∃ p q r : Int, H a = some (.lst [.int p, .int q, .int r]) ∧ 0 ≤ q ∧ q < 2 ^ 90 ∧ 0 ≤ r ∧ r ≤ n
/-- all but what stands at a is as it was -/
def Kp (a : Addr) (H H' : Hp) : Prop := ∀ b o, b ≠ a → H b = some o → H' b = some o
theorem Kp.refl (a : Addr) (H : Hp) : Kp a H H := fun _ _ _ h => h
theorem Kp.trans {a : Addr} {H H1 H2 : Hp} (x : Kp a H H1) (y : Kp a H1 H2) : Kp a H H2 := fun b o n h => y b o n (x b o n h)
theorem Sk.mono {n m : Nat} {H : Hp} {a : Addr} (h : Sk n H a) (l : n ≤ m) : Sk m H a := by
  obtain ⟨p, q, r, e, h1, h2, h3, h4⟩ := h
  exact ⟨p, q, r, e, h1, h2, h3, by omega⟩
def spCoin : Sp := fun vs H Q _ => ∃ (a : Addr) (n : Nat) (m : Int), vs = [.ref a, .int m] ∧ Sk n H a ∧ n ≤ 1000000000 ∧ 0 < m ∧ m < 2 ^ 200 ∧
  ∀ z H', 0 ≤ z → z < m → Sk (n + 1) H' a → Kp a H H' → Q (.int z) H'
/-- a def that can be called: its promise, how its arguments bind -/
structure Cal (P : Program) (w : World) (K : PySem.W.Frag) (mg : Str → Option Value) (base : Heap) (k : Nat) (f : Addr) (fd : FuncData) (ps : List Str) (sp : Sp) : Prop where
  ok : FnOk P w K mg base CX0 k f fd ps sp
  binds : Binds K fd ps []
structure CalG (P : Program) (w : World) (K : PySem.W.Frag) (mg : Str → Option Value) (base : Heap) (k : Nat) (f : Addr) (fd : FuncData) (ps : List Str) (sp : Sp) : Prop where
  go : Gd P w K mg base k f fd ps sp
  binds : Binds K fd ps []
end Sf

namespace Sf
open PySem PySem.Spec PySem.Calls L2 PySem.HandSPX
/-! ### an own error class called with a keyword -/
section
variable {prog : Program} {w : World} {A : Around} {E : Value → Shared → Prop} {R : Result → Shared → Prop} {h : Heap} {g : Array GenState} {d : Drawn} {t : Nat} {os : OsState}
variable {nm q : Str} {C N : Addr} {bs bm bmB : List Value} {hdct : Bool} {sn : List Str} {sub : List Value} {ab : Bool} {col : Option Bool} {dd : Option Addr} {k0 k1 k2 k3 k5 : Option Value} {B newId initId : String}
theorem newK (F : ExcBaseFacts B newId initId bmB) (hT : ∀ Y : String, bm.contains (.type Y) = bmB.contains (.type Y)) {kw : List (Str × Value)}
    (hC : h.get? C = some (excClassObj nm q C N bs bm hdct sn sub ab col dd k0 k1 k2 k3 k5 newId))
    (hq : R (.ok (.ret (.ref (h.objs.size + 1)))) ⟨(h.push (W.kdv_tup [])).push (excO C h.objs.size), g, d, t, os⟩) :
    codeAny (model prog w) A (.builtin newId ⟨[.ref C], kw⟩) R ⟨h, g, d, t, os⟩ := by
  have ends := F.ends
  have isB : (Value.ref C :: bm).contains (.type B) = true := by rw [List.contains_cons, hT, F.hasB, Bool.or_true]
  have noA : (Value.ref C :: bm).contains (.type "AttributeError") = false := by rw [List.contains_cons, hT, F.noAttr]; rfl
  have noN : (Value.ref C :: bm).contains (.type "NameError") = false := by rw [List.contains_cons, hT, F.noName]; rfl
  apply codeAny_builtinAt F.entry
  unfold Builtin.«BaseException.__new__»
  apply wpAt_bind
  show wpAt _ _ _ (stack >>= _) _ _ _
  refine wpAt_bind (wpAt_stack fun _ _ => wpAt_of_wpAny ?_)
  wp_walk
  apply wpAt_of_wpAny
  rw [F.owner]
  repeat (first | with_reducible refine wpAny_madeHere_exc F.canon hC ?_ | with_reducible refine wpAny_loadPart_at hC ?_ | (with_reducible refine wpAny_isSubtype_exc hC ?_; (first | rw [isB] | rw [noA] | rw [noN])) | wp_step)
  show R _ _
  rw [Heap.size_push]
  exact hq
theorem checkK (F : ExcBaseFacts B newId initId bmB) (hT : ∀ Y : String, bm.contains (.type Y) = bmB.contains (.type Y)) {kw : List (Str × Value)} {M : Model} {Q : Unit → Shared → Prop}
    (hC : h.get? C = some (excClassObj nm q C N bs bm hdct sn sub ab col dd k0 k1 k2 k3 k5 newId)) (hq : Q () ⟨h, g, d, t, os⟩) : wpAny M A (checkBuiltinCall newId ⟨[.ref C], kw⟩) Q E ⟨h, g, d, t, os⟩ := by
  have isB : (Value.ref C :: bm).contains (.type B) = true := by rw [List.contains_cons, hT, F.hasB, Bool.or_true]
  have star := F.noStar
  simp only [checkBuiltinCall, F.newKind, F.newSplit, F.newRow]
  repeat (first | refine wpAny_loadPart_at hC ?_ | (refine wpAny_isSubtype_exc hC ?_; rw [isB]) | refine wpAny_staticBase_exc hC ?_ | refine wpAny_madeBy_exc hC ?_ | (simp only [bne_self_eq_false, Bool.false_eq_true, if_false]) | wp_step)
  exact hq
theorem checkTK {M : Model} {kw : List (Str × Value)} {Q : Unit → Shared → Prop} (hC : h.get? C = some (excClassObj nm q C N bs bm hdct sn sub ab col dd k0 k1 k2 k3 k5 newId))
    (hq : Q () ⟨h, g, d, t, os⟩) : wpAny M A (checkBuiltinCall "type.__call__" ⟨[.ref C], kw⟩) Q E ⟨h, g, d, t, os⟩ := by
  have ts := tc_sub
  have ty : (⟨h, g, d, t, os⟩ : Shared).TypeIs (.ref C) "type" := ⟨_, hC, rfl⟩
  simp only [checkBuiltinCall, tc_kind, tc_split]
  repeat (any_goals (first | assumption | with_reducible refine wpAny_loadPart_at hC ?_ | with_reducible refine wpAny_onRaise ?_ | with_reducible refine wpAny_map ?_ | wp_step))
theorem typeK (F : ExcBaseFacts B newId initId bmB) (hT : ∀ Y : String, bm.contains (.type Y) = bmB.contains (.type Y)) {kw : List (Str × Value)} {fI : Addr} {Q : Fin → Shared → Prop}
    (hC : h.get? C = some (excClassObj nm q C N bs bm hdct sn sub ab col dd k0 k1 k2 k3 k5 newId))
    (hi : W.Looks (model prog w) h (typeLookup (.ref C) "__init__") (some (.ref fI))) (hb : ∀ self, W.Looks (model prog w) h (bindSpecial (.ref fI) self) (.ref fI, [self]))
    (hq : codeAny (model prog w) A (.call (.ref fI) ⟨[.ref (h.objs.size + 1)], kw⟩)
      (fun r s' => match r with | .ok (.ret v) => v = .none ∧ Q (.done (.ret (.ref (h.objs.size + 1)))) s' | .ok _ => False | .error e => E e s')
      ⟨(h.push (W.kdv_tup [])).push (excO C h.objs.size), g, d, t, os⟩) :
    wpAny (model prog w) A (Builtin.«type.__call__» ⟨[.ref C], kw⟩) Q E ⟨h, g, d, t, os⟩ := by
  repeat (first | with_reducible refine wpAny_loadPart_at hC ?_ | with_reducible refine wpAny_madeBy_exc hC ?_ | wp_step)
  apply codeAny_call_builtin_code (Code.quiet_builtin _ F.quiet) (checkK F hT hC ?_)
  apply newK F hT hC
  show wpAny _ _ _ _ _ _
  have old : ∀ b o, h.get? b = some o → ((h.push (W.kdv_tup [])).push (excO C h.objs.size)).get? b = some o := fun b o e => Heap.get?_push_of_some _ (Heap.get?_push_of_some _ e)
  have hC2 := old _ _ hC
  have here : ((h.push (W.kdv_tup [])).push (excO C h.objs.size)).get? (h.objs.size + 1) = some (excO C h.objs.size) := by heap_get
  have self : (Value.ref C :: bm).contains (.ref C) = true := by simp
  have look := hi.keeps old
  have bind := (hb (.ref (h.objs.size + 1))).keeps old
  unfold isInstance
  repeat (first | with_reducible refine wpAny_loadPart_at here ?_ | (with_reducible refine wpAny_isSubtype_exc hC2 ?_; rw [self]) | wp_step)
  show wpAny _ _ (typeLookup (.ref C) _) _ _ _
  apply look.at
  apply wpAny_holding (wpAny_bind (bind.at ?_))
  apply wpAny_bind (wpAny_call (codeAny_mono hq ?_))
  intro r s' z
  cases r with
  | error e => exact z
  | ok fl =>
    cases fl with
    | ret v =>
      obtain ⟨rfl, z⟩ := z
      first | exact wpAny_pure (wpAny_pure z) | (wp_walk; exact z)
    | next => exact z.elim
    | brk => exact z.elim
    | cont => exact z.elim
theorem callK (F : ExcBaseFacts B newId initId bmB) (hT : ∀ Y : String, bm.contains (.type Y) = bmB.contains (.type Y)) {kw : List (Str × Value)} {fI : Addr}
    (hC : h.get? C = some (excClassObj nm q C N bs bm hdct sn sub ab col dd k0 k1 k2 k3 k5 newId))
    (hi : W.Looks (model prog w) h (typeLookup (.ref C) "__init__") (some (.ref fI))) (hb : ∀ self, W.Looks (model prog w) h (bindSpecial (.ref fI) self) (.ref fI, [self]))
    (hq : codeAny (model prog w) (A.under (.builtin "type.__call__" ⟨[.ref C], kw⟩)) (.call (.ref fI) ⟨[.ref (h.objs.size + 1)], kw⟩) (W.InitBack (h.objs.size + 1) R)
      ⟨(h.push (W.kdv_tup [])).push (excO C h.objs.size), g, d, t, os⟩) : codeAny (model prog w) A (.call (.ref C) ⟨[], kw⟩) R ⟨h, g, d, t, os⟩ := by
  have lk := tc_lookup
  have bd := tc_bind (.ref C)
  have ty : (⟨h, g, d, t, os⟩ : Shared).TypeIs (.ref C) "type" := ⟨_, hC, rfl⟩
  apply codeAny_of_tree
  show wpAny _ _ (callAny (.ref C) _) _ _ _
  repeat (any_goals (first | assumption | with_reducible refine wpAny_loadPart_at hC ?_ | wp_step))
  refine ⟨rfl, ?_⟩
  apply codeAny_call_builtin_at (Code.quiet_builtin _ (by decide +kernel)) entry_typeCall (checkTK hC (typeK F hT hC hi hb ?_))
  apply codeAny_mono hq
  intro r s' z
  cases r with
  | error e => exact z
  | ok fl => cases fl <;> exact z
end
end Sf
namespace Sf
open PySem PySem.Spec PyProof.Rows L2
/-! ### the readings over it -/
/-- C(k = v, ..), C's __init__ keeping sp -/
def tMkK (C : Addr) (sp : Sp) (gV : List V → List V → List V) (n : Nat) (tk : TA) : L2.St → Hp → XK → Prop := fun σ H Q => tk σ H fun zs H1 => zs.length = n ∧ ∀ a, H1 a = none →
  sp (gV [.ref a] zs) (upd H1 a (exo a C none)) (fun v H2 => v = .non ∧ ∃ (d : Addr) (fs : List (Str × V)), H2 a = some (exo a C (some d)) ∧ H2 d = some (exd d fs) ∧ H1 d = none ∧
    Q (.ref C) (some d) (upd (del H2 a) d (.xd fs))) E0
section
variable {X : Cx} {x : Str} {C fI : Addr} {k : Nat} {fd : FuncData} {ps ks : List Str} {sp : Sp} {g : List Value → List Value → List Value} {gV : List V → List V → List V} {kws : List Keyword} {tk : TA} {p pos : Pos}
theorem pmk_kw (T : OexC X.K C) (iC : PySem.W.findIn X.K (.ref C) "__init__" = some (some (.ref fI))) (tI : PySem.W.typeIn X.K (.ref fI) = some (.type "function"))
    (F1 : FnOk X.prog X.w X.K X.mg X.base CX0 k fI fd ps sp) (hr : Room (k + 1) X.A) (hb : KBn X.K fd ps 1 ks g gV) (hg : Gl X x) (hm : X.mg x = some (.ref C)) (hkw : PK X kws tk)
    (hall : (backToKw pos (keywordEach kws X.env)).all (·.1.isSome) = true := by rfl) (hks : (backToKw pos (keywordEach kws X.env)).filterMap (·.1) = ks := by rfl) (hdb : (x == ("__debug__" : Str)) = false := by decide)
    (hpl : ((backTo pos (starEach [] X.env)).any (·.1) || (backToKw pos (keywordEach kws X.env)).any (·.1.isNone)) = false := by rfl) :
    PMk X (.Call (.Name x p) [] kws pos) (tMkK C sp gV ks.length tk) := by
  intro pins s σ H Q I h
  obtain ⟨nm, q, N, bs, bm, sn, sub, ab, col, dd, k0, k1, k2, k3, k5, hC, hbm⟩ := T.cls
  apply wpAny_Call_Name_kw (ld_glob I hg hm ?_ hdb)
  apply PySem.W.callWith_KW0 (h₀ := X.base) I.ok.mod.kin T.kC hall ?_ hpl
  apply thn (hkw.run pos pins s σ H _ I h)
  rintro ws s1 ⟨zs, H1, I1, rz, len, q1⟩
  refine ⟨I1.kIn, ?_⟩
  rw [hks]
  show wpAny _ _ (call (.ref C) [] (ks.zip ws)) _ _ _
  obtain ⟨hp, g0, dr, t0, os⟩ := s1
  have free : H1 (hp.objs.size + 1) = none := I1.hok.fresh (Nat.le_succ _)
  have want := q1 (hp.objs.size + 1) free
  have old : ∀ b o, hp.get? b = some o → ((hp.push (PySem.W.kdv_tup [])).push (PySem.HandSPX.excO C hp.objs.size)).get? b = some o := fun b o e => Heap.get?_push_of_some _ (Heap.get?_push_of_some _ e)
  have here : ((hp.push (PySem.W.kdv_tup [])).push (PySem.HandSPX.excO C hp.objs.size)).get? (hp.objs.size + 1) = some (PySem.HandSPX.excO C hp.objs.size) := by heap_get
  have I2 := I1.laid (t' := t0) (a := hp.objs.size + 1) (o := exo (hp.objs.size + 1) C none) old (Nat.le_succ _) (exo_ok here)
  have n2 : ws.length = ks.length := by rw [← rz.length]; exact len
  have r2 := hb.rel (Paired.cons (F := RelV) (show RelV (V.ref (hp.objs.size + 1)) (Value.ref (hp.objs.size + 1)) from rfl) .nil) rz
  apply wpAny_call
  apply callK F.excBase_ValueError (fun Y => PySem.HandSPX.refsVE_contains Y bm hbm) (I1.kIn _ _ hC) (PySem.W.looks_findIn I1.kIn iC) (fun self => PySem.W.bind_fn I1.kIn self tI)
  apply codeAny_mono (F1.run _ X.stack _ _ ⟨[Value.ref (hp.objs.size + 1)], ks.zip ws⟩ _ _ _ E0 (hr.make C [] (ks.zip ws)) (I2.env0.make C [] (ks.zip ws)) (hb.to _ [Value.ref (hp.objs.size + 1)] ws I2.kIn rfl n2) r2 want)
  intro r s' hq
  cases r with
  | error er => exact False.elim hq
  | ok fl =>
    cases fl with
    | ret u =>
      obtain ⟨v, H2, os2, bare2, un2, hok2, rv, ev, d, fs, ea, ed, hd1, q2⟩ := hq
      subst ev
      obtain ⟨h2, g2, d2, t2, os'⟩ := s'
      exact ⟨rv, mk_end (raises_own T.exC T.tyC) I1 (Nat.le_succ _) old un2 hok2 os2 bare2 ea ed hd1 q2⟩
    | next => exact hq.elim
    | brk => exact hq.elim
    | cont => exact hq.elim
end
end Sf
namespace Sf
open PySem PySem.Spec PyProof.Rows L2
/-! ### a caught error: isinstance -/
/-- what a class of errors must say, so that isinstance asks its instances rightly -/
structure IsiC (K : PySem.W.Frag) (C : Addr) : Prop where
  cl : (PySem.W.clsIn K C).isSome = true
  ga : PySem.W.findIn K (.ref C) "__getattribute__" = some (some (.builtin "BaseException.__getattribute__"))
  gg : PySem.W.findIn K (.ref C) "__getattr__" = some none
  sub : PySem.W.subIn K (.ref C) (.type "BaseException") = some true
  kl : PySem.W.findIn K (.ref C) "__class__" = some (some (.builtin "object.__class__"))
  sp : PySem.W.specialIn K (.builtin "object.__class__") "__get__" = some (some (.builtin "getset_descriptor.__get__"))
  tk : PySem.W.takesIn K (.builtin "object.__class__") = some true
  ob : PySem.W.mroIn K C (.type "object") = some true
/-- isinstance(e, c), e the error that the suite holds: at a, its class cls, its own dict d -/
def rIsX (K : PySem.W.Frag) (a : Addr) (cls : Value) (d : Option Addr) : List V → Hp → VK → Prop := fun xs H Q => ∃ (C dd : Addr) (fs : List (Str × V)) (c : V) (cv : Value) (b : Bool),
  cls = .ref C ∧ d = some dd ∧ xs = [.ref a, c] ∧ H dd = some (.xd fs) ∧ IsiC K C ∧ (∀ u, RelV c u → u = cv) ∧ PySem.W.kitOne K (.ref C) cv = some b ∧ Q (.bl b) H
theorem call_isX {X : Cx} {a : Addr} {cls : Value} {d : Option Addr} {oe : Obj} {pn : List (Addr × Obj)} (hz : Zc cls d oe) (hf : ∃ vs, oe.data = .fields vs) : CallR (X.suite a ((a, oe) :: pn)) (.builtin "isinstance") (rIsX X.K a cls d) := by
  intro pins s σ H xs us Q I r h
  obtain ⟨C, dd, fs, c, cv, b, ec, ed, rfl, hdd, T, hcv, ek, q⟩ := h
  subst ec
  subst ed
  cases r with
  | cons rx r1 =>
    cases r1 with
    | cons rc r2 =>
      cases r2
      have e1 : _ = Value.ref a := rx
      subst e1
      have e2 := hcv _ rc
      subst e2
      obtain ⟨ha, _⟩ := I.pin (a, oe) (List.mem_append_left _ List.mem_cons_self)
      obtain ⟨vs, hv⟩ := hf
      have ob : ObjOk X.prog X.w H s.heap dd (.xd fs) := I.hok dd _ hdd
      obtain ⟨mA, hns, _⟩ := ob
      obtain ⟨od, ho, _⟩ := lookIn_ns hns
      have J : PySem.W.InstAt s.heap a oe C (some od) := ⟨ha, hz.1, by unfold PySem.W.notCls; rw [hv] <;> rfl, by rw [hz.2]; exact ho⟩
      exact PySem.W.kia_one (PySem.W.kitx_exc T.cl T.ga T.gg T.sub T.kl T.sp T.tk T.ob) I.kIn J ek (fun z => nomatch z) fun t => ⟨.bl b, H, I.kept (t' := t) fun _ _ z => z, rfl, q⟩
/-- a class of errors over FilmError, whose __init__ stands at fI -/
structure ErrC (K : PySem.W.Frag) (C fI : Addr) : Prop where
  oe : OexC K C
  iC : PySem.W.findIn K (.ref C) "__init__" = some (some (.ref fI))
  tI : PySem.W.typeIn K (.ref fI) = some (.type "function")
  no : PySem.W.findIn K (.ref C) "value" = some none
  xf : XfC K C
  isi : IsiC K C
/-- FilmError.__init__(self, value) -/
def spErrInit (K : PySem.W.Frag) : Sp := fun vs H Q _ => ∃ (a C : Addr) (v : V), vs = [.ref a, v] ∧ H a = some (exo a C none) ∧ OexC K C ∧ PySem.W.findIn K (.ref C) "value" = some none ∧
  ∀ dx, H dx = none → dx ≠ a → Q .non (upd (upd H dx (exd dx [(("value" : Str), v)])) a (exo a C (some dx)))
/-- behind the making of an error: its own dict alone is new -/
theorem made_err {H : Hp} {a d : Addr} {o u : HO} {fs : List (Str × V)} (ha : H a = none) (nd : d ≠ a) : upd (del (upd (upd (upd H a o) d (exd d fs)) a u) a) d (.xd fs) = upd H d (.xd fs) := by
  funext b
  by_cases h1 : b = d
  · subst h1
    rw [upd_same, upd_same]
  · rw [upd_ne h1, upd_ne h1]
    by_cases h2 : b = a
    · subst h2
      rw [del_same, ha]
    · rw [del_ne h2, upd_ne h2, upd_ne h1, upd_ne h2]
/-- an error raised: its own dict alone is new -/
theorem err_made {K : PySem.W.Frag} {C fI : Addr} (T : ErrC K C fI) {v : V} {H : Hp} {Q : XK} (k : ∀ d, H d = none → Q (.ref C) (some d) (upd H d (.xd [(("value" : Str), v)]))) : ∀ a, H a = none →
    spErrInit K [.ref a, v] (upd H a (exo a C none)) (fun u H2 => u = .non ∧ ∃ (d : Addr) (fs : List (Str × V)), H2 a = some (exo a C (some d)) ∧ H2 d = some (exd d fs) ∧ H d = none ∧
      Q (.ref C) (some d) (upd (del H2 a) d (.xd fs))) E0 := by
  intro a ha
  refine ⟨a, C, v, rfl, upd_same, T.oe, T.no, fun dx hdx ne => ⟨rfl, dx, [(("value" : Str), v)], upd_same, ?_, ?_, ?_⟩⟩
  · rw [upd_ne ne, upd_same]
  · rw [upd_ne ne] at hdx
    exact hdx
  · rw [made_err ha ne]
    rw [upd_ne ne] at hdx
    exact k dx hdx
/-- e.value in an except suite -/
def tErrV (K : PySem.W.Frag) (a : Addr) (cls : Value) (d : Option Addr) (te : TE) : TE := fun σ H Q => te σ H fun x H1 => x = .ref a ∧ ∃ (C fI dd : Addr) (v : V), cls = .ref C ∧ d = some dd ∧ ErrC K C fI ∧ H1 dd = some (.xd [(("value" : Str), v)]) ∧ Q v H1
theorem pe_errv {X : Cx} {a : Addr} {oe : Obj} {cls : Value} {d : Option Addr} {pn : List (Addr × Obj)} {e : Expr} {te : TE} {pos : Pos} (hz : Zc cls d oe) (hf : ∃ vs, oe.data = .fields vs) (he : PE (X.suite a ((a, oe) :: pn)) e te)
    (hb : attributeBase e "value" X.env (eval e X.env) = eval e X.env := by rfl) : PE (X.suite a ((a, oe) :: pn)) (.Attribute e "value" pos) (tErrV X.K a cls d te) := by
  constructor
  intro pins s σ H Q I h
  apply attr_of hb
  apply thn (he.run pins s σ H _ I h)
  rintro u s1 ⟨x, H1, I1, rx, ex, C, fI, dd, v, ec, ed, T, hdd, q⟩
  subst ex ec ed
  have eu : u = Value.ref a := rx
  subst eu
  obtain ⟨ha, _⟩ := I1.pin (a, oe) (List.mem_append_left _ List.mem_cons_self)
  obtain ⟨vs, hd⟩ := hf
  have ob : ObjOk X.prog X.w H1 s1.heap dd (.xd [(("value" : Str), v)]) := I1.hok dd _ hdd
  obtain ⟨mA, hns, hr⟩ := ob
  obtain ⟨od, ho, hl⟩ := lookIn_ns hns
  have l : List.lookup ("value" : Str) [(("value" : Str), v)] = some v := by simp [List.lookup]
  obtain ⟨u, hu, ru⟩ := RelO.some_of (v := v) (o := mA "value") (by rw [← l]; exact hr "value")
  have J : PySem.W.InstAt s1.heap a oe C (some od) := ⟨ha, hz.1, by unfold PySem.W.notCls; rw [hd] <;> rfl, by rw [hz.2]; exact ho⟩
  exact HandSPX.exc_get I1.kIn J T.xf.ga T.xf.gg T.xf.exC (PySem.W.findObj_own T.xf.hdC T.no rfl (by rw [hl, hu])) (handed_of ru) ⟨v, H1, I1.tok _, ru, q⟩
structure CalX (P : Program) (w : World) (K : PySem.W.Frag) (mg : Str → Option Value) (base : Heap) (k : Nat) (f : Addr) (fd : FuncData) (ps : List Str) (sp : Sp) : Prop where
  ok : FnOk P w K mg base (L2.CX P w) k f fd ps sp
  binds : Binds K fd ps []
theorem upd_old {H : Hp} {d p : Addr} {o u : HO} (h : H d = some o) (n : H p = none) : upd H p u d = some o := (upd_ne (ne_of_none h n)).trans h
theorem free_old {H : Hp} {d p : Addr} {u : HO} (h : upd H p u d = none) : H d = none ∧ d ≠ p := by
  by_cases z : d = p
  · rw [z, upd_same] at h
    cases h
  · rw [upd_ne z] at h
    exact ⟨h, z⟩
theorem same_new {S H : Hp} {p : Addr} {u : HO} (s : Same S H) (n : H p = none) : Same S (upd H p u) := fun b o h => upd_old (s b o h) n
theorem kit_sub {K : PySem.W.Frag} {t : Value} {D : Addr} {b : Bool} (c : PySem.W.isClsIn K D = true) (ty : PySem.W.typeIn K (.ref D) = some (.type "type")) (s : PySem.W.subIn K t (.ref D) = some b) : PySem.W.kitCls K t (.ref D) = some b := by
  have c' : (PySem.W.clsIn K D).isSome = true := c
  have e : ((PySem.W.clsIn K D).isSome && PySem.W.typeIn K (.ref D) == some (.type "type")) = true := by rw [c', ty]; rfl
  show (if ((PySem.W.clsIn K D).isSome && PySem.W.typeIn K (.ref D) == some (.type "type")) = true then PySem.W.subIn K t (.ref D) else none) = some b
  rw [if_pos e]
  exact s
theorem kit_one {K : PySem.W.Frag} {C D : Addr} {b : Bool} (c : PySem.W.isClsIn K D = true) (ty : PySem.W.typeIn K (.ref D) = some (.type "type")) (s : PySem.W.subIn K (.ref C) (.ref D) = some b) (r : C = D → b = true) : PySem.W.kitOne K (.ref C) (.ref D) = some b := by
  unfold PySem.W.kitOne
  split
  · rename_i z
    rw [r (Value.ref.inj (beq_iff_eq.mp z))]
  · exact kit_sub c ty s
theorem kit_exm {K : PySem.W.Frag} {C D : Addr} {b : Bool} (e : PySem.W.subIn K (.ref D) (.type "BaseException") = some true) (c : PySem.W.isClsIn K D = true) (ty : PySem.W.typeIn K (.ref D) = some (.type "type")) (s : PySem.W.subIn K (.ref C) (.ref D) = some b) :
    PySem.W.exmOne K (.ref C) (.ref D) = some b := by
  unfold PySem.W.exmOne
  rw [e, if_pos (by decide)]
  exact kit_sub c ty s
theorem kit_ve {K : PySem.W.Frag} {C : Addr} (s : PySem.W.subIn K (.ref C) (.type "ValueError") = some true) : PySem.W.kitOne K (.ref C) (.type "ValueError") = some true := by
  have e : PySem.W.kitOne K (.ref C) (.type "ValueError") = PySem.W.subIn K (.ref C) (.type "ValueError") := rfl
  rw [e, s]
end Sf

namespace Sf
open PySem PySem.Spec PyProof.Rows L2
/-! ### data: what stays, sizes of what is shown -/
theorem sameL {K : PySem.W.Frag} {S H : Hp} (s : Same S H) {a : Addr} {xs : List V} (h : SqL K S a xs) : SqL K H a xs := s.seq h
theorem sameT {K : PySem.W.Frag} {S H : Hp} (s : Same S H) {a : Addr} {xs : List V} (h : SqT K S a xs) : SqT K H a xs := by
  rcases h with (h | ⟨o, h⟩) | h
  · exact .inl (.inl (s _ _ h))
  · exact .inl (.inr ⟨o, s _ _ h⟩)
  · exact .inr h
mutual
theorem Dp.mono {K : PySem.W.Frag} {S H : Hp} (s : Same S H) : ∀ (d : PyData) (v : V), Dp K S v d → Dp K H v d
  | .none, _, h => by cases h; exact .non
  | .bool _, _, h => by cases h; exact .bl _
  | .int _, _, h => by cases h; exact .int _
  | .str _, _, h => by cases h; exact .str _
  | .list ds, _, h => by cases h with | lst e a => exact .lst (sameL s e) (DpAll.mono s ds _ a)
  | .tuple ds, _, h => by cases h with | tup e a => exact .tup (sameT s e) (DpAll.mono s ds _ a)
  | .dict _, _, h => by cases h
theorem DpAll.mono {K : PySem.W.Frag} {S H : Hp} (s : Same S H) : ∀ (ds : List PyData) (vs : List V), DpAll K S vs ds → DpAll K H vs ds
  | [], _, h => by cases h; exact .nil
  | d :: ds, _, h => by cases h with | cons a b => exact .cons (Dp.mono s d _ a) (DpAll.mono s ds _ b)
end
theorem DpAll.append {K : PySem.W.Frag} {H : Hp} : ∀ {vs ws : List V} {ds es : List PyData}, DpAll K H vs ds → DpAll K H ws es → DpAll K H (vs ++ ws) (ds ++ es)
  | _, _, _, _, .nil, h => h
  | _, _, _, _, .cons a b, h => .cons a (DpAll.append b h)
theorem DpAll.len {K : PySem.W.Frag} {H : Hp} : ∀ {vs : List V} {ds : List PyData}, DpAll K H vs ds → vs.length = ds.length
  | _, _, .nil => rfl
  | _, _, .cons _ b => by rw [List.length_cons, List.length_cons, DpAll.len b]
theorem DpAll.bools {K : PySem.W.Frag} {H : Hp} : ∀ (bs : List Bool), DpAll K H (bs.map V.bl) (bs.map PyData.bool)
  | [] => .nil
  | b :: bs => .cons (.bl b) (DpAll.bools bs)
theorem DpAll.ints {K : PySem.W.Frag} {H : Hp} : ∀ (bs : List Int), DpAll K H (bs.map V.int) (bs.map PyData.int)
  | [] => .nil
  | b :: bs => .cons (.int b) (DpAll.ints bs)
theorem DpAll.strs {K : PySem.W.Frag} {H : Hp} : ∀ (bs : List Str), DpAll K H (bs.map V.str) (bs.map PyData.str)
  | [] => .nil
  | b :: bs => .cons (.str b) (DpAll.strs bs)

theorem listText_le : ∀ ts : List Str, (listText ts).length ≤ piled ts + 2
  | [] => by rw [listText_nil]; exact (by decide)
  | t :: r => by
    have h := textFrom_length_pos r 1 (("[" : Str) ++ (if (0 : Nat) > 0 then ", " else "" : String) ++ t) (Nat.succ_pos 0)
    have e1 : (listText (t :: r)).length = (textFrom 1 (("[" : Str) ++ (if (0 : Nat) > 0 then ", " else "" : String) ++ t) r).length + 1 := by
      show (textFrom 0 "[" (t :: r) ++ "]" : Str).length = _
      rw [Str.length_append]
      rfl
    have e2 : (("[" : Str) ++ (if (0 : Nat) > 0 then ", " else "" : String) ++ t : Str).length = 1 + t.length := by
      rw [Str.length_append, Str.length_append]
      rfl
    rw [e1, h, e2, piled_cons]
    omega
theorem tupleText_le (ts : List Str) : (tupleText ts).length ≤ piled ts + 4 := by
  unfold tupleText
  rw [Str.length_append, Str.length_append]
  have e1 : (("(" : String) : Str).length = 1 := rfl
  have e2 : ((if ts.length == 1 then ",)" else ")" : String) : Str).length ≤ 2 := by split <;> decide
  have e3 : (Str.join ", " ts).length ≤ piled ts := by
    cases ts with
    | nil => exact Nat.zero_le _
    | cons t r => have := join_length_add (t :: r) (by simp); omega
  omega
/-- may be shown: nested at most k deep, at most n signs -/
structure Sz (k n : Nat) (d : PyData) : Prop where
  sh : d.showable = true
  dp : d.depth ≤ k
  ln : d.shown.length ≤ n
structure SzAll (k n : Nat) (ds : List PyData) : Prop where
  sh : PyData.showableAll ds = true
  dp : PyData.depthAll ds ≤ k
  ln : piled (PyData.shownAll ds) ≤ n
theorem SzAll.nil {k : Nat} : SzAll k 0 [] := ⟨rfl, Nat.zero_le _, Nat.le_refl _⟩
theorem SzAll.cons {k n m : Nat} {d : PyData} {ds : List PyData} (a : Sz k n d) (b : SzAll k m ds) : SzAll k (n + 2 + m) (d :: ds) := by
  refine ⟨?_, ?_, ?_⟩
  · show (PyData.showable d && PyData.showableAll ds) = true
    rw [a.sh, b.sh]; rfl
  · show max (PyData.depth d) (PyData.depthAll ds) ≤ k
    have := a.dp; have := b.dp; omega
  · show piled (PyData.shown d :: PyData.shownAll ds) ≤ _
    rw [piled_cons]
    have := a.ln; have := b.ln; omega
theorem SzAll.of {k n : Nat} : ∀ {ds : List PyData}, (∀ d ∈ ds, Sz k n d) → SzAll k (ds.length * (n + 2)) ds
  | [], _ => by rw [List.length_nil, Nat.zero_mul]; exact SzAll.nil
  | d :: ds, h => by
    have a := SzAll.cons (h d List.mem_cons_self) (SzAll.of fun x hx => h x (List.mem_cons_of_mem _ hx))
    rw [List.length_cons, Nat.succ_mul, Nat.add_comm]
    exact a
theorem SzAll.append {k n m : Nat} : ∀ {ds es : List PyData}, SzAll k n ds → SzAll k m es → SzAll k (n + m) (ds ++ es)
  | [], es, a, b => ⟨b.sh, b.dp, Nat.le_trans b.ln (Nat.le_add_left _ _)⟩
  | d :: ds, es, a, b => by
    have a1 : PyData.showable d = true ∧ PyData.showableAll ds = true := by
      have := a.sh
      simp only [PyData.showableAll, Bool.and_eq_true] at this
      exact this
    have a2 : max (PyData.depth d) (PyData.depthAll ds) ≤ k := a.dp
    have a3 : piled (PyData.shown d :: PyData.shownAll ds) ≤ n := a.ln
    rw [piled_cons] at a3
    have r := SzAll.append (n := n - ((PyData.shown d).length + 2)) (ds := ds) ⟨a1.2, by omega, by omega⟩ b
    have c := SzAll.cons (d := d) (n := (PyData.shown d).length) ⟨a1.1, by omega, Nat.le_refl _⟩ r
    exact ⟨c.sh, c.dp, by have := c.ln; show piled (PyData.shownAll (d :: (ds ++ es))) ≤ _; omega⟩
theorem SzAll.mono {k k' n n' : Nat} {ds : List PyData} (a : SzAll k n ds) (h : k ≤ k') (h2 : n ≤ n') : SzAll k' n' ds := ⟨a.sh, Nat.le_trans a.dp h, Nat.le_trans a.ln h2⟩
theorem Sz.mono {k k' n n' : Nat} {d : PyData} (a : Sz k n d) (h : k ≤ k') (h2 : n ≤ n') : Sz k' n' d := ⟨a.sh, Nat.le_trans a.dp h, Nat.le_trans a.ln h2⟩
theorem Sz.list {k n : Nat} {ds : List PyData} (a : SzAll k n ds) : Sz (k + 1) (n + 2) (.list ds) := by
  refine ⟨?_, ?_, ?_⟩
  · simp only [PyData.showable]; exact a.sh
  · simp only [PyData.depth]; have := a.dp; omega
  · simp only [PyData.shown]; exact Nat.le_trans (listText_le _) (by have := a.ln; omega)
theorem Sz.tuple {k n : Nat} {ds : List PyData} (a : SzAll k n ds) : Sz (k + 1) (n + 4) (.tuple ds) := by
  refine ⟨?_, ?_, ?_⟩
  · simp only [PyData.showable]; exact a.sh
  · simp only [PyData.depth]; have := a.dp; omega
  · simp only [PyData.shown]; exact Nat.le_trans (tupleText_le _) (by have := a.ln; omega)
theorem Sz.non {k : Nat} : Sz k 4 .none := ⟨rfl, by simp only [PyData.depth]; omega, by simp only [PyData.shown]; decide⟩
theorem Sz.bool {k : Nat} (b : Bool) : Sz k 5 (.bool b) := ⟨rfl, by simp only [PyData.depth]; omega, by simp only [PyData.shown]; cases b <;> decide⟩
theorem Sz.int {k n : Nat} {i : Int} (h : i.natAbs < 2 ^ n) (hn : 0 < n) (h2 : n ≤ 1900) : Sz k (n + 2) (.int i) := by
  have lg := PySem.Flt.log2_lt_of hn h
  refine ⟨?_, by simp only [PyData.depth]; omega, ?_⟩
  · simp only [PyData.showable]; exact decide_eq_true (by omega)
  · simp only [PyData.shown]
    rw [PySem.ofString_length]
    exact Nat.le_succ_of_le (int_text_length_le hn lg)
theorem Sz.str {k n : Nat} {x : Str} (hx : ∀ c ∈ x.cps.toList, c < 16 ^ 8) (h : x.length ≤ n) : Sz k (10 * n + 2) (.str x) := by
  refine ⟨rfl, by simp only [PyData.depth]; omega, ?_⟩
  simp only [PyData.shown]
  exact Nat.le_trans (PySem.StrLaws.reprText_len x hx) (by omega)
theorem Sk.at {n : Nat} {H : Hp} {a : Addr} (h : Sk n H a) : ∃ o, H a = some o := let ⟨_, _, _, e, _⟩ := h; ⟨_, e⟩
theorem Sk.new {n : Nat} {H : Hp} {a p : Addr} {o : HO} (h : Sk n H a) (f : H p = none) : Sk n (upd H p o) a := let ⟨x, y, z, e, r⟩ := h; ⟨x, y, z, upd_old e f, r⟩
theorem Sk.ne {n : Nat} {H : Hp} {a p : Addr} (h : Sk n H a) (f : H p = none) : p ≠ a := let ⟨_, _, _, e, _⟩ := h; (ne_of_none e f).symm
theorem Kp.new {H H1 : Hp} {a p : Addr} {o : HO} (h : Kp a H H1) (f : H1 p = none) : Kp a H (upd H1 p o) := fun b u n e => upd_old (h b u n e) f
theorem Kp.free {H H1 : Hp} {a p : Addr} (h : Kp a H H1) (n : p ≠ a) (f : H1 p = none) : H p = none := by
  cases q : H p with
  | none => rfl
  | some o => rw [h p o n q] at f; cases f
/-! ### a heap of one object -/
def one (p : Addr) (o : HO) : Hp := fun b => if b = p then some o else none
theorem one_same {p : Addr} {o : HO} {H : Hp} (h : H p = some o) : Same (one p o) H := fun b u e => by
  unfold one at e
  by_cases z : b = p
  · rw [if_pos z] at e
    cases e
    rw [z]
    exact h
  · rw [if_neg z] at e
    cases e
theorem one_at {p : Addr} {o : HO} : one p o p = some o := if_pos rfl
theorem one_no {p q : Addr} {o : HO} (h : q ≠ p) : one p o q = none := if_neg h
def nil : Hp := fun _ => none
theorem nil_same {H : Hp} : Same nil H := fun _ _ e => by cases e
theorem lt16 {x : Str} (h : x.cps.toList.all (fun c => decide (c < 1000)) = true) : ∀ c ∈ x.cps.toList, c < 16 ^ 8 := fun c hc => Nat.lt_trans (of_decide_eq_true (List.all_eq_true.mp h c hc)) (by decide)
theorem same_kp {S H H' : Hp} {a : Addr} (s : Same S H) (k : Kp a H H') (n : S a = none) : Same S H' := fun b o h => k b o (ne_of_none h n) (s b o h)
theorem same_mut {S H : Hp} {p : Addr} {u : HO} (s : Same S H) (n : S p = none) : Same S (upd H p u) := fun b o h => by rw [upd_ne (ne_of_none h n)]; exact s b o h
theorem kp_same {a : Addr} {H H1 H2 : Hp} (k : Kp a H H1) (s : Same H1 H2) : Kp a H H2 := fun b o n h => s b o (k b o n h)
theorem kp_mut {a p : Addr} {H H1 : Hp} {u : HO} (k : Kp a H H1) (n : H p = none) : Kp a H (upd H1 p u) := fun b o m h => by rw [upd_ne (ne_of_none h n)]; exact k b o m h
theorem sk_same {n : Nat} {a : Addr} {H H1 : Hp} (k : Sk n H a) (s : Same H H1) : Sk n H1 a := let ⟨x, y, z, e, r⟩ := k; ⟨x, y, z, s _ _ e, r⟩
theorem sk_mut {n : Nat} {a p : Addr} {H : Hp} {u : HO} (k : Sk n H a) (ne : p ≠ a) : Sk n (upd H p u) a := let ⟨x, y, z, e, r⟩ := k; ⟨x, y, z, by rw [upd_ne ne.symm]; exact e, r⟩
theorem seq_kp {K : PySem.W.Frag} {H H' : Hp} {a p : Addr} {xs : List V} (h : SqL K H a xs) (n : H p = none) (k : Kp p H H') : SqL K H' a xs := by
  rcases h with (h | ⟨o, h⟩) | h
  · exact .inl (.inl (k _ _ (ne_of_none h n) h))
  · exact .inl (.inr ⟨o, k _ _ (ne_of_none h n) h⟩)
  · exact .inr h
theorem kw1 {K : PySem.W.Frag} {x qual : Str} {st : Stmt} {f : Addr} {fd : FuncData} {ps ks : List Str} {n : Nat} (F : Fun K x qual st f fd)
    (h : ∀ (kV doc pm : Value) (an : Option Addr) (cdv ct : Value) (us ws : List Value), us.length = n → ws.length = ks.length → bindArgs (PySem.W.fnOf x qual (defArgs st) (defBody st) (defScope st) .none kV doc pm an cdv ct) ⟨us, ks.zip ws⟩ = pure (ps.zip (us ++ ws))) :
    KBn K fd ps n ks (fun us ws => us ++ ws) (fun vs zs => vs ++ zs) := by
  obtain ⟨oc, od, kV, doc, pm, an, cdv, ct, osl, e, lk, hcd⟩ := F.ex
  subst e
  exact ⟨fun s us ws _ l1 l2 => .of_eq (h kV doc pm an cdv ct us ws l1 l2), fun a b => a.append b⟩
end Sf

namespace Sf
open PySem PySem.Spec PyProof.Rows L2
/-! ### texts as lists of signs -/
def tx (l : List Nat) : Str := ⟨l.toArray⟩
theorem ls_tx (l : List Nat) : (tx l).cps.toList = l := rfl
theorem len_ls (x : Str) : x.length = x.cps.toList.length := by show x.cps.size = _; simp
theorem ext_ls {a b : Str} (h : a.cps.toList = b.cps.toList) : a = b := PySem.Str.ext' (by
  have := congrArg List.toArray h
  simpa using this)
theorem ls_append (a b : Str) : (a ++ b).cps.toList = a.cps.toList ++ b.cps.toList := by rw [Str.cps_append]; simp
def abcS : Str := "abcdefghijklmnopqrstuvwxyz"
/-- letters alone -/
def plain (x : Str) : Bool := x.cps.toList.all fun c => decide (c ∈ abcS.cps.toList)
theorem plain_iff {x : Str} : plain x = true ↔ ∀ c ∈ x.cps.toList, c ∈ abcS.cps.toList := by
  unfold plain
  rw [List.all_eq_true]
  exact ⟨fun h c hc => of_decide_eq_true (h c hc), fun h c hc => decide_eq_true (h c hc)⟩
theorem abc_lt : ∀ c ∈ abcS.cps.toList, c < 1000 := by decide
/-- at most n signs, all of them small -/
structure Tx (n : Nat) (x : Str) : Prop where
  len : x.length ≤ n
  ch : ∀ c ∈ x.cps.toList, c < 1000
/-- letters, at most n -/
structure Wd (n : Nat) (x : Str) : Prop where
  len : x.length ≤ n
  pl : plain x = true
theorem Wd.tx {n : Nat} {x : Str} (h : Wd n x) : Tx n x := ⟨h.len, fun c hc => abc_lt c (plain_iff.mp h.pl c hc)⟩
theorem Tx.mono {n m : Nat} {x : Str} (h : Tx n x) (l : n ≤ m) : Tx m x := ⟨Nat.le_trans h.len l, h.ch⟩
theorem Wd.mono {n m : Nat} {x : Str} (h : Wd n x) (l : n ≤ m) : Wd m x := ⟨Nat.le_trans h.len l, h.pl⟩
theorem Tx.append {n m : Nat} {x y : Str} (h : Tx n x) (k : Tx m y) : Tx (n + m) (x ++ y) := by
  refine ⟨by rw [Str.length_append]; have := h.len; have := k.len; omega, fun c hc => ?_⟩
  rw [ls_append] at hc
  rcases List.mem_append.mp hc with z | z
  · exact h.ch c z
  · exact k.ch c z
theorem plain_append {x y : Str} : plain (x ++ y) = (plain x && plain y) := by
  unfold plain
  rw [ls_append, List.all_append]
theorem Wd.append {n m : Nat} {x y : Str} (h : Wd n x) (k : Wd m y) : Wd (n + m) (x ++ y) := by
  refine ⟨by rw [Str.length_append]; have := h.len; have := k.len; omega, ?_⟩
  rw [plain_append, h.pl, k.pl]
  rfl
theorem Tx.cut {n : Nat} {x : Str} (h : Tx n x) (lo hi : Option Int) : Tx n (cutS x lo hi) :=
  ⟨Nat.le_trans (cutS_length x lo hi) h.len, fun c hc => h.ch c (List.mem_of_mem_drop (List.mem_of_mem_take hc))⟩
theorem plain_sub {x y : Str} (h : plain x = true) (s : ∀ c ∈ y.cps.toList, c ∈ x.cps.toList) : plain y = true := plain_iff.mpr fun c hc => plain_iff.mp h c (s c hc)
theorem mem_cut {x : Str} {lo hi : Option Int} : ∀ c ∈ (cutS x lo hi).cps.toList, c ∈ x.cps.toList := fun c hc => List.mem_of_mem_drop (List.mem_of_mem_take hc)
theorem Wd.cut {n : Nat} {x : Str} (h : Wd n x) (lo hi : Option Int) : Wd n (cutS x lo hi) :=
  ⟨Nat.le_trans (cutS_length x lo hi) h.len, plain_sub h.pl mem_cut⟩
theorem Tx.one {c : Nat} (h : c < 1000) : Tx 1 ⟨#[c]⟩ := ⟨Nat.le_refl _, fun d hd => by
  have : d = c := by simpa using hd
  rw [this]; exact h⟩
theorem Wd.one {x : Str} {i c : Nat} (h : plain x = true) (e : x.cps.toList[i]? = some c) : Wd 1 ⟨#[c]⟩ := ⟨Nat.le_refl _, plain_sub h fun d hd => by
  have : d = c := by simpa using hd
  rw [this]
  exact List.mem_of_getElem? e⟩
theorem Tx.lit {n : Nat} {x : Str} (h : x.cps.toList.all (fun c => decide (c < 1000)) = true) (l : x.length ≤ n) : Tx n x := ⟨l, fun c hc => of_decide_eq_true (List.all_eq_true.mp h c hc)⟩
theorem Tx.sz {n k : Nat} {x : Str} (h : Tx n x) : Sz k (10 * n + 2) (.str x) := Sz.str (fun c hc => Nat.lt_trans (h.ch c hc) (by decide)) h.len
theorem small_line {n : Nat} (h : n ≤ 100000) : n ≤ sizeLine := by rw [sizeLine_eq]; omega
theorem Tx.line {n : Nat} {x : Str} (h : Tx n x) (l : n ≤ 100000) : x.length ≤ sizeLine := Nat.le_trans h.len (small_line l)
/-! ### cuts at a place -/
theorem cut_to {x : Str} {j : Nat} (h : j ≤ x.length) : (cutS x none (some (j : Int))).cps.toList = x.cps.toList.take j := by
  show ((x.cps.toList.drop 0).take (HT.sIx x.length x.length (some (j : Int)) - 0)) = _
  rw [HT.sIx_nat, Nat.min_eq_left h, List.drop_zero, Nat.sub_zero]
theorem cut_from {x : Str} {j : Nat} (h : j ≤ x.length) : (cutS x (some (j : Int)) none).cps.toList = x.cps.toList.drop j := by
  show ((x.cps.toList.drop (HT.sIx x.length 0 (some (j : Int)))).take (x.length - HT.sIx x.length 0 (some (j : Int)))) = _
  rw [HT.sIx_nat, Nat.min_eq_left h]
  apply List.take_of_length_le
  rw [List.length_drop, len_ls]
  omega
theorem cut_in {x : Str} {i j : Nat} (h : i ≤ x.length) : (cutS x (some (i : Int)) (some (j : Int))).cps.toList = (x.cps.toList.drop i).take (min j x.length - i) := by
  show ((x.cps.toList.drop (HT.sIx x.length 0 (some (i : Int)))).take (HT.sIx x.length x.length (some (j : Int)) - HT.sIx x.length 0 (some (i : Int)))) = _
  rw [HT.sIx_nat, HT.sIx_nat, Nat.min_eq_left h]
theorem len_cut_in {x : Str} {i j : Nat} (h : i ≤ x.length) : (cutS x (some (i : Int)) (some (j : Int))).length = min j x.length - i := by
  rw [len_ls, cut_in h, List.length_take, List.length_drop, ← len_ls]
  omega
theorem len_cut_to {x : Str} {j : Nat} (h : j ≤ x.length) : (cutS x none (some (j : Int))).length = j := by
  rw [len_ls, cut_to h, List.length_take, ← len_ls]
  omega
theorem len_cut_from {x : Str} {j : Nat} (h : j ≤ x.length) : (cutS x (some (j : Int)) none).length = x.length - j := by
  rw [len_ls, cut_from h, List.length_drop, ← len_ls]
/-! ### strip: letters alone are stripped to nothing -/
theorem strip_plain (x : Str) : decide (V.str (Txt.stripChars x abcS) = V.str "") = plain x := by
  have e : (V.str (Txt.stripChars x abcS) = V.str "") ↔ Txt.stripChars x abcS = ("" : Str) := ⟨fun h => V.str.inj h, fun h => by rw [h]⟩
  have key : Txt.stripChars x abcS = ("" : Str) ↔ plain x = true := by
    unfold Txt.stripChars
    rw [stripBy_eq]
    have lo := lo_facts abcS.cps.contains x
    have hi := hi_facts abcS.cps.contains x (stripLo abcS.cps.contains true x) lo.1
    have ct : ∀ c, abcS.cps.contains c = true ↔ c ∈ abcS.cps.toList := fun c => by
      rw [Array.contains_iff_mem]
      simp
    constructor
    · intro h
      have h2 : ((x.cps.toList.drop (stripLo abcS.cps.contains true x)).take (stripHi abcS.cps.contains true x (stripLo abcS.cps.contains true x) - stripLo abcS.cps.contains true x)) = [] := by
        rw [← StrLaws.strSub_toList, h]
        rfl
      have h3 := congrArg List.length h2
      rw [List.length_take, List.length_drop, ← len_ls, List.length_nil] at h3
      have le : stripLo abcS.cps.contains true x = stripHi abcS.cps.contains true x (stripLo abcS.cps.contains true x) := by
        have := hi.1
        have := hi.2.1
        omega
      refine plain_iff.mpr fun c hc => ?_
      obtain ⟨k, hk, ek⟩ := List.getElem_of_mem hc
      have kl : k < x.length := by rw [len_ls]; exact hk
      have gk : x.cps.getD k 0 = c := PySem.StrLaws.getD_of_getElem? (by rw [List.getElem?_eq_getElem hk, ek])
      rw [← ct, ← gk]
      by_cases z : k < stripLo abcS.cps.contains true x
      · exact lo.2.1 k z
      · exact hi.2.2.1 k (by omega) kl
    · intro h
      have all : stripLo abcS.cps.contains true x = x.length := by
        rcases lo.2.2 with z | z
        · exact z
        · by_cases l : stripLo abcS.cps.contains true x = x.length
          · exact l
          · exfalso
            have kl : stripLo abcS.cps.contains true x < x.length := by have := lo.1; omega
            have hk : stripLo abcS.cps.contains true x < x.cps.toList.length := by rw [← len_ls]; exact kl
            have gk : x.cps.getD (stripLo abcS.cps.contains true x) 0 = x.cps.toList[stripLo abcS.cps.contains true x] := PySem.StrLaws.getD_of_getElem? (List.getElem?_eq_getElem hk)
            have m := plain_iff.mp h _ (List.getElem_mem hk)
            rw [← ct, ← gk, z] at m
            cases m
      apply ext_ls
      rw [StrLaws.strSub_toList, all]
      have : x.cps.toList.drop x.length = [] := List.drop_of_length_le (by rw [len_ls]; exact Nat.le_refl _)
      rw [this, List.take_nil]
      rfl
  by_cases z : plain x = true
  · rw [z, decide_eq_true (e.mpr (key.mpr z))]
  · have z' : plain x = false := by simpa using z
    rw [z', decide_eq_false fun h => z (key.mp (e.mp h))]
/-! ### where a text stands in another one -/
def atB (x y : Str) (i : Nat) : Bool := decide (i + y.length ≤ x.length) && Builtin.Str.subAt x y i
def occs (x y : Str) : List Nat := (List.range (x.length + 1)).filter (atB x y)
theorem at_iff {x y : Str} {i : Nat} : atB x y i = true ↔ StrLaws.At x y x.length i := by
  unfold atB StrLaws.At
  rw [Bool.and_eq_true, decide_eq_true_eq]
theorem occs_mem {x y : Str} {i : Nat} : i ∈ occs x y ↔ StrLaws.At x y x.length i := by
  unfold occs
  rw [List.mem_filter, List.mem_range, at_iff]
  exact ⟨fun h => h.2, fun h => ⟨by have := h.1; omega, h⟩⟩
theorem occs_lt (x y : Str) : (occs x y).Pairwise (· < ·) := List.Pairwise.filter _ List.pairwise_lt_range
theorem occs_len {x y : Str} (h : 0 < y.length) : (occs x y).length ≤ x.length := by
  have e : occs x y = (List.range x.length).filter (atB x y) := by
    unfold occs
    rw [List.range_succ, List.filter_append]
    have : atB x y x.length = false := by
      unfold atB
      rw [decide_eq_false (by omega)]
      rfl
    simp [this]
  rw [e]
  exact Nat.le_trans (List.length_filter_le _ _) (by rw [List.length_range]; exact Nat.le_refl _)
/-- the i-th place, -1 if there is none -/
def nxt (x y : Str) (i : Nat) : Int := match (occs x y)[i]? with | some v => (v : Int) | none => -1
theorem first_of {x y : Str} {lo m : Nat} (hm : ∀ j v, (occs x y)[j]? = some v → (lo ≤ v ↔ m ≤ j)) :
    (match Builtin.Str.occurrences x y lo x.length 1 with | i :: _ => (i : Int) | [] => -1) = nxt x y m := by
  unfold nxt
  rcases StrLaws.occ_head_from x y lo 1 (Nat.le_refl _) with ⟨e, no⟩ | ⟨i, r, e, li, ai, no⟩
  · rw [e]
    have : (occs x y)[m]? = none := by
      cases q : (occs x y)[m]? with
      | none => rfl
      | some v =>
        exfalso
        exact no v ((hm m v q).mpr (Nat.le_refl _)) (occs_mem.mp (List.mem_of_getElem? q))
    rw [this]
  · rw [e]
    obtain ⟨j, hj, ej⟩ := List.getElem_of_mem (occs_mem.mpr ai)
    have mj : m ≤ j := (hm j i (by rw [List.getElem?_eq_getElem hj, ej])).mp li
    have : j = m := by
      rcases Nat.lt_or_ge m j with z | z
      · exfalso
        have hm2 : m < (occs x y).length := by omega
        have q := List.pairwise_iff_getElem.mp (occs_lt x y) m j hm2 hj z
        rw [ej] at q
        exact no _ ((hm m _ (List.getElem?_eq_getElem hm2)).mpr (Nat.le_refl _)) q (occs_mem.mp (List.getElem_mem hm2))
      · omega
    subst this
    rw [List.getElem?_eq_getElem hj, ej]
theorem find_nxt (x y : Str) : Txt.find x y = nxt x y 0 := first_of (lo := 0) (m := 0) fun j v _ => ⟨fun _ => Nat.zero_le _, fun _ => Nat.zero_le _⟩
theorem find3_nxt {x y : Str} {i v : Nat} (h : (occs x y)[i]? = some v) : Txt.find3 x y ((v : Int) + 1) = nxt x y (i + 1) := by
  unfold Txt.find3
  have at' := occs_mem.mp (List.mem_of_getElem? h)
  by_cases z : v + 1 ≤ x.length
  · have e : PySem.fromIndex x.length ((v : Int) + 1) = v + 1 := by
      unfold PySem.fromIndex
      omega
    rw [e]
    refine first_of fun j w hw => ?_
    obtain ⟨hi, ei⟩ := List.getElem?_eq_some_iff.mp h
    obtain ⟨hj, ej⟩ := List.getElem?_eq_some_iff.mp hw
    rcases Nat.lt_trichotomy i j with q | q | q
    · have := List.pairwise_iff_getElem.mp (occs_lt x y) i j hi hj q
      rw [ei, ej] at this
      exact ⟨fun _ => q, fun _ => this⟩
    · subst q
      rw [ei] at ej
      subst ej
      exact ⟨fun k => by omega, fun k => by omega⟩
    · have := List.pairwise_iff_getElem.mp (occs_lt x y) j i hj hi q
      rw [ei, ej] at this
      exact ⟨fun k => by omega, fun k => by omega⟩
  · have e : PySem.fromIndex x.length ((v : Int) + 1) = v + 1 := by
      have := at'.1
      unfold PySem.fromIndex
      omega
    rw [e]
    refine first_of fun j w hw => ?_
    have wl := (occs_mem.mp (List.mem_of_getElem? hw)).1
    obtain ⟨hi, ei⟩ := List.getElem?_eq_some_iff.mp h
    obtain ⟨hj, ej⟩ := List.getElem?_eq_some_iff.mp hw
    rcases Nat.lt_trichotomy i j with q | q | q
    · have := List.pairwise_iff_getElem.mp (occs_lt x y) i j hi hj q
      rw [ei, ej] at this
      exact ⟨fun _ => q, fun _ => this⟩
    · subst q
      rw [ei] at ej
      subst ej
      exact ⟨fun k => by omega, fun k => by omega⟩
    · have := List.pairwise_iff_getElem.mp (occs_lt x y) j i hj hi q
      rw [ei, ej] at this
      exact ⟨fun k => by omega, fun k => by omega⟩
/-! ### a cut between two pieces -/
def stB (l r x : Str) (c : Nat) : Bool := Txt.endswith (cutS x none (some (c : Int))) l && Txt.startswith (cutS x (some (c : Int)) none) r
theorem stB_eq {l r x : Str} {c : Nat} (h : c ≤ x.length) : stB l r x c = (decide (l.length ≤ c) && atB x (l ++ r) (c - l.length)) := by
  unfold stB Txt.endswith Txt.startswith atB
  rw [StrLaws.subAt_eq, StrLaws.subAt_eq, StrLaws.subAt_eq, cut_to h, cut_from h, len_cut_to h, len_cut_from h, Str.length_append, ls_append, Nat.zero_add, Nat.zero_add, List.drop_zero]
  by_cases z : l.length ≤ c
  · rw [decide_eq_true z, Bool.true_and, Bool.true_and]
    have e1 : ((x.cps.toList.take c).drop (c - l.length)).take l.length = (x.cps.toList.drop (c - l.length)).take l.length := by
      rw [List.drop_take, List.take_take]
      congr 1
      omega
    have e2 : (x.cps.toList.drop (c - l.length)).take (l.length + r.length) = (x.cps.toList.drop (c - l.length)).take l.length ++ (x.cps.toList.drop c).take r.length := by
      rw [List.take_add, List.drop_drop]
      congr 3
      omega
    rw [e1, e2]
    have ll := len_ls l
    have lr := len_ls r
    have lx := len_ls x
    by_cases q : c - l.length + (l.length + r.length) ≤ x.length
    · have q2 : r.length ≤ x.length - c := by omega
      rw [decide_eq_true q, decide_eq_true q2, Bool.true_and, Bool.true_and]
      have h1 : ((x.cps.toList.drop (c - l.length)).take l.length).length = l.cps.toList.length := by rw [List.length_take, List.length_drop]; omega
      rw [Bool.eq_iff_iff, Bool.and_eq_true, beq_iff_eq, beq_iff_eq, beq_iff_eq]
      constructor
      · rintro ⟨a, b⟩
        rw [a, b]
      · intro a
        exact List.append_inj a h1
    · have q2 : ¬ r.length ≤ x.length - c := by omega
      rw [decide_eq_false q, decide_eq_false q2]
      simp
  · rw [decide_eq_false z]
    rfl
theorem filter_shift (p q : Nat → Bool) (n k : Nat) (h : ∀ c, c ≤ n → p c = (decide (k ≤ c) && q (c - k))) (hq : ∀ i, q i = true → i + k ≤ n) :
    (List.range (n + 1)).filter p = ((List.range (n + 1)).filter q).map (· + k) := by
  by_cases z : k ≤ n + 1
  · obtain ⟨m, e⟩ : ∃ m, n + 1 = k + m := ⟨n + 1 - k, by omega⟩
    have e2 : n + 1 = m + k := by omega
    have l1 : (List.range (n + 1)).filter p = ((List.range m).filter q).map (· + k) := by
      rw [e, List.range_add, List.filter_append]
      have a1 : (List.range k).filter p = [] := List.filter_eq_nil_iff.mpr fun c hc => by
        have := List.mem_range.mp hc
        rw [h c (by omega), decide_eq_false (by omega)]
        simp
      rw [a1, List.nil_append, List.filter_map]
      have a2 : (List.range m).filter (p ∘ fun x => k + x) = (List.range m).filter q := List.filter_congr fun c hc => by
        have := List.mem_range.mp hc
        show p (k + c) = q c
        rw [h (k + c) (by omega), decide_eq_true (by omega), Bool.true_and]
        congr 1
        omega
      rw [a2]
      apply List.map_congr_left
      intro c _
      omega
    have l2 : (List.range (n + 1)).filter q = (List.range m).filter q := by
      rw [e2, List.range_add, List.filter_append]
      have a1 : ((List.range k).map fun x => m + x).filter q = [] := List.filter_eq_nil_iff.mpr fun c hc => by
        obtain ⟨j, _, rfl⟩ := List.mem_map.mp hc
        intro z
        have := hq _ z
        omega
      rw [a1, List.append_nil]
    rw [l1, l2]
  · have a1 : (List.range (n + 1)).filter p = [] := List.filter_eq_nil_iff.mpr fun c hc => by
      have := List.mem_range.mp hc
      rw [h c (by omega), decide_eq_false (by omega)]
      simp
    have a2 : (List.range (n + 1)).filter q = [] := List.filter_eq_nil_iff.mpr fun c hc y => by
      have := hq _ y
      omega
    rw [a1, a2]
    rfl
def seats (l r x : Str) : List Nat := (List.range (x.length + 1)).filter (stB l r x)
theorem seats_eq (l r x : Str) : seats l r x = (occs x (l ++ r)).map (· + l.length) := by
  unfold seats occs
  refine filter_shift _ _ x.length l.length (fun c hc => stB_eq hc) fun i hi => ?_
  have := (at_iff.mp hi).1
  rw [Str.length_append] at this
  omega
/-! ### text * number -/
def rRepS : R2 := fun x y H Q => ∃ (z : Str) (n : Nat), x = .str z ∧ y = .int n ∧ z.length * n ≤ 100000 ∧ n ≤ 100000 ∧ Q (.str (Txt.mul z n)) H
theorem mul_ok {z : Str} {n : Nat} (h : z.length * n ≤ 100000) (hn : n ≤ 100000) : MulOk z (n : Int) := by
  refine ⟨?_, fun h1 _ => ?_, fun _ _ => ?_⟩
  · rw [decide_eq_false (by omega), decide_eq_false (by omega)]
    rfl
  · have n1 : 1 ≤ n := by omega
    have zl : z.length ≤ 100000 := Nat.le_trans (Nat.le_mul_of_pos_right _ n1) h
    have b : (100000 : Int) ≤ (2 ^ 63 - 1) / (n : Int) := by
      rw [Int.le_ediv_iff_mul_le (by omega)]
      omega
    omega
  · show decide _ = false
    rw [Int.toNat_natCast]
    exact decide_eq_false (by have e := sizeLine_eq; omega)
theorem op_repS {X : Cx} : OpR X (binaryOp .Mult) rRepS := by
  intro pins s σ H x y v u Q I rx ry h
  obtain ⟨z, n, rfl, rfl, hz, hn, q⟩ := h
  obtain ⟨t, rfl⟩ := rx
  obtain ⟨t', rfl⟩ := ry
  exact PySem.SB.mul (mul_ok hz hn) fun t' k => ⟨.str _, H, I.tok _, ⟨_, rfl⟩, q⟩
theorem foldl_reps (c : Array Nat) : ∀ (n : Nat) (a : Array Nat), ((List.replicate n c).foldl (· ++ ·) a).toList = a.toList ++ (List.replicate n c.toList).flatten
  | 0, a => by simp
  | n + 1, a => by
    rw [List.replicate_succ, List.foldl_cons, foldl_reps c n, List.replicate_succ, List.flatten_cons, Array.toList_append, List.append_assoc]
theorem ls_mul (z : Str) (n : Nat) : (Txt.mul z (n : Int)).cps.toList = (List.replicate n z.cps.toList).flatten := by
  unfold Txt.mul
  by_cases h1 : (n : Int) < 1
  · have : n = 0 := by omega
    subst this
    rw [if_pos h1]
    rfl
  · rw [if_neg h1]
    by_cases h2 : ((n : Int) == 1 || z.length == 0) = true
    · rw [if_pos h2]
      rcases Bool.or_eq_true _ _ ▸ h2 with q | q
      · have : n = 1 := by have := beq_iff_eq.mp q; omega
        subst this
        simp
      · have : z.cps.toList = [] := List.eq_nil_of_length_eq_zero (by rw [← len_ls]; exact beq_iff_eq.mp q)
        rw [this]
        simp
    · rw [if_neg h2, Int.toNat_natCast]
      show ((List.replicate n z.cps).foldl (· ++ ·) #[]).toList = _
      rw [foldl_reps]
      rfl
theorem len_mul (z : Str) (n : Nat) : (Txt.mul z (n : Int)).length = n * z.length := by
  rw [len_ls, ls_mul, List.length_flatten]
  simp
  rfl
theorem plain_mul {z : Str} (h : plain z = true) (n : Nat) : plain (Txt.mul z (n : Int)) = true := plain_sub h fun c hc => by
  rw [ls_mul] at hc
  obtain ⟨l, hl, hc⟩ := List.mem_flatten.mp hc
  rw [(List.mem_replicate.mp hl).2] at hc
  exact hc
/-! ### an own def called by keyword alone, within a try -/
section
variable {X : Cx} {CX : CXT} {k : Nat} {f : Addr} {fd : FuncData} {ps ks : List Str} {sp : Sp} {E : L2.St → XK} {x : Str} {p pos : Pos} {kws : List Keyword} {tk : TA} {g : List Value → List Value → List Value} {gV : List V → List V → List V}
def tCallKS (sp : Sp) (gV : List V → List V → List V) (n : Nat) (E : L2.St → XK) (tk : TA) : TE := fun σ H Q => tk σ H fun zs H1 => zs.length = n ∧ sp (gV [] zs) H1 Q (E σ)
theorem pe_callKS (F : FnOk X.prog X.w X.K X.mg X.base CX k f fd ps sp) (hr : Room k X.A) (hg : Gl X x) (hm : X.mg x = some (.ref f)) (hk : PySem.W.keepIn X.K (.ref f) = true) (hb : KBn X.K fd ps 0 ks g gV) (hx : ∀ σ, PassesAt CX X σ (E σ))
    (hkw : PK X kws tk) (hall : (backToKw pos (keywordEach kws X.env)).all (·.1.isSome) = true := by rfl) (hks : (backToKw pos (keywordEach kws X.env)).filterMap (·.1) = ks := by rfl)
    (hdb : (x == ("__debug__" : Str)) = false := by decide) (hpl : ((backTo pos (starEach [] X.env)).any (·.1) || (backToKw pos (keywordEach kws X.env)).any (·.1.isNone)) = false := by rfl) :
    PE X (.Call (.Name x p) [] kws pos) (tCallKS sp gV ks.length E tk) := by
  constructor
  intro pins s σ H Q I h
  apply wpAny_Call_Name_kw (ld_glob I hg hm ?_ hdb)
  apply PySem.W.callWith_KW0 (h₀ := X.base) I.ok.mod.kin hk hall ?_ hpl
  apply thn (hkw.run pos pins s σ H _ I h)
  rintro ws s1 ⟨zs, H1, I1, rz, len, q1⟩
  refine ⟨I1.kIn, ?_⟩
  rw [hks]
  have r2 := hb.rel (Paired.nil (F := RelV)) rz
  have n2 : ws.length = ks.length := by rw [← rz.length]; exact len
  apply wpAny_call
  apply codeAny_mono (F.run X.A X.stack s1 H1 ⟨[], ks.zip ws⟩ _ _ Q (E σ) hr I1.env0 (hb.to s1 [] ws I1.kIn rfl n2) r2 q1)
  intro r s' hq
  cases r with
  | error e => exact hx σ pins H1 s1 e s' I1 hq
  | ok fl =>
    cases fl with
    | ret u => exact I1.after hq
    | next => exact False.elim hq
    | brk => exact False.elim hq
    | cont => exact False.elim hq
end
end Sf

namespace Sf
open PySem PySem.Spec PyProof.Rows L2
/-! ### what is wrong first -/
inductive Ft
  | rule
  | piece (x : Str)
  | film (x : Str)
  | num (i : Nat) (z : Int)
def Ft.ix : Ft → Nat
  | .film _ => 1 | .piece _ => 2 | .rule => 3 | .num i _ => i
def Ft.val (j : Addr) : Ft → V
  | .film x => .str x | .piece x => .str x | .rule => .ref j | .num _ z => .int z
def eS (x : Str) : Bool := decide (V.str x = V.str "")
theorem eS_iff {x : Str} : eS x = true ↔ x.length = 0 := by
  unfold eS
  rw [decide_eq_true_eq]
  constructor
  · intro h
    rw [V.str.inj h]
    rfl
  · intro h
    have : x = ("" : Str) := ext_ls (by
      rw [len_ls] at h
      rw [List.eq_nil_of_length_eq_zero h]
      rfl)
    rw [this]
/-- of a rule of these texts -/
def ruleFt (xs : List Str) : Option Ft := if xs.length = 4 then (match xs.find? fun p => !plain p with
  | some p => some (.piece p)
  | none => if eS (xs.getD 0 "") || eS (xs.getD 3 "") then some .rule else none) else some .rule
def filmFt (x : Str) : Option Ft := if !eS x && plain x then none else some (.film x)
theorem bn_t {b : Bool} (h : (!b) = true) : b = false := by cases b <;> simp_all
theorem bn_f {b : Bool} (h : ¬ (!b) = true) : b = true := by cases b <;> simp_all
theorem b_f {b : Bool} (h : ¬ b = true) : b = false := Bool.eq_false_iff.mpr h
theorem find_at {xs : List Str} {p : Str → Bool} : ∀ {ys : List Str} {i : Nat} {x : Str}, (∀ m v, m < i → ys[m]? = some v → p v = false) → ys[i]? = some x → p x = true → ys.find? p = some x
  | [], i, x, _, e, _ => by cases e
  | y :: ys, 0, x, _, e, h => by
    cases e
    rw [List.find?_cons_of_pos h]
  | y :: ys, i + 1, x, no, e, h => by
    rw [List.find?_cons_of_neg (by rw [no 0 y (Nat.succ_pos _) rfl]; exact Bool.false_ne_true)]
    exact find_at (xs := xs) (fun m v hm hv => no (m + 1) v (Nat.succ_lt_succ hm) hv) e h
theorem find_no {p : Str → Bool} : ∀ {ys : List Str}, (∀ m v, m < ys.length → ys[m]? = some v → p v = false) → ys.find? p = none
  | [], _ => rfl
  | y :: ys, no => by
    rw [List.find?_cons_of_neg (by rw [no 0 y (Nat.succ_pos _) rfl]; exact Bool.false_ne_true)]
    exact find_no fun m v hm hv => no (m + 1) v (Nat.succ_lt_succ hm) hv
theorem map_at {α β : Type} {f : α → β} {xs : List α} {i : Nat} {v : β} (h : (xs.map f)[i]? = some v) : ∃ x, xs[i]? = some x ∧ v = f x := by
  rw [List.getElem?_map] at h
  cases q : xs[i]? with
  | none => rw [q] at h; cases h
  | some x => rw [q] at h; exact ⟨x, rfl, (Option.some.inj h).symm⟩
theorem of_four {α : Type} {xs : List α} (h : xs.length = 4) : ∃ a b c d, xs = [a, b, c, d] := match xs, h with | [a, b, c, d], _ => ⟨a, b, c, d, rfl⟩
/-- a cut that is perhaps none -/
def stZ (l r x : Str) (c : Int) : Bool := if 0 ≤ c ∧ c ≤ x.length then stB l r x c.toNat else false

def vnats (ns : List Nat) : List V := ns.map fun (c : Nat) => V.int (c : Int)
theorem vnats_ints (ns : List Nat) : vnats ns = (ns.map fun (c : Nat) => (c : Int)).map V.int := by unfold vnats; rw [List.map_map]; rfl
theorem same_none {S H : Hp} {p : Addr} (s : Same S H) (h : H p = none) : S p = none := by
  cases q : S p with
  | none => rfl
  | some o => rw [s p o q] at h; cases h
/-- how a fault is told: its error's name, its value -/
def ftName : Ft → Str
  | .film _ => "InvalidFilm" | .piece _ => "InvalidPiece" | .rule => "InvalidRule" | .num 4 _ => "UnknownStrip" | .num 5 _ => "UnknownRule" | .num _ _ => "NoSplice"
def ftList (j : Addr) : Option Ft → List V
  | none => []
  | some f => [.str (ftName f), f.val j]
def Ft.dat (xs : List Str) : Ft → PyData
  | .film x => .str x | .piece x => .str x | .rule => .tuple (xs.map .str) | .num _ z => .int z
def ftDat (xs : List Str) : Option Ft → List PyData
  | none => []
  | some f => [.str (ftName f), f.dat xs]
theorem Ft.dp {K : PySem.W.Frag} {H : Hp} {j : Addr} {xs : List Str} (h : SqT K H j (xs.map V.str)) (f : Ft) : Dp K H (f.val j) (f.dat xs) := by
  cases f with
  | rule => exact .tup h (DpAll.strs xs)
  | piece x => exact .str x
  | film x => exact .str x
  | num i z => exact .int z
theorem dp_ft {K : PySem.W.Frag} {H : Hp} {j : Addr} {xs : List Str} (h : SqT K H j (xs.map V.str)) : ∀ o : Option Ft, DpAll K H (ftList j o) (ftDat xs o)
  | none => .nil
  | some f => .cons (.str _) (.cons (f.dp h) .nil)
/-- its texts are small, its numbers too -/
structure Ft.Ok (f : Ft) : Prop where
  tx : ∀ x, f = .film x ∨ f = .piece x → Tx 5000 x
  nm : ∀ i z, f = .num i z → z.natAbs < 2 ^ 200 ∧ 4 ≤ i ∧ i ≤ 6
theorem ftName_ok (f : Ft) : (ftName f).cps.toList.all (fun c => decide (c < 1000)) = true ∧ (ftName f).length ≤ 20 := by
  unfold ftName
  split <;> exact ⟨by decide, by decide⟩
theorem str_ok {x : Str} (h : ∀ c ∈ x.cps.toList, c < 1000) : PyData.strOk x = true := by
  unfold PyData.strOk
  rw [← Array.all_toList, List.all_eq_true]
  exact fun c hc => decide_eq_true (Nat.lt_trans (h c hc) (by decide))
theorem lay_strs : ∀ {xs : List Str}, (∀ x ∈ xs, Tx 5000 x) → PyData.canLayAll0 (xs.map PyData.str) = true
  | [], _ => rfl
  | x :: xs, h => by
    show (PyData.canLay0 (.str x) && PyData.canLayAll0 (xs.map PyData.str)) = true
    rw [lay_strs fun y hy => h y (List.mem_cons_of_mem _ hy), Bool.and_true]
    simp only [PyData.canLay0]
    exact str_ok (h x List.mem_cons_self).ch
theorem depth_strs : ∀ (xs : List Str), PyData.depthAll (xs.map PyData.str) = 0
  | [] => rfl
  | x :: xs => by
    show max (PyData.depth (.str x)) (PyData.depthAll (xs.map PyData.str)) = 0
    rw [depth_strs xs]
    simp only [PyData.depth]
    rfl
theorem Ft.lay {xs : List Str} (hx : ∀ x ∈ xs, Tx 5000 x) {f : Ft} (h : f.Ok) : PyData.canLay0 (f.dat xs) = true ∧ PyData.depth (f.dat xs) ≤ 1 := by
  cases f with
  | rule => exact ⟨by simp only [Ft.dat, PyData.canLay0]; exact lay_strs hx, by simp only [Ft.dat, PyData.depth, depth_strs]; decide⟩
  | piece x => exact ⟨by simp only [Ft.dat, PyData.canLay0]; exact str_ok (h.tx x (.inr rfl)).ch, by simp only [Ft.dat, PyData.depth]; decide⟩
  | film x => exact ⟨by simp only [Ft.dat, PyData.canLay0]; exact str_ok (h.tx x (.inl rfl)).ch, by simp only [Ft.dat, PyData.depth]; decide⟩
  | num i z => exact ⟨by simp only [Ft.dat, PyData.canLay0], by simp only [Ft.dat, PyData.depth]; decide⟩
theorem shaped_ft {xs : List Str} (hx : ∀ x ∈ xs, Tx 5000 x) : ∀ {o : Option Ft}, (∀ f, o = some f → f.Ok) → SeqAt.shaped (.list (ftDat xs o)) = true
  | none, _ => by
    show SeqAt.shaped (PyData.list []) = true
    decide
  | some f, h => by
    have l := f.lay hx (h f rfl)
    have n := ftName_ok f
    unfold SeqAt.shaped
    rw [Bool.and_eq_true, decide_eq_true_eq]
    constructor
    · simp only [ftDat, PyData.canLay0, PyData.canLayAll0, l.1, Bool.and_true]
      exact str_ok fun c hc => of_decide_eq_true (List.all_eq_true.mp n.1 c hc)
    · simp only [ftDat, PyData.depth, PyData.depthAll]
      have := l.2
      omega
theorem eqv_ft (xs : List Str) (o : Option Ft) : PyData.eqv (.list (ftDat xs o)) (.list []) = o.isNone := by
  cases o with
  | none => simp only [ftDat, PyData.eqv, PyData.eqvAll]; rfl
  | some f => simp only [ftDat, PyData.eqv, PyData.eqvAll]; rfl
theorem filmFt_ok {x : Str} (h : Tx 5000 x) : ∀ f, filmFt x = some f → f.Ok := fun f e => by
  unfold filmFt at e
  split at e
  · cases e
  · cases e
    exact ⟨fun y z => (by rcases z with z | z <;> cases z; exact h), fun i z e => by cases e⟩
theorem ruleFt_ok {xs : List Str} (hx : ∀ x ∈ xs, Tx 5000 x) : ∀ f, ruleFt xs = some f → f.Ok := fun f e => by
  have r : (Ft.rule).Ok := ⟨fun y z => (by rcases z with z | z <;> cases z), fun i z e => by cases e⟩
  unfold ruleFt at e
  split at e
  · split at e
    · rename_i p q
      cases e
      exact ⟨fun y z => (by rcases z with z | z <;> cases z; exact hx _ (List.mem_of_find?_eq_some q)), fun i z e => by cases e⟩
    · split at e
      · cases e; exact r
      · cases e
  · cases e; exact r
def kindNames : List Str := ["InvalidFilm", "InvalidPiece", "InvalidRule", "UnknownStrip", "UnknownRule", "NoSplice"]
/-- the flags that an error shows -/
def flags (f : Ft) : List Bool := [decide (f.ix = 1), decide (f.ix = 2), decide (f.ix = 3), decide (f.ix = 4), decide (f.ix = 5), decide (f.ix = 6)]
theorem flags_eq {f : Ft} (h : f.Ok) : (kindNames.map fun s => V.bl (decide (V.str (ftName f) = V.str s))) = (flags f).map V.bl := by
  have e : ∀ a b : Str, decide (V.str a = V.str b) = decide (a = b) := fun a b => by
    by_cases z : a = b
    · rw [z, decide_eq_true rfl, decide_eq_true rfl]
    · rw [decide_eq_false z, decide_eq_false fun y => z (V.str.inj y)]
  simp only [e]
  cases f with
  | rule => decide
  | piece x => show _ = (flags (.piece "")).map V.bl; show (kindNames.map fun s => V.bl (decide (ftName (.piece "") = s))) = _; decide
  | film x => show _ = (flags (.film "")).map V.bl; show (kindNames.map fun s => V.bl (decide (ftName (.film "") = s))) = _; decide
  | num i z =>
    have h2 := (h.nm i z rfl).2
    have : i = 4 ∨ i = 5 ∨ i = 6 := by omega
    rcases this with rfl | rfl | rfl
    · show (kindNames.map fun s => V.bl (decide (ftName (.num 4 0) = s))) = (flags (.num 4 0)).map V.bl; decide
    · show (kindNames.map fun s => V.bl (decide (ftName (.num 5 0) = s))) = (flags (.num 5 0)).map V.bl; decide
    · show (kindNames.map fun s => V.bl (decide (ftName (.num 6 0) = s))) = (flags (.num 6 0)).map V.bl; decide
/-- of strips and rules, the strips ahead -/
def boxFt (ws : List Str) (js : List (Addr × List Str)) : Option (Addr × List Str × Ft) := match ws.findSome? filmFt with
  | some f => some (0, [], f)
  | none => js.findSome? fun j => (ruleFt j.2).map fun f => (j.1, j.2, f)
theorem some_at {α β : Type} {p : α → Option β} : ∀ {ys : List α} {i : Nat} {x : α} {b : β}, (∀ m v, m < i → ys[m]? = some v → p v = none) → ys[i]? = some x → p x = some b → ys.findSome? p = some b
  | [], i, x, b, _, e, _ => by cases e
  | y :: ys, 0, x, b, _, e, h => by
    cases e
    rw [List.findSome?_cons, h]
  | y :: ys, i + 1, x, b, no, e, h => by
    rw [List.findSome?_cons, no 0 y (Nat.succ_pos _) rfl]
    exact some_at (fun m v hm hv => no (m + 1) v (Nat.succ_lt_succ hm) hv) e h
theorem some_no {α β : Type} {p : α → Option β} : ∀ {ys : List α}, (∀ m v, m < ys.length → ys[m]? = some v → p v = none) → ys.findSome? p = none
  | [], _ => rfl
  | y :: ys, no => by
    rw [List.findSome?_cons, no 0 y (Nat.succ_pos _) rfl]
    exact some_no fun m v hm hv => no (m + 1) v (Nat.succ_lt_succ hm) hv
theorem ls_join0 : ∀ ys : List Str, (Txt.join "" ys).cps.toList = (ys.map (·.cps.toList)).flatten := by
  have key : ∀ ys : List Str, (Str.join "" ys).cps.toList = (ys.map (·.cps.toList)).flatten := by
    intro ys
    induction ys with
    | nil => rfl
    | cons y r ih =>
      cases r with
      | nil => show y.cps.toList = _; simp
      | cons z t =>
        show (y ++ "" ++ Str.join "" (z :: t)).cps.toList = _
        rw [ls_append, ls_append, ih]
        show y.cps.toList ++ [] ++ _ = _
        rw [List.append_nil]
        rfl
  intro ys
  have e : Txt.join "" ys = Str.join "" ys := StrLaws.glued_eq_join "" ys
  rw [e, key]
theorem nat_of {z : Int} (h : 0 ≤ z) : ∃ j : Nat, z = (j : Int) := ⟨z.toNat, (Int.toNat_of_nonneg h).symm⟩
/-- texts of one letter each, joined -/
theorem wd_join {ys : List Str} (h : ∀ y ∈ ys, ∃ c ∈ abcS.cps.toList, y = ⟨#[c]⟩) : Wd ys.length (Txt.join "" ys) ∧ (Txt.join "" ys).length = ys.length := by
  have len : (Txt.join "" ys).length = ys.length := by
    rw [len_ls, ls_join0, List.length_flatten, List.map_map]
    have : ys.map (List.length ∘ fun x => x.cps.toList) = ys.map fun _ => 1 := List.map_congr_left fun y hy => by
      obtain ⟨c, _, rfl⟩ := h y hy
      rfl
    rw [this]
    clear this h
    induction ys with
    | nil => rfl
    | cons y r ih => rw [List.map_cons, List.sum_cons, ih, List.length_cons, Nat.add_comm]
  refine ⟨⟨Nat.le_of_eq len, plain_iff.mpr fun c hc => ?_⟩, len⟩
  rw [ls_join0] at hc
  obtain ⟨l, hl, hc⟩ := List.mem_flatten.mp hc
  obtain ⟨y, hy, rfl⟩ := List.mem_map.mp hl
  obtain ⟨d, hd, rfl⟩ := h y hy
  have : c = d := by simpa using hc
  rw [this]
  exact hd
theorem Kp.none {H H1 : Hp} {a p : Addr} {o : HO} (h : Kp a H H1) (ha : H1 a = some o) (f : H1 p = none) : H p = none := h.free (fun e => by rw [e, ha] at f; cases f) f
theorem sk_none {n : Nat} {H H1 : Hp} {a p : Addr} (h : Kp a H H1) (k : Sk n H1 a) (f : H1 p = none) : H p = none := let ⟨_, e⟩ := k.at; h.none e f
theorem seqL_kp {K : PySem.W.Frag} {H H' : Hp} {r a : Addr} {xs : List V} (h : SqL K H r xs) (n : r ≠ a) (k : Kp a H H') : SqL K H' r xs := by
  rcases h with (h | ⟨o, h⟩) | h
  · exact .inl (.inl (k _ _ n h))
  · exact .inl (.inr ⟨o, k _ _ n h⟩)
  · exact .inr h
theorem seqT_kp {K : PySem.W.Frag} {H H' : Hp} {r a : Addr} {xs : List V} (h : SqT K H r xs) (n : r ≠ a) (k : Kp a H H') : SqT K H' r xs := by
  rcases h with (h | ⟨o, h⟩) | h
  · exact .inl (.inl (k _ _ n h))
  · exact .inl (.inr ⟨o, k _ _ n h⟩)
  · exact .inr h
theorem shaped_strs {ws : List Str} (h : ∀ x ∈ ws, Tx 5000 x) : SeqAt.shaped (.list (ws.map .str)) = true := by
  unfold SeqAt.shaped
  rw [Bool.and_eq_true, decide_eq_true_eq]
  refine ⟨?_, ?_⟩
  · simp only [PyData.canLay0]
    exact lay_strs h
  · simp only [PyData.depth, depth_strs]
    decide
theorem shaped_nil : SeqAt.shaped (.list []) = true := by decide
theorem eqv_nil (ws : List Str) : PyData.eqv (.list (ws.map .str)) (.list []) = ws.isEmpty := by
  cases ws with
  | nil => simp only [List.map_nil, PyData.eqv, PyData.eqvAll]; rfl
  | cons x r => simp only [List.map_cons, PyData.eqv, PyData.eqvAll]; rfl
theorem lt200 {z : Int} (h : z ≤ 1000000) : z < 2 ^ 200 := Int.lt_of_le_of_lt h (by decide)
theorem Kp.del {H H1 : Hp} {a b : Addr} {o : HO} (k : Kp a H H1) (nb : b ≠ a) (h : H b = some o) : H1 b = some o := k b o nb h
theorem ixN_nat {g n : Nat} (h : g < n) : ixN n (g : Int) = some g := by
  unfold ixN
  rw [if_pos (by omega), if_pos (by omega), Int.toNat_natCast]
theorem Ft.Ok.ix1 {f : Ft} (h : f.Ok) : 1 ≤ f.ix ∧ f.ix ≤ 6 := by
  cases f with
  | num i z => have := h.nm i z rfl; exact ⟨by show 1 ≤ i; omega, by show i ≤ 6; omega⟩
  | _ => exact ⟨by simp only [Ft.ix]; decide, by simp only [Ft.ix]; decide⟩
theorem filmFt_is {x : Str} {f : Ft} (h : filmFt x = some f) : f = .film x := by
  unfold filmFt at h
  split at h
  · cases h
  · exact (Option.some.inj h).symm
/-- of a rule and a film -/
def askFt (xs : List Str) (x : Str) : Option Ft := match ruleFt xs with | some f => some f | none => filmFt x
theorem askFt_ok {xs : List Str} {x : Str} (hx : ∀ x ∈ xs, Tx 5000 x) (h : Tx 5000 x) : ∀ f, askFt xs x = some f → f.Ok := fun f e => by
  unfold askFt at e
  split at e
  · rename_i q
    cases e
    exact ruleFt_ok hx _ q
  · exact filmFt_ok h f e
theorem Ft.sz {xs : List Str} (hx : ∀ x ∈ xs, Tx 400 x) (hl : xs.length ≤ 100) {f : Ft} (h : f.Ok) : Sz 2 500000 (f.dat xs) := by
  cases f with
  | rule =>
    have a : SzAll 1 (xs.length * 4004) (xs.map PyData.str) := by
      have b := SzAll.of (k := 1) (n := 4002) (ds := xs.map PyData.str) fun d hd => by
        obtain ⟨x, hx', rfl⟩ := List.mem_map.mp hd
        exact (hx x hx').sz.mono (Nat.le_refl _) (by decide)
      rw [List.length_map] at b
      exact b
    exact (Sz.tuple a).mono (Nat.le_refl _) (by omega)
  | piece x => exact (h.tx x (.inr rfl)).sz.mono (Nat.le_refl _) (by decide)
  | film x => exact (h.tx x (.inl rfl)).sz.mono (Nat.le_refl _) (by decide)
  | num i z => exact (Sz.int (n := 200) (h.nm i z rfl).1 (by decide) (by decide)).mono (Nat.le_refl _) (by decide)
theorem sz_bools (k : Nat) (bs : List Bool) : SzAll k (bs.length * 7) (bs.map PyData.bool) := by
  have b := SzAll.of (k := k) (n := 5) (ds := bs.map PyData.bool) fun d hd => by
    obtain ⟨x, _, rfl⟩ := List.mem_map.mp hd
    exact Sz.bool x
  rw [List.length_map] at b
  exact b
/-- what an error shows -/
def errDat (xs : List Str) (f : Ft) : PyData := .tuple [.list ((flags f).map .bool), f.dat xs]
theorem errDat_sz {xs : List Str} (hx : ∀ x ∈ xs, Tx 400 x) (hl : xs.length ≤ 100) {f : Ft} (h : f.Ok) : Sz 3 600000 (errDat xs f) :=
  (Sz.tuple (k := 2) (SzAll.cons ((Sz.list (sz_bools 1 (flags f))).mono (Nat.le_refl _) (show (flags f).length * 7 + 2 ≤ 100 from (by decide : 6 * 7 + 2 ≤ 100))) (SzAll.cons (f.sz hx hl h) .nil))).mono (Nat.le_refl _) (by decide)
/-- the list of the seats, shown -/
def natDat (ns : List Nat) : List PyData := ns.map fun (c : Nat) => .int (c : Int)
theorem dp_nats {K : PySem.W.Frag} {H : Hp} (ns : List Nat) : DpAll K H (vnats ns) (natDat ns) := by
  have := DpAll.ints (K := K) (H := H) (ns.map fun (c : Nat) => (c : Int))
  rw [List.map_map, List.map_map] at this
  exact this
theorem nats_sz (k : Nat) {ns : List Nat} (h : ∀ c ∈ ns, c ≤ 10000) : SzAll k (ns.length * 24) (natDat ns) := by
  have b := SzAll.of (k := k) (n := 22) (ds := natDat ns) fun d hd => by
    obtain ⟨c, hc, rfl⟩ := List.mem_map.mp hd
    have := h c hc
    exact Sz.int (n := 20) (by rw [Int.natAbs_natCast]; omega) (by decide) (by decide)
  unfold natDat at b ⊢
  rw [List.length_map] at b
  exact b
theorem seats_le {l r x : Str} : ∀ c ∈ seats l r x, c ≤ x.length := fun c hc => by
  have := List.mem_range.mp (List.mem_filter.mp hc).1
  omega
theorem seats_len (l r x : Str) : (seats l r x).length ≤ x.length + 1 := Nat.le_trans (List.length_filter_le _ _) (by rw [List.length_range]; exact Nat.le_refl _)
def toldDat (ns : List Nat) : PyData := .tuple [.list [], .str "", .list (natDat ns)]
theorem toldDat_sz {ns : List Nat} (h : ∀ c ∈ ns, c ≤ 10000) (hl : ns.length ≤ 10001) : Sz 3 300000 (toldDat ns) :=
  (Sz.tuple (k := 2) (SzAll.cons ((Sz.list (SzAll.nil (k := 1))).mono (Nat.le_refl _) (show _ ≤ 10 by decide)) (SzAll.cons ((Tx.sz (k := 2) (n := 0) (Tx.lit (by decide) (by decide))).mono (Nat.le_refl _) (show _ ≤ 10 by decide))
    (SzAll.cons ((Sz.list (nats_sz 1 h)).mono (Nat.le_refl _) (show _ ≤ 250000 by omega)) .nil)))).mono (Nat.le_refl _) (by decide)
end Sf

namespace Sf
open PySem PySem.Spec PyProof.Rows L2
/-! ### faults one behind another -/
def orFt (a b : Option Ft) : Option Ft := match a with | some f => some f | none => b
theorem or_some {f : Ft} {b : Option Ft} : orFt (some f) b = some f := rfl
theorem or_none {b : Option Ft} : orFt none b = b := rfl
theorem or_assoc (a b c : Option Ft) : orFt (orFt a b) c = orFt a (orFt b c) := by cases a <;> rfl
/-- a cut that is not let -/
def cutFt (b : Bool) (z : Int) : Option Ft := if b then none else some (.num 6 z)
/-- what is wrong first with a splice -/
def splFt (xs : List Str) (x : Str) (c : Int) (y : Str) (p : Int) : Option Ft :=
  orFt (ruleFt xs) (orFt (filmFt x) (orFt (filmFt y) (orFt (cutFt (stZ (xs.getD 0 "") (xs.getD 1 "") x c) c) (cutFt (stZ (xs.getD 2 "") (xs.getD 3 "") y p) p))))
def splice (x : Str) (c : Int) (y : Str) (p : Int) : Str := cutS x none (some c) ++ cutS y (some p) none
theorem cutFt_ok {b : Bool} {z : Int} (h : z.natAbs < 2 ^ 200) : ∀ f, cutFt b z = some f → f.Ok := fun f e => by
  unfold cutFt at e
  split at e
  · cases e
  · cases e
    exact ⟨fun y w => (by rcases w with w | w <;> cases w), fun i z e => by cases e; exact ⟨h, by decide, by decide⟩⟩
theorem orFt_ok {a b : Option Ft} (ha : ∀ f, a = some f → f.Ok) (hb : ∀ f, b = some f → f.Ok) : ∀ f, orFt a b = some f → f.Ok := fun f e => by
  cases a with
  | none => exact hb f e
  | some g => cases e; exact ha _ rfl
theorem seats_mem {l r x : Str} {g : Int} : inV (.int g) (vnats (seats l r x)) = stZ l r x g := by
  unfold inV vnats
  rw [List.any_map, Bool.eq_iff_iff, List.any_eq_true]
  unfold stZ
  constructor
  · rintro ⟨c, hc, e⟩
    have e : ((c : Int) == g) = true := e
    have ec : (c : Int) = g := beq_iff_eq.mp e
    have m := List.mem_filter.mp hc
    have := List.mem_range.mp m.1
    subst ec
    rw [if_pos ⟨by omega, by omega⟩, Int.toNat_natCast]
    exact m.2
  · intro h
    split at h
    · rename_i q
      refine ⟨g.toNat, List.mem_filter.mpr ⟨List.mem_range.mpr (by omega), h⟩, ?_⟩
      show (((g.toNat : Nat) : Int) == g) = true
      rw [Int.toNat_of_nonneg q.1]
      exact beq_self_eq_true g
    · cases h
theorem nats_flat (ns : List Nat) : (vnats ns).all flatV = true := by
  unfold vnats
  rw [List.all_map]
  exact List.all_eq_true.mpr fun _ _ => rfl
theorem shaped_nats (ns : List Nat) : SeqAt.shaped (.list (natDat ns)) = true := by
  have key : ∀ ns : List Nat, PyData.canLayAll0 (natDat ns) = true ∧ PyData.depthAll (natDat ns) = 0 := by
    intro ns
    induction ns with
    | nil => exact ⟨rfl, rfl⟩
    | cons c r ih =>
      constructor
      · show (PyData.canLay0 (.int c) && PyData.canLayAll0 (natDat r)) = true
        rw [ih.1, Bool.and_true]
        simp only [PyData.canLay0]
      · show max (PyData.depth (.int c)) (PyData.depthAll (natDat r)) = 0
        rw [ih.2]
        simp only [PyData.depth]
        rfl
  unfold SeqAt.shaped
  rw [Bool.and_eq_true, decide_eq_true_eq]
  refine ⟨?_, ?_⟩
  · simp only [PyData.canLay0]
    exact (key ns).1
  · simp only [PyData.depth, (key ns).2]
    decide
theorem eqv_nats (ns : List Nat) : PyData.eqv (.list (natDat ns)) (.list []) = ns.isEmpty := by
  cases ns with
  | nil => simp only [natDat, List.map_nil, PyData.eqv, PyData.eqvAll]; rfl
  | cons x r => simp only [natDat, List.map_cons, PyData.eqv, PyData.eqvAll]; rfl
/-- what is shown of a splice -/
def splDat (z : Str) : PyData := .tuple [.list [], .str "", .str z]
theorem splDat_sz {z : Str} (h : Tx 5000 z) : Sz 3 100000 (splDat z) :=
  (Sz.tuple (k := 2) (SzAll.cons ((Sz.list (SzAll.nil (k := 1))).mono (Nat.le_refl _) (show _ ≤ 10 by decide)) (SzAll.cons ((Tx.sz (k := 2) (n := 0) (Tx.lit (by decide) (by decide))).mono (Nat.le_refl _) (show _ ≤ 10 by decide))
    (SzAll.cons (h.sz (k := 2)) .nil)))).mono (Nat.le_refl _) (by decide)
def errDat3 (xs : List Str) (f : Ft) : PyData := .tuple [.list ((flags f).map .bool), f.dat xs, .str ""]
theorem errDat3_sz {xs : List Str} (hx : ∀ x ∈ xs, Tx 400 x) (hl : xs.length ≤ 100) {f : Ft} (h : f.Ok) : Sz 3 600000 (errDat3 xs f) :=
  (Sz.tuple (k := 2) (SzAll.cons ((Sz.list (sz_bools 1 (flags f))).mono (Nat.le_refl _) (show (flags f).length * 7 + 2 ≤ 100 from (by decide : 6 * 7 + 2 ≤ 100))) (SzAll.cons (f.sz hx hl h)
    (SzAll.cons ((Tx.sz (k := 2) (n := 0) (Tx.lit (by decide) (by decide))).mono (Nat.le_refl _) (show _ ≤ 10 by decide)) .nil)))).mono (Nat.le_refl _) (by decide)
end Sf

namespace Sf
open PySem PySem.Spec PyProof.Rows L2
open PySem.Froz (SD sObj addTx tailTx TxOk add_x)
/-! ### sets of texts -/
/-- an entry: a text and its hash -/
def SEnt (w : World) (e : Int × Value) (k : Str) : Prop := ∃ u, e = (hashStr w k, Value.str k u)
/-- the payload D holds the texts l; it can be walked -/
structure Pay (P : Program) (w : World) (D : SD) (l : List Str) : Prop where
  tx : TxOk P w D l
  ent : ∀ e ∈ D.1.toList, ∃ k, SEnt w e k
  nd : l.Nodup
  ris : Ris D.2.2.place.toList
  led : w.params.followText "set-order" = true ∨ D.2.2.led = true
def SetS (P : Program) (w : World) (h : Heap) (a : Addr) (l : List Str) : Prop := ∃ D : SD, h.get? a = some (sObj "set" D) ∧ Pay P w D l
section
variable {P : Program} {w : World} {D : SD} {l : List Str} {k : Str}
theorem Pay.perm {es' : Array (Int × Value)} {ep' : Nat} {t' : SetTable} (F : Pay P w D l) (p : List.Perm es'.toList D.1.toList) (hf : t'.fits es'.size = true) (r : Ris t'.place.toList) (hl : t'.led = D.2.2.led) : Pay P w (es', ep', t') l :=
  { tx := F.tx.perm p hf, ent := fun e he => F.ent e (p.mem_iff.mp he), nd := F.nd, ris := r, led := F.led.imp id fun z => hl.trans z }
/-- a new text laid, the table perhaps laid anew -/
theorem Pay.add (F : Pay P w D l) (u : Tok) (hk : k ∉ l) : Pay P w (addTx (hashStr w k) (.str k u) D) (k :: l) := by
  have t1 := PySem.Froz.add_ok (P := P) u F.tx (k := k)
  obtain ⟨es, ep, t⟩ := D
  unfold addTx tailTx at t1 ⊢
  have pm := layNew_perm t es (hashStr w k) (.str k u)
  have r1 := layNew_ris t es (hashStr w k) (.str k u) F.ris
  have d1 := layNew_led t es (hashStr w k) (.str k u)
  dsimp only at t1 ⊢
  generalize layNew t es (hashStr w k) (.str k u) = Z at t1 pm r1 d1 ⊢
  obtain ⟨es1, tb, was, gave⟩ := Z
  dsimp only at t1 pm r1 d1 ⊢
  rw [Array.toList_push] at pm
  have ent1 : ∀ e ∈ es1.toList, ∃ k, SEnt w e k := fun e he => by
    rcases List.mem_append.mp (pm.mem_iff.mp he) with z | z
    · exact F.ent e z
    · exact ⟨k, u, List.mem_singleton.mp z⟩
  have nd1 : (k :: l).Nodup := List.nodup_cons.mpr ⟨hk, F.nd⟩
  have r2 : Ris (if tb.plain = true then { tb with plain := false } else tb).place.toList := by split <;> exact r1
  have d2 : (if tb.plain = true then { tb with plain := false } else tb).led = t.led := by split <;> exact d1
  generalize (if tb.plain = true then { tb with plain := false } else tb) = tc at t1 r2 d2 ⊢
  have led2 : w.params.followText "set-order" = true ∨ tc.led = true := F.led.imp id fun z => d2.trans z
  by_cases c : (!was && tc.tooFull) = true
  · rw [if_pos c] at t1 ⊢
    have pm2 := relayAll_perm tc es1 (SetTable.grown es1.size)
    have r3 := relayAll_ris tc es1 (SetTable.grown es1.size)
    have d3 := relayAll_led tc es1 (SetTable.grown es1.size)
    exact { tx := t1, ent := fun e he => ent1 e (pm2.mem_iff.mp he), nd := nd1, ris := r3, led := led2.imp id fun z => d3.trans z }
  · rw [if_neg c] at t1 ⊢
    exact { tx := t1, ent := ent1, nd := nd1, ris := r2, led := led2 }
end
/-! ### the members of a list, each once -/
/-- a member more -/
def addL (l : List Str) (k : Str) : List Str := if k ∈ l then l else k :: l
def dd (xs : List Str) : List Str := xs.foldl addL []
theorem dd_snoc (xs : List Str) (x : Str) : dd (xs ++ [x]) = addL (dd xs) x := by unfold dd; rw [List.foldl_append]; rfl
theorem addL_mem {l : List Str} {k x : Str} : x ∈ addL l k ↔ x ∈ l ∨ x = k := by
  unfold addL
  split
  · rename_i h
    exact ⟨.inl, fun z => z.elim id fun e => e ▸ h⟩
  · rw [List.mem_cons]
    exact Or.comm
theorem addL_nodup {l : List Str} {k : Str} (h : l.Nodup) : (addL l k).Nodup := by
  unfold addL
  split
  · exact h
  · rename_i q
    exact List.nodup_cons.mpr ⟨q, h⟩
theorem addL_len (l : List Str) (k : Str) : (addL l k).length ≤ l.length + 1 := by
  unfold addL
  split
  · exact Nat.le_succ _
  · exact Nat.le_refl _
theorem fold_mem {x : Str} : ∀ {xs l : List Str}, x ∈ xs.foldl addL l ↔ x ∈ l ∨ x ∈ xs
  | [], l => by simp
  | y :: ys, l => by
    rw [List.foldl_cons, fold_mem, addL_mem, List.mem_cons]
    constructor
    · rintro ((h | h) | h)
      · exact .inl h
      · exact .inr (.inl h)
      · exact .inr (.inr h)
    · rintro (h | h | h)
      · exact .inl (.inl h)
      · exact .inl (.inr h)
      · exact .inr h
theorem fold_nodup : ∀ {xs l : List Str}, l.Nodup → (xs.foldl addL l).Nodup
  | [], l, h => h
  | y :: ys, l, h => by rw [List.foldl_cons]; exact fold_nodup (xs := ys) (addL_nodup h)
theorem fold_len : ∀ (xs l : List Str), (xs.foldl addL l).length ≤ l.length + xs.length
  | [], l => Nat.le_refl _
  | y :: ys, l => by
    have h1 := fold_len ys (addL l y)
    have h2 := addL_len l y
    rw [List.foldl_cons, List.length_cons]
    omega
theorem dd_mem {x : Str} {xs : List Str} : x ∈ dd xs ↔ x ∈ xs := by unfold dd; rw [fold_mem]; simp
theorem dd_nodup (xs : List Str) : (dd xs).Nodup := fold_nodup List.nodup_nil
theorem dd_len (xs : List Str) : (dd xs).length ≤ xs.length := by have := fold_len xs []; simpa [dd] using this

section
variable {P : Program} {w : World} {A : Around} {E : Value → Shared → Prop} {s : Shared} {a : Addr} {l : List Str} {k : Str} {u : Tok}
/-- a text added, a new one or one that is there -/
theorem setS_add {Q : Bool → Shared → Prop} (R : SetS P w s.heap a l) (room : l.length + 1 < scanBound) (hQ : ∀ b h', (∀ c, c ≠ a → h'.get? c = s.heap.get? c) → SetS P w h' a (addL l k) → Q b { s with heap := h' }) :
    wpAny (model P w) A (setAddHashed a (.str k u) (hashStr w k)) Q E s := by
  obtain ⟨D, ho, F⟩ := R
  by_cases m : k ∈ l
  · have e : addL l k = l := if_pos m
    rw [e] at hQ
    have old := hQ false s.heap (fun _ _ => rfl) ⟨D, ho, F⟩
    have is := PySem.Froz.is_str (P := P) (w := w) k u
    obtain ⟨es, ep, t⟩ := D
    have few : es.size < scanBound := by have := F.tx.sz; show es.size < _; rw [show es.size = l.length from this]; omega
    unfold setAddHashed setAddHashedIn
    apply wpAny_holding
    apply wpAny_bind
    apply wpAny_setState_of ho (ep := ep) rfl F.tx.fit
    simp only [byScan_of (x := Value.str k u) rfl few F.tx.el, ↓reduceIte]
    unfold setAddByScan
    apply wpAny_bind
    apply wpAny_bind
    apply wpAny_rule
    apply wpAny_bind
    apply wpAny_setScan_of (knd := PySem.strKind P w) is ho (ep := ep) rfl F.tx.fit F.tx.el
    cases q : List.findIdx? (fun e => (PySem.strKind P w).is k e.2) es.toList with
    | some j => exact wpAny_pure (wpAny_pure old)
    | none =>
      obtain ⟨e, he, z⟩ := (F.tx.mem k).mp m
      have c := List.findIdx?_eq_none_iff.mp q e he
      rw [z] at c
      cases c
  · have e : addL l k = k :: l := if_neg m
    rw [e] at hQ
    apply add_x (P := P) ho F.tx m room
    apply hQ true _ (fun c hc => Heap.get?_update_other _ _ (Ne.symm hc))
    exact ⟨_, PySem.Froz.get_upd _ ho rfl, F.add u m⟩
end
/-! ### the loop of set(..) -/
section
variable {prog : Program} {w : World} {A : Around} {R : Result → Shared → Prop} {I : Addr} {fp wr : List Addr} {n : Nat} {Pv : Nat → Value → Prop} {St : Nat → Heap → Prop}
theorem loopW (W : Walks prog w A.in1 I fp wr n Pv St) (S : Addr) (hS : S ∉ fp) (xs : List Str) (hn : xs.length = n) (few : n + 1 < scanBound) (val : ∀ i v, Pv i v → ∃ x t, xs[i]? = some x ∧ v = .str x t) :
    ∀ (k i : Nat) (s : Shared), i + k = n → St i s.heap → SetS prog w s.heap S (dd (xs.take i)) →
      (∀ h' tk, (∀ b o, b ∉ S :: wr → s.heap.get? b = some o → h'.get? b = some o) → SetS prog w h' S (dd xs) → R (.ok (.ret .none)) { s with heap := h', toks := tk }) →
      codeAny (model prog w) A (.builtin "set.update.loop" ⟨[.ref S, .ref I], []⟩) R s := by
  have nw : S ∉ wr := fun z => hS (W.sub _ z)
  intro k
  induction k with
  | zero =>
    intro i s e st hs hR
    have e : i = n := e
    subst e
    rw [List.take_of_length_le (Nat.le_of_eq hn)] at hs
    apply codeAny_builtin PyProof.Rows.F.entry_set_update_loop
    rw [Around.under_plainId PyProof.Rows.F.plain_set_update_loop _]
    apply wpAny_bind (W.done s _ _ st fun h' tk kp => ?_)
    obtain ⟨D, ho, F⟩ := hs
    exact wpAny_pure (hR h' tk (fun b o hb => kp b o fun z => hb (List.mem_cons_of_mem _ z)) ⟨D, kp S _ nw ho, F⟩)
  | succ k ih =>
    intro i s e st hs hR
    apply codeAny_builtin PyProof.Rows.F.entry_set_update_loop
    rw [Around.under_plainId PyProof.Rows.F.plain_set_update_loop _]
    apply wpAny_bind (W.item i s _ _ (by omega) st fun v h' tk pv st' kp => ?_)
    obtain ⟨x, t, ex, rfl⟩ := val i v pv
    have hs' : SetS prog w h' S (dd (xs.take i)) := by
      obtain ⟨D, ho, F⟩ := hs
      exact ⟨D, kp S _ nw ho, F⟩
    have es : dd (xs.take (i + 1)) = addL (dd (xs.take i)) x := by rw [List.take_add_one, ex]; exact dd_snoc _ _
    have few' : (dd (xs.take i)).length + 1 < scanBound := by
      have := dd_len (xs.take i)
      rw [List.length_take] at this
      omega
    apply wpAny_bind
    apply wpAny_holding
    unfold setAdd
    apply wpAny_holding
    apply wpAny_bind
    apply (PySem.strKind prog w).pyHash (PySem.Froz.is_str x t)
    apply setS_add (s := { s with heap := h', toks := tk + 1 }) hs' few'
    intro b h2 oth r2
    rw [← es] at r2
    have st2 : St (i + 1) h2 := W.frame _ _ _ st' fun c hc o ho => by rw [oth c fun z => hS (z ▸ hc)]; exact ho
    refine wpAny_pure ⟨plainId_quiet PyProof.Rows.F.plain_set_update_loop _, ih (i + 1) _ (by omega) st2 r2 fun h3 tk3 kp3 r3 => ?_⟩
    apply hR h3 tk3 (fun c o hc ho => ?_) r3
    have c1 : c ≠ S := fun z => hc (z ▸ List.mem_cons_self)
    apply kp3 c o hc
    show h2.get? c = some o
    rw [oth c c1]
    exact kp c o (fun z => hc (List.mem_cons_of_mem _ z)) ho
end
end Sf

namespace Sf
open PySem PySem.Spec PyProof.Rows L2
open PySem.Froz (SD sObj TxOk)
/-! ### set(x) -/
abbrev freshD (w : World) : SD := (#[], 0, .fresh 0 0 (!w.params.followText "set-order"))
theorem pay_fresh (P : Program) (w : World) : Pay P w (freshD w) [] where
  tx := PySem.Froz.TxOk.nil rfl
  ent := fun e he => by simp at he
  nd := List.nodup_nil
  ris := List.Pairwise.nil
  led := by
    show _ ∨ (!w.params.followText "set-order") = true
    cases w.params.followText "set-order"
    · exact .inr rfl
    · exact .inl rfl
section
variable {prog : Program} {w : World} {A : Around} {E : Value → Shared → Prop} {s : Shared}
theorem new_led (v : Value) {Q₁ : Value → Shared → Prop} (h : Q₁ (.ref s.heap.objs.size) { s with heap := s.heap.push (sObj "set" (freshD w)) }) :
    codeAny (model prog w) A (.call (.builtin "set.__new__") ⟨[.type "set", v], []⟩) (wants Q₁ E) s := by
  apply codeAny_of_tree
  show wpAny _ A.in1 (do checkBuiltinCall "set.__new__" ⟨[.type "set", v], []⟩; again (.builtin "set.__new__" ⟨[.type "set", v], []⟩)) _ _ s
  apply wpAny_bind
  apply wpAny_of_eq (PySem.F.newCall_set_1 v)
  apply wpAny_pure
  refine ⟨plainId_quiet PySem.F.plain_set_new _, ?_⟩
  apply codeAny_builtin PySem.F.entry_set_new
  rw [Around.under_plainId PySem.F.plain_set_new _]
  unfold Builtin.«set.__new__» Builtin.Frozenset.newClass
  have own := sub_set_self
  obtain ⟨hp, g, d, tk, os⟩ := s
  dsimp only
  wp_walk
  exact wpAny_askSetting (wpAny_pure (wpAny_bind (wpAny_alloc (wpAny_pure (wpAny_pure h)))))
/-- what set.update does with v, told ahead -/
def Fills (prog : Program) (w : World) (s : Shared) (v : Value) (l : List Str) : Prop := ∀ (B : Around) (E' : Value → Shared → Prop) (Q' : Unit → Shared → Prop), B.handled = none →
  (∀ h' tk, (∀ b o, b < s.heap.objs.size → s.heap.get? b = some o → h'.get? b = some o) → SetS prog w h' s.heap.objs.size l → Q' () { s with heap := h', toks := tk }) →
  wpAny (model prog w) B (Builtin.Frozenset.updateFrom "set.__init__" s.heap.objs.size v) Q' E' { s with heap := s.heap.push (sObj "set" (freshD w)) }
theorem call_set1 {v : Value} {l : List Str} {Q : Value → Shared → Prop} (hh : A.handled = none) (fill : Fills prog w s v l)
    (h : ∀ h' tk, (∀ b o, b < s.heap.objs.size → s.heap.get? b = some o → h'.get? b = some o) → SetS prog w h' s.heap.objs.size l → Q (.ref s.heap.objs.size) { s with heap := h', toks := tk }) :
    wpAny (model prog w) A (call (.type "set") [v]) Q E s := by
  obtain ⟨c, tl, mro⟩ := PySem.F.called_set.mro
  have made := PySem.F.called_set.made
  have sub := PySem.F.called_set.sub
  apply wpAny_call
  apply codeAny_of_tree
  show wpAny _ _ (callAny (.type "set") _) _ _ _
  apply wpAny_pure
  refine ⟨Code.quiet_builtin _ (by decide +kernel), ?_⟩
  apply codeAny_builtin PySem.F.entry_type_call
  rw [Around.under_plain (weight_type_call_type "set" [v] []) rfl]
  have n1 := PySem.F.called_set.notType
  have n2 := PySem.F.called_set.canCreate
  have n3 := PySem.F.typeCall_set_1 v
  repeat (any_goals (first | assumption | wp_step))
  apply codeAny_mono (new_led v (E := E) (Q₁ := fun o s₁ => o = .ref s.heap.objs.size ∧ s₁ = { s with heap := s.heap.push (sObj "set" (freshD w)) }) ⟨rfl, rfl⟩)
  intro r s₁ z
  cases r with
  | error e => exact z
  | ok fl =>
    cases fl with
    | ret o =>
      obtain ⟨rfl, rfl⟩ := z
      have here : (s.heap.push (sObj "set" (freshD w))).get? s.heap.objs.size = some (sObj "set" (freshD w)) := Heap.get?_push_size _ rfl
      have ty : Shared.TypeIs { s with heap := s.heap.push (sObj "set" (freshD w)) } (.ref s.heap.objs.size) "set" := ⟨_, here, rfl⟩
      have i1 := PySem.F.called_set.init.lookup
      have i2 := PySem.F.called_set.init.bind (.ref s.heap.objs.size)
      repeat (any_goals (first | assumption | wp_step))
      apply codeAny_mono (codeAny_call_builtin (R := wants (fun r s₂ => r = .none ∧ ∃ h' tk, s₂ = { s with heap := h', toks := tk } ∧ SetS prog w h' s.heap.objs.size l ∧ (∀ b o, b < s.heap.objs.size → s.heap.get? b = some o → h'.get? b = some o)) E)
        PySem.F.called_set.init.plain PySem.F.entry_set_init (check_set_init_1 ty ?_))
      · intro r₂ s₂ z2
        cases r₂ with
        | error e => exact z2
        | ok fl₂ =>
          cases fl₂ with
          | ret r =>
            obtain ⟨rfl, h', tk, rfl, hS, kp⟩ := z2
            repeat (any_goals (first | assumption | wp_step))
            exact h _ _ kp hS
          | _ => exact z2.elim
      · unfold Builtin.«set.__init__» noKeywords
        generalize hU : Builtin.Frozenset.updateFrom = U
        wp_walk
        subst hU
        apply fill
        · simp [hh]
        · intro h' tk kp hS
          exact wpAny_pure ⟨rfl, h', tk, rfl, hS, kp⟩
    | _ => exact z.elim
theorem fill_list {p : Addr} {items : Array Value} {xs : List Str} (hl : s.heap.IsList p items) (hi : StrsAre items.toList xs) (few : xs.length + 1 < scanBound) : Fills prog w s (.ref p) (dd xs) := by
  intro B E' Q' hB h
  obtain ⟨⟨cl, dt, da, sl⟩, ho, hc, m, hd⟩ := id hl
  simp only at hc hd
  subst hc hd
  have ho1 : (s.heap.push (sObj "set" (freshD w))).get? p = some { cls := .type "list", dict := dt, data := .seq items m, slots := sl } := Heap.get?_push_of_some _ ho
  have l1 : (s.heap.push (sObj "set" (freshD w))).IsList p items := ⟨_, ho1, rfl, m, rfl⟩
  have e1 := PySem.F.sub_list_set
  have e2 := PySem.F.sub_list_frozenset
  have e3 : (Value.type "list" == Value.type "dict") = false := by decide
  have plt := Heap.lt_size ho
  unfold Builtin.Frozenset.updateFrom
  generalize hP : pyIter = G
  wp_walk
  subst hP
  apply wpAny_pyIter_list l1
  apply wpAny_bind
  apply wpAny_runValue
  have hz : (s.heap.push (sObj "set" (freshD w))).objs.size = s.heap.objs.size + 1 := Heap.size_push ..
  have ne : p ≠ (s.heap.push (sObj "set" (freshD w))).objs.size := by rw [hz]; exact Nat.ne_of_lt (Nat.lt_succ_of_lt plt)
  have len : xs.length = items.size := by rw [← StrsAre.len_eq hi, Array.length_toList]
  apply loopW (Walks.list (by simp [hB]) _ p ne items) s.heap.objs.size ?n1 xs len (by omega) ?n2 items.size 0 _ (Nat.zero_add _) ⟨⟨_, Heap.get?_push_size _ rfl, rfl, rfl⟩, l1.push _⟩ ?n3 ?n4
  case n1 =>
    simp only [List.mem_cons, List.not_mem_nil, or_false, not_or]
    exact ⟨by rw [hz]; exact Nat.ne_of_lt (Nat.lt_succ_self _), Nat.ne_of_gt plt⟩
  case n2 =>
    intro i v hv
    have hv : items.toList[i]? = some v := by rw [Array.getElem?_toList]; exact hv
    obtain ⟨t, e⟩ := SS.strs_at hi i v hv
    have il := (List.getElem?_eq_some_iff.mp hv).1
    rw [StrsAre.len_eq hi] at il
    exact ⟨xs.getD i Str.empty, t, by rw [List.getD_eq_getElem?_getD, List.getElem?_eq_getElem il]; rfl, e⟩
  case n3 => exact ⟨_, Heap.get?_push_of_some _ (Heap.get?_push_size _ rfl), pay_fresh _ _⟩
  case n4 =>
    intro h' tk kp hS
    apply wpAny_pure
    apply h h' tk (fun b o hb e => ?_) hS
    apply kp b o _ (Heap.get?_push_of_some _ (Heap.get?_push_of_some _ e))
    simp only [List.mem_cons, List.not_mem_nil, or_false, not_or]
    exact ⟨Nat.ne_of_lt hb, by rw [hz]; exact Nat.ne_of_lt (Nat.lt_succ_of_lt hb)⟩
theorem fill_str {x : Str} {u : Tok} (asc : x.cps.all (· < 128) = true) (few : x.length + 1 < scanBound) : Fills prog w s (.str x u) (dd (x.cps.toList.map fun c => ⟨#[c]⟩)) := by
  intro B E' Q' hB h
  have e1 := PySem.F.sub_str_set
  have e2 := PySem.F.sub_str_frozenset
  have e3 : (Value.type "str" == Value.type "dict") = false := by decide
  unfold Builtin.Frozenset.updateFrom
  generalize hP : pyIter = G
  wp_walk
  subst hP
  apply wpAny_pyIter_ascii asc
  apply wpAny_bind
  apply wpAny_runValue
  have hz : (s.heap.push (sObj "set" (freshD w))).objs.size = s.heap.objs.size + 1 := Heap.size_push ..
  have len : (x.cps.toList.map fun c => (⟨#[c]⟩ : Str)).length = x.cps.size := by simp
  apply loopW (Walks.strAscii (by simp [hB]) _ x u) s.heap.objs.size ?n1 _ len few ?n2 x.cps.size 0 _ (Nat.zero_add _) ⟨_, Heap.get?_push_size _ rfl, rfl, rfl⟩ ?n3 ?n4
  case n1 =>
    simp only [List.mem_cons, List.not_mem_nil, or_false]
    rw [hz]
    exact Nat.ne_of_lt (Nat.lt_succ_self _)
  case n2 =>
    rintro i v ⟨c, t, ec, rfl⟩
    exact ⟨_, t, by rw [List.getElem?_map, Array.getElem?_toList, ec]; rfl, rfl⟩
  case n3 => exact ⟨_, Heap.get?_push_of_some _ (Heap.get?_push_size _ rfl), pay_fresh _ _⟩
  case n4 =>
    intro h' tk kp hS
    apply wpAny_pure
    apply h h' tk (fun b o hb e => ?_) hS
    apply kp b o _ (Heap.get?_push_of_some _ (Heap.get?_push_of_some _ e))
    simp only [List.mem_cons, List.not_mem_nil, or_false, not_or]
    exact ⟨Nat.ne_of_lt hb, by rw [hz]; exact Nat.ne_of_lt (Nat.lt_succ_of_lt hb)⟩
end
end Sf

namespace Sf
open PySem PySem.Spec PyProof.Rows L2
open PySem.Froz (SD sObj TxOk)
/-! ### the set in the heap that the readings see -/
def SetSO (P : Program) (w : World) (a : Addr) (l : List Str) : HO := .ext fun h => SetS P w h a l
theorem setSO_new {P : Program} {w : World} {H : Hp} {h : Heap} {a : Addr} {l : List Str} (R : SetS P w h a l) : ObjOk P w H h a (SetSO P w a l) := by
  obtain ⟨D, ho, F⟩ := id R
  exact ⟨R, ⟨_, ho⟩, fun h1 h2 p k => let ⟨D, ho, F⟩ := p; ⟨D, k _ ho, F⟩⟩
def signs1 (x : Str) : List Str := x.cps.toList.map fun c => ⟨#[c]⟩
section
variable {X : Cx}
/-- set(texts), set(text) -/
def rSetOf (X : Cx) : List V → Hp → VK → Prop := fun vs H Q => ∃ l, ((∃ p xs, vs = [.ref p] ∧ SqL X.K H p (xs.map V.str) ∧ xs.length ≤ 4000 ∧ l = dd xs) ∨ (∃ x : Str, vs = [.str x] ∧ (∀ c ∈ x.cps.toList, c < 128) ∧ x.length ≤ 4000 ∧ l = dd (signs1 x))) ∧
  ∀ p, H p = none → Q (.ref p) (upd H p (SetSO X.prog X.w p l))
theorem few4 {n : Nat} (h : n ≤ 4000) : n + 1 < scanBound := Nat.lt_of_le_of_lt (Nat.succ_le_succ h) (by decide)
theorem cr_setOf (hc : X.calm = true) : CallR X (.type "set") (rSetOf X) := by
  intro pins s σ H vs us Q I r h
  obtain ⟨l, h, q⟩ := h
  have fin : ∀ (u : Value), Fills X.prog X.w s u l → wpAny (model X.prog X.w) X.A (call (.type "set") [u]) (EP X pins σ Q) X.xe s := fun u f => by
    apply call_set1 (I.ok.hd hc) f
    intro h' tk kp hS
    exact ⟨.ref _, _, I.laid (t' := tk) (fun b o e => kp b o (Heap.lt_size e) e) (Nat.le_refl _) (setSO_new hS), rfl, q _ (I.hok.fresh (Nat.le_refl _))⟩
  rcases h with ⟨p, xs, rfl, hs, few, rfl⟩ | ⟨x, rfl, asc, few, rfl⟩
  · obtain ⟨its, rv, hl, _⟩ := I.list hs
    obtain ⟨u, rfl, rx⟩ := vals1 r
    cases rx
    exact fin _ (fill_list hl.isList rv.strs (few4 few))
  · obtain ⟨u, rfl, t, rfl⟩ := vals1 r
    refine fin _ (fill_str ?_ (few4 few))
    rw [← Array.all_toList, List.all_eq_true]
    exact fun c hc => decide_eq_true (asc c hc)
/-- sorted(a set of texts) -/
def rSortSet (X : Cx) : List V → Hp → VK → Prop := fun vs H Q => ∃ a l, vs = [.ref a] ∧ H a = some (SetSO X.prog X.w a l) ∧ l.length < 64 ∧ ∀ (ys : List Str) p, ys.Perm l → sortedS ys = true → H p = none → Q (.ref p) (upd H p (.lst (ys.map V.str)))
theorem strs_keys {w : World} : ∀ {es : List (Int × Value)}, (∀ e ∈ es, ∃ k, SEnt w e k) → ∃ ks, StrsAre (es.map (·.2)) ks ∧ ∀ k, k ∈ ks ↔ ∃ e ∈ es, Value.isStrOf k e.2 = true
  | [], _ => ⟨[], .nil, fun k => by simp⟩
  | e :: es, h => by
    obtain ⟨ks, h1, h2⟩ := strs_keys fun x hx => h x (List.mem_cons_of_mem _ hx)
    obtain ⟨k, u, rfl⟩ := h e List.mem_cons_self
    refine ⟨k :: ks, .cons k u h1, fun j => ?_⟩
    rw [List.mem_cons, h2]
    constructor
    · rintro (rfl | ⟨e, he, z⟩)
      · exact ⟨_, List.mem_cons_self, by simp [Value.isStrOf]⟩
      · exact ⟨e, List.mem_cons_of_mem _ he, z⟩
    · rintro ⟨e, he, z⟩
      rcases List.mem_cons.mp he with rfl | he
      · left
        have : (k == j) = true := z
        exact (beq_iff_eq.mp this).symm
      · exact .inr ⟨e, he, z⟩
theorem strs_perm {vs ws : List Value} (p : vs.Perm ws) : ∀ {ks : List Str}, StrsAre ws ks → ∃ js, StrsAre vs js ∧ js.Perm ks := by
  induction p with
  | nil => intro ks h; exact ⟨ks, h, List.Perm.refl _⟩
  | cons x _ ih =>
    intro ks h
    cases h with
    | cons k t hr =>
      obtain ⟨js, h1, h2⟩ := ih hr
      exact ⟨_, .cons k t h1, h2.cons k⟩
  | swap x y l =>
    intro ks h
    cases h with
    | cons k t hr =>
      cases hr with
      | cons j u hr => exact ⟨_, .cons j u (.cons k t hr), List.Perm.swap k j _⟩
  | trans _ _ ih1 ih2 =>
    intro ks h
    obtain ⟨js, h1, h2⟩ := ih2 h
    obtain ⟨is, h3, h4⟩ := ih1 h1
    exact ⟨is, h3, h4.trans h2⟩
theorem perm_by : ∀ {l ks : List Str}, l.Nodup → (∀ x ∈ l, x ∈ ks) → ks.length = l.length → ks.Perm l
  | [], ks, _, _, e => by rw [List.eq_nil_of_length_eq_zero e]
  | x :: r, ks, nd, h, e => by
    obtain ⟨n1, n2⟩ := List.nodup_cons.mp nd
    have mx := h x List.mem_cons_self
    have p := List.perm_cons_erase mx
    have pl := p.length_eq
    rw [List.length_cons] at pl e
    refine p.trans ((perm_by n2 (fun y hy => ?_) (by omega)).cons x)
    have ne : y ≠ x := fun z => n1 (by rw [← z]; exact hy)
    exact (List.mem_erase_of_ne ne).mpr (h y (List.mem_cons_of_mem _ hy))
theorem cr_sortSet (hc : X.calm = true) : CallR X (.builtin "sorted") (rSortSet X) := by
  intro pins s σ H vs us Q I r h
  obtain ⟨a, l, rfl, ha, h64, q⟩ := h
  obtain ⟨D, ho, F⟩ := (I.hok a _ ha).1
  rw [Vals.ref1 r]
  obtain ⟨es, ep, t⟩ := D
  have size : es.size = l.length := F.tx.sz
  obtain ⟨ks, k1, k2⟩ := strs_keys F.ent
  have kl : ks.length = l.length := by rw [← size, ← Array.length_toList, ← List.length_map (f := fun e : Int × Value => e.2), StrsAre.len_eq k1]
  have kp : ks.Perm l := perm_by F.nd (fun x hx => (k2 x).mpr ((F.tx.mem x).mp hx)) kl
  apply Calls.call_function_entry kind_sorted plain_sorted entry_sorted (args_sorted1 _)
  unfold Builtin.«sorted»
  apply wpAny_bind (m := checkCount "sorted" 1 1 _)
  apply wpAny_pure
  apply wpAny_bind
  have few : es.size < scanBound := by rw [size]; exact Nat.lt_trans h64 (by decide)
  apply collect_set (A := X.A.in1) (I.ok.hd hc) ⟨_, ho, rfl, rfl⟩ F.tx.fit few F.ris F.led
  intro s1 out keep big g1 o1 pm
  obtain ⟨js, j1, j2⟩ := strs_perm pm k1
  have ol : out.length = l.length := by rw [pm.length_eq, List.length_map, Array.length_toList, size]
  apply wpAny_bind
  apply wpAny_newList ?_ (by rw [ol, sizeLine_eq]; omega)
  have here : (s1.heap.push (seqObj "list" out.toArray 0)).get? s1.heap.objs.size = some (seqObj "list" out.toArray 0) := Heap.get?_push_size _ rfl
  apply wpAny_bind
  apply wpAny_holding
  have ty : Shared.TypeIs { s1 with heap := s1.heap.push (seqObj "list" out.toArray 0) } (.ref s1.heap.objs.size) "list" := ⟨_, here, rfl⟩
  refine wpAny_call_entry slot_list_sort ty entry_list_sort ?_ (args_list_sort _)
  apply list_sort_treeK strKind_oneLt here j1.keysOf (fun v₁ v₂ rest e => keyKind_strs (by rw [← e]; exact j1)) (by rw [ol]; exact h64)
  intro st a1 a2
  obtain ⟨ys, y1, y2, y3⟩ := sorted_out_str j1 a1 a2
  refine ⟨_, rfl, wpAny_pure ⟨_, rfl, ?_⟩⟩
  obtain ⟨c, hc2⟩ := sortedHeap_at (vs := out) (out := (arrOf st).map (·.2)) here
  have free : H s1.heap.objs.size = none := I.hok.fresh big
  have ylen : (ys.map V.str).length ≤ sizeLine := by
    rw [List.length_map, y2.length_eq, j2.length_eq, kl, sizeLine_eq]
    omega
  have kk : ∀ b o, s.heap.get? b = some o → (sortedHeap (s1.heap.push (seqObj "list" out.toArray 0)) s1.heap.objs.size out ((arrOf st).map (·.2))).get? b = some o := fun b o e => by
    have k1 := keep b o e
    have lt := Heap.lt_size k1
    rw [sortedHeap_old (Nat.ne_of_lt lt) (by rw [size_push']; exact Nat.lt_succ_of_lt lt)]
    exact Heap.get?_push_of_some _ k1
  have J : Inv X pins σ (upd H s1.heap.objs.size (.lst (ys.map V.str))) { s with heap := sortedHeap (s1.heap.push (seqObj "list" out.toArray 0)) s1.heap.objs.size out ((arrOf st).map (·.2)), gens := s1.gens, drawn := s1.drawn, toks := s1.toks } :=
    I.call (ch := []) (Un.laid kk big free) (I.hok.laid kk big ⟨ylen, _, c, vals_of_strs y1, hc2⟩) (by rw [g1]; exact I.bare) (fun _ z => nomatch z)
  have es1 : ({ s1 with heap := sortedHeap (s1.heap.push (seqObj "list" out.toArray 0)) s1.heap.objs.size out ((arrOf st).map (·.2)) } : Shared) = { s with heap := sortedHeap (s1.heap.push (seqObj "list" out.toArray 0)) s1.heap.objs.size out ((arrOf st).map (·.2)), gens := s1.gens, drawn := s1.drawn, toks := s1.toks } := by
    cases s1
    cases s
    cases o1
    rfl
  rw [es1]
  exact ⟨.ref _, _, J, rfl, q ys _ (y2.trans (j2.trans kp)) y3 free⟩
end
end Sf

namespace Sf
open PySem PySem.Spec PyProof.Rows L2
/-! ### len of an own object -/
section
variable {X : Cx} {k : Nat} {f C : Addr} {fd : FuncData} {ps : List Str} {sp : Sp}
def rLenO (C : Addr) (sp : Sp) : List V → Hp → VK → Prop := fun xs H Q => ∃ a dx fs, xs = [.ref a] ∧ H a = some (.ins C dx fs) ∧ sp [.ref a] H (fun v H' => ∃ n : Nat, v = .int n ∧ n < 4611686018427387904 ∧ Q (.int n) H') E0
theorem call_lenO (F : FnOk X.prog X.w X.K X.mg X.base CX0 k f fd ps sp) (hr : Room (k + 1) X.A) (hl : PySem.W.findIn X.K (.ref C) "__len__" = some (some (.ref f))) (hf : PySem.W.isFn X.K (.ref f) = true) (hb : Binds X.K fd ps []) :
    CallR X (.builtin "len") (rLenO C sp) := by
  intro pins s σ H xs us Q I r h
  obtain ⟨a, dx, fs, rfl, ha, hq⟩ := h
  rw [Vals.ref1 r]
  obtain ⟨mA, O, _⟩ := ins_get I.hok ha
  obtain ⟨od, J, _⟩ := O.look
  apply Calls.call_function_entry kind_len plain_len entry_len (args_len1 _)
  unfold Builtin.«len»
  apply wpAny_bind (m := oneArg "len" _)
  apply wpAny_pure
  apply wpAny_bind
  apply PySem.W.special_fn (name := "__len__") (args := []) I.kIn J hl (beq_iff_eq.mp hf)
  apply wpAny_call
  have ln := F.len _ _ _ _ hq
  have b := hb s [.ref a] I.kIn (by rw [List.append_nil]; exact ln)
  rw [List.append_nil] at b
  apply codeAny_mono (F.run X.A.in1 X.stack s H ⟨[.ref a], []⟩ [.ref a] [.ref a] _ E0 hr.in1 I.env0.in1 b (.cons rfl .nil) hq)
  intro r s' z
  cases r with
  | error e => exact False.elim z
  | ok fl =>
    cases fl with
    | ret u =>
      obtain ⟨v, H', I3, rv, n, rfl, hn, q3⟩ := I.after z
      obtain ⟨t, rfl⟩ := rv
      apply wpAny_bind
      apply wpAny_holding
      apply wpAny_pure
      apply wpAny_bind
      apply wpAny_letGo
      show wpAny _ _ (if ((n : Nat) : Int) < 0 then _ else _) _ _ _
      rw [if_neg (by omega)]
      show wpAny _ _ (if ((n : Nat) : Int) ≥ 2 ^ 63 then _ else _) _ _ _
      rw [if_neg (by omega)]
      exact wpAny_bind (wpAny_mkInt (wpAny_pure ⟨_, rfl, ⟨.int n, H', I3.tok _, ⟨_, rfl⟩, q3⟩⟩))
    | next => exact z.elim
    | brk => exact z.elim
    | cont => exact z.elim
end
end Sf

namespace Sf
open PySem PySem.Spec PyProof.Rows L2
/-! ### what has come to stand: a part of the heap that no one changes any more -/
/-- from (G, H) to (G', H'): G and G' are what is settled, M may be changed -/
structure Ext (M : Addr → Prop) (G H G' H' : Hp) : Prop where
  gg : Same G G'
  gh : Same G' H'
  no : ∀ b o, H b = some o → G b = none → G' b = none
  fr : ∀ b o, ¬ M b → H b = some o → H' b = some o
  th : ∀ b o, H b = some o → ∃ o', H' b = some o'
def noM : Addr → Prop := fun _ => False
section
variable {M M' : Addr → Prop} {G H G' H' G2 H2 : Hp} {a l p : Addr} {o u : HO}
theorem Ext.refl (s : Same G H) : Ext M G H G H := ⟨Same.refl _, s, fun _ _ _ h => h, fun _ _ _ h => h, fun _ o h => ⟨o, h⟩⟩
theorem Ext.trans (x : Ext M G H G' H') (y : Ext M G' H' G2 H2) : Ext M G H G2 H2 where
  gg := x.gg.trans y.gg
  gh := y.gh
  no := fun b o h n => let ⟨o', h'⟩ := x.th b o h; y.no b o' h' (x.no b o h n)
  fr := fun b o m h => y.fr b o m (x.fr b o m h)
  th := fun b o h => let ⟨o', h'⟩ := x.th b o h; y.th b o' h'
theorem Ext.mono (x : Ext M G H G' H') (h : ∀ b, M b → M' b) : Ext M' G H G' H' := ⟨x.gg, x.gh, x.no, fun b o m e => x.fr b o (fun z => m (h b z)) e, x.th⟩
theorem Ext.any (x : Ext noM G H G' H') : Ext M G H G' H' := x.mono fun _ z => z.elim
theorem Ext.same (x : Ext M G H G' H') (s : Same H' H2) : Ext M G H G' H2 := ⟨x.gg, x.gh.trans s, x.no, fun b o m e => s b o (x.fr b o m e), fun b o h => let ⟨o', h'⟩ := x.th b o h; ⟨o', s b o' h'⟩⟩
/-- a new object that stays as it is -/
theorem Ext.new (x : Ext M G H G' H') (f : H' p = none) : Ext M G H (upd G' p o) (upd H' p o) where
  gg := same_new x.gg (same_none x.gh f)
  gh := fun b v h => by
    by_cases e : b = p
    · subst e; rw [upd_same] at h ⊢; exact h
    · rw [upd_ne e] at h ⊢; exact x.gh b v h
  no := fun b v h n => by
    obtain ⟨v', h'⟩ := x.th b v h
    rw [upd_ne (ne_of_none h' f)]
    exact x.no b v h n
  fr := fun b v m h => upd_old (x.fr b v m h) f
  th := fun b v h => let ⟨v', h'⟩ := x.th b v h; ⟨v', upd_old h' f⟩
/-- a new object that may change -/
theorem Ext.newM (x : Ext M G H G' H') (f : H' p = none) : Ext M G H G' (upd H' p o) := x.same (same_new (Same.refl _) f)
/-- an own object is changed -/
theorem Ext.mut (x : Ext M G H G' H') (f : H l = none) (g : G' l = none) : Ext M G H G' (upd H' l u) where
  gg := x.gg
  gh := same_mut x.gh g
  no := x.no
  fr := fun b v m h => by rw [upd_ne (ne_of_none h f)]; exact x.fr b v m h
  th := fun b v h => let ⟨v', h'⟩ := x.th b v h; ⟨v', by rw [upd_ne (ne_of_none h f)]; exact h'⟩
/-- an object of M is changed -/
theorem Ext.mutM (x : Ext M G H G' H') (m : M l) (g : G' l = none) : Ext M G H G' (upd H' l u) where
  gg := x.gg
  gh := same_mut x.gh g
  no := x.no
  fr := fun b v n h => by rw [upd_ne (fun z : b = l => n (z ▸ m))]; exact x.fr b v n h
  th := fun b v h => by
    obtain ⟨v', h'⟩ := x.th b v h
    by_cases e : b = l
    · exact ⟨u, by rw [e]; exact upd_same⟩
    · exact ⟨v', by rw [upd_ne e]; exact h'⟩
/-- an own object is settled -/
theorem Ext.set (x : Ext M G H G' H') (f : H l = none) (g : G' l = none) (h : H' l = some o) : Ext M G H (upd G' l o) H' where
  gg := same_new x.gg g
  gh := fun b v e => by
    by_cases z : b = l
    · subst z; rw [upd_same] at e; cases e; exact h
    · rw [upd_ne z] at e; exact x.gh b v e
  no := fun b v e n => by rw [upd_ne (ne_of_none e f)]; exact x.no b v e n
  fr := x.fr
  th := x.th
/-- the sack is drawn from -/
theorem Ext.kp (x : Ext (· = a) G H G' H') (k : Kp a H' H2) (g : G' a = none) (h : ∃ o, H2 a = some o) : Ext (· = a) G H G' H2 where
  gg := x.gg
  gh := same_kp x.gh k g
  no := x.no
  fr := fun b v m e => k b v m (x.fr b v m e)
  th := fun b v e => by
    obtain ⟨v', h'⟩ := x.th b v e
    by_cases z : b = a
    · rw [z]; exact h
    · exact ⟨v', k b v' z h'⟩
/-- all that is new is settled -/
def grow (G H H' : Hp) : Hp := fun b => match H b with | none => H' b | some _ => G b
theorem grow_old (e : H p = some o) : grow G H H' p = G p := by unfold grow; rw [e]
theorem grow_new (e : H p = none) : grow G H H' p = H' p := by unfold grow; rw [e]
theorem grow_le (s : Same G H) : Same G (grow G H H') := fun b v e => by rw [grow_old (s b v e)]; exact e
theorem grow_at (e : H p = none) (h : H' p = some o) : grow G H H' p = some o := by rw [grow_new e]; exact h
theorem Ext.kpn (x : Ext (· = a) G H G' H') (k : Kp a H' H2) (g : G' a = none) (h : ∃ o, H2 a = some o) (ha : ∃ o, H' a = some o) : Ext (· = a) G H (grow G' H' H2) H2 where
  gg := x.gg.trans (grow_le x.gh)
  gh := fun b v e => by
    cases q : H' b with
    | none => rw [grow_new q] at e; exact e
    | some v' => rw [grow_old q] at e; exact same_kp x.gh k g b v e
  no := fun b v e n => by
    obtain ⟨v', h'⟩ := x.th b v e
    rw [grow_old h']
    exact x.no b v e n
  fr := (x.kp k g h).fr
  th := (x.kp k g h).th
theorem Ext.sk {n : Nat} (x : Ext (· = a) G H G' H') (k : Sk n H a) (g : G a = none) : G' a = none := let ⟨_, h⟩ := k.at; x.no a _ h g
theorem Ext.at (x : Ext M G H G' H') (m : ¬ M p) (h : H p = some o) : H' p = some o := x.fr p o m h
theorem Ext.free (x : Ext M G H G' H') (h : H' p = none) : H p = none := by
  cases q : H p with
  | none => rfl
  | some v => obtain ⟨v', h'⟩ := x.th p v q; rw [h'] at h; cases h
end
theorem free_old' {H : Hp} {d p : Addr} {u : HO} (h : upd H p u d = none) : H d = none ∧ d ≠ p := free_old h
theorem Ext.grown {M : Addr → Prop} {G H G' H' H2 : Hp} (x : Ext M G H G' H') (s : Same H' H2) : Ext M G H (grow G' H' H2) H2 where
  gg := x.gg.trans (grow_le x.gh)
  gh := fun b v e => by
    cases q : H' b with
    | none => rw [grow_new q] at e; exact e
    | some v' => rw [grow_old q] at e; exact s _ _ (x.gh b v e)
  no := fun b v e n => by
    obtain ⟨v', h'⟩ := x.th b v e
    rw [grow_old h']
    exact x.no b v e n
  fr := (x.same s).fr
  th := (x.same s).th
theorem rd_ins {H : Hp} {g C dx : Addr} {fs : List (Str × V)} {xs : List V} (h : Rd H g (.lst xs)) (e : H g = some (.ins C dx fs)) : False := by
  rcases h with h | ⟨o, h⟩
  · rw [e] at h; cases h
  · rw [e] at h; cases h
theorem rd_mono {G H : Hp} {g : Addr} {u : HO} (h : Rd G g u) (s : Same G H) : Rd H g u := h.elim (fun e => .inl (s _ _ e)) fun ⟨o, e⟩ => .inr ⟨o, s _ _ e⟩
theorem rd_kp {G H : Hp} {g a : Addr} {u : HO} (h : Rd G g u) (k : Kp a G H) (n : g ≠ a) : Rd H g u := h.elim (fun e => .inl (k _ _ n e)) fun ⟨o, e⟩ => .inr ⟨o, k _ _ n e⟩
theorem rd_ne {H : Hp} {g m : Addr} {u : HO} (h : Rd H g u) (e : H m = none) : g ≠ m := h.elim (fun z => ne_of_none z e) fun ⟨_, z⟩ => ne_of_none z e
/-! ### strips and rules, as they stand -/
abbrev Js := List (Addr × List Str)
def JsAt (K : PySem.W.Frag) (H : Hp) (js : Js) : Prop := ∀ j ∈ js, SqT K H j.1 (j.2.map V.str)
def refs (js : Js) : List V := js.map fun j => V.ref j.1
/-- the rules, as data -/
def jDat (js : Js) : PyData := .list (js.map fun j => .tuple (j.2.map .str))
def wDat (ws : List Str) : PyData := .list (ws.map .str)
theorem JsAt.mono {K : PySem.W.Frag} {G H : Hp} {js : Js} (h : JsAt K G js) (s : Same G H) : JsAt K H js := fun j hj => sameT s (h j hj)
theorem JsAt.nil {K : PySem.W.Frag} {H : Hp} : JsAt K H [] := fun _ h => nomatch h
theorem JsAt.append {K : PySem.W.Frag} {H : Hp} {is js : Js} (a : JsAt K H is) (b : JsAt K H js) : JsAt K H (is ++ js) := fun j h => (List.mem_append.mp h).elim (a j) (b j)
theorem JsAt.sub {K : PySem.W.Frag} {H : Hp} {is js : Js} (b : JsAt K H js) (h : ∀ j ∈ is, j ∈ js) : JsAt K H is := fun j hj => b j (h j hj)
theorem JsAt.dp {K : PySem.W.Frag} {H : Hp} : ∀ {js : Js}, JsAt K H js → DpAll K H (refs js) (js.map fun j => .tuple (j.2.map .str))
  | [], _ => .nil
  | j :: js, h => .cons (.tup (h j List.mem_cons_self) (DpAll.strs _)) (JsAt.dp fun i hi => h i (List.mem_cons_of_mem _ hi))
theorem dp_w {K : PySem.W.Frag} {H : Hp} {p : Addr} {ws : List Str} (h : SqL K H p (ws.map V.str)) : Dp K H (.ref p) (wDat ws) := .lst h (DpAll.strs ws)
theorem dp_j {K : PySem.W.Frag} {H : Hp} {p : Addr} {js : Js} (h : SqL K H p (refs js)) (a : JsAt K H js) : Dp K H (.ref p) (jDat js) := .lst h a.dp
/-- the four pieces of a right rule -/
structure Jn (xs : List Str) : Prop where
  n4 : xs.length = 4
  wd : ∀ x ∈ xs, Wd 10 x
  l0 : 1 ≤ (xs.getD 0 "").length
  l3 : 1 ≤ (xs.getD 3 "").length
/-- right strips, right rules -/
structure Rt (n : Nat) (ws : List Str) (js : Js) : Prop where
  wn : ws.length ≤ n
  wd : ∀ x ∈ ws, Wd 40 x ∧ 1 ≤ x.length
  jn : js.length ≤ n
  jd : ∀ j ∈ js, Jn j.2
/-- the pair at p: the strips at r, the rules at g -/
structure PlAt (K : PySem.W.Frag) (H : Hp) (p r g : Addr) (ws : List Str) (js : Js) : Prop where
  p : SqT K H p [.ref r, .ref g]
  r0 : H r = some (.lst (ws.map V.str))
  g0 : H g = some (.lst (refs js))
  j : JsAt K H js
theorem PlAt.r {K : PySem.W.Frag} {H : Hp} {p r g : Addr} {ws : List Str} {js : Js} (h : PlAt K H p r g ws js) : Rd H r (.lst (ws.map V.str)) := .inl h.r0
theorem PlAt.g {K : PySem.W.Frag} {H : Hp} {p r g : Addr} {ws : List Str} {js : Js} (h : PlAt K H p r g ws js) : Rd H g (.lst (refs js)) := .inl h.g0
theorem PlAt.mono {K : PySem.W.Frag} {G H : Hp} {p r g : Addr} {ws : List Str} {js : Js} (h : PlAt K G p r g ws js) (s : Same G H) : PlAt K H p r g ws js := ⟨sameT s h.p, s _ _ h.r0, s _ _ h.g0, h.j.mono s⟩
theorem Rt.films {n : Nat} {ws : List Str} {js : Js} (h : Rt n ws js) : ∀ x ∈ ws, filmFt x = none := fun x hx => by
  obtain ⟨a, b⟩ := h.wd x hx
  unfold filmFt
  have : eS x = false := by
    cases q : eS x with
    | false => rfl
    | true => have := eS_iff.mp q; omega
  rw [this, a.pl]; rfl
theorem Jn.ft {xs : List Str} (h : Jn xs) : ruleFt xs = none := by
  unfold ruleFt
  rw [if_pos h.n4]
  have : xs.find? (fun p => !plain p) = none := List.find?_eq_none.mpr fun x hx => by rw [(h.wd x hx).pl]; decide
  rw [this]
  have e0 : eS (xs.getD 0 "") = false := by
    cases q : eS (xs.getD 0 "") with
    | false => rfl
    | true => have := eS_iff.mp q; have := h.l0; omega
  have e3 : eS (xs.getD 3 "") = false := by
    cases q : eS (xs.getD 3 "") with
    | false => rfl
    | true => have := eS_iff.mp q; have := h.l3; omega
  show (if eS (xs.getD 0 "") || eS (xs.getD 3 "") then _ else _) = _
  rw [e0, e3]; rfl
theorem Rt.box {n : Nat} {ws : List Str} {js : Js} (h : Rt n ws js) : boxFt ws js = none := by
  unfold boxFt
  have a : ws.findSome? filmFt = none := List.findSome?_eq_none_iff.mpr h.films
  have b : (js.findSome? fun j => (ruleFt j.2).map fun f => (j.1, j.2, f)) = none := List.findSome?_eq_none_iff.mpr fun j hj => by rw [(h.jd j hj).ft]; rfl
  rw [a, b]
theorem Rt.txs {n : Nat} {ws : List Str} {js : Js} (h : Rt n ws js) : ∀ x ∈ ws, Tx 5000 x := fun x hx => (h.wd x hx).1.tx.mono (by decide)
theorem Jn.txs {xs : List Str} (h : Jn xs) : ∀ x ∈ xs, Tx 5000 x := fun x hx => (h.wd x hx).tx.mono (by decide)
end Sf

namespace Sf
open PySem PySem.Spec PyProof.Rows L2
/-! ### the unlike pictures of a text, ascending -/
def Pics (whole x : Str) : Prop := ∃ ys : List Str, ys.Perm (dd (signs1 whole)) ∧ sortedS ys = true ∧ x = Txt.join "" ys
theorem nat_sorted_one : ∀ {a b : List Nat}, a.Perm b → a.Pairwise (· ≤ ·) → b.Pairwise (· ≤ ·) → a = b
  | [], b, p, _, _ => (List.nil_perm.mp p).symm
  | x :: a, [], p, _, _ => (List.perm_nil.mp p)
  | x :: a, y :: b, p, ha, hb => by
    have e : x = y := by
      have hx : x ∈ y :: b := p.mem_iff.mp List.mem_cons_self
      have hy : y ∈ x :: a := p.mem_iff.mpr List.mem_cons_self
      rcases List.mem_cons.mp hx with h | h
      · exact h
      · rcases List.mem_cons.mp hy with h2 | h2
        · exact h2.symm
        · exact Nat.le_antisymm (List.rel_of_pairwise_cons ha h2) (List.rel_of_pairwise_cons hb h)
    subst e
    rw [nat_sorted_one (List.Perm.cons_inv p) (List.pairwise_cons.mp ha).2 (List.pairwise_cons.mp hb).2]
theorem lt_one (c d : Nat) : ltCps [c] [d] = decide (c < d) := by
  unfold ltCps
  by_cases h : c < d
  · simp [h]
  · by_cases h2 : d < c
    · simp [h, h2]
      intro e; omega
    · have : c = d := by omega
      subst this
      simp [ltCps]
theorem rising_one : ∀ (l : List Nat) (c : Nat), risingS ⟨#[c]⟩ (l.map fun c => (⟨#[c]⟩ : Str)) = true → (c :: l).Pairwise (· ≤ ·)
  | [], c, _ => by simp
  | d :: l, c, h => by
    rw [List.map_cons] at h
    unfold risingS at h
    rw [Bool.and_eq_true] at h
    obtain ⟨h1, h2⟩ := h
    have h1 : (!ltCps [d] [c]) = true := h1
    rw [lt_one] at h1
    have hcd : c ≤ d := by
      have : ¬ d < c := by simpa using h1
      omega
    have r := rising_one l d h2
    refine List.pairwise_cons.mpr ⟨fun e he => ?_, r⟩
    rcases List.mem_cons.mp he with z | z
    · omega
    · exact Nat.le_trans hcd (List.rel_of_pairwise_cons r z)
theorem sorted_one {l : List Nat} (h : sortedS (l.map fun c => (⟨#[c]⟩ : Str)) = true) : l.Pairwise (· ≤ ·) := by
  cases l with
  | nil => exact List.Pairwise.nil
  | cons c l => exact rising_one l c h
theorem all_one : ∀ {ys : List Str}, (∀ y ∈ ys, ∃ c, y = ⟨#[c]⟩) → ∃ l : List Nat, ys = l.map fun c => (⟨#[c]⟩ : Str)
  | [], _ => ⟨[], rfl⟩
  | y :: ys, h => by
    obtain ⟨c, rfl⟩ := h y List.mem_cons_self
    obtain ⟨l, rfl⟩ := all_one fun z hz => h z (List.mem_cons_of_mem _ hz)
    exact ⟨c :: l, rfl⟩
theorem perm_one {l m : List Nat} (h : (l.map fun c => (⟨#[c]⟩ : Str)).Perm (m.map fun c => (⟨#[c]⟩ : Str))) : l.Perm m := by
  have := h.map (fun s : Str => s.cps.toList.headD 0)
  rw [List.map_map, List.map_map] at this
  have e : ((fun s : Str => s.cps.toList.headD 0) ∘ fun c => (⟨#[c]⟩ : Str)) = id := by funext c; rfl
  rw [e, List.map_id, List.map_id] at this
  exact this
theorem Pics.one {w x y : Str} (h : Pics w x) (k : Pics w y) : x = y := by
  obtain ⟨ys, p1, s1, rfl⟩ := h
  obtain ⟨zs, p2, s2, rfl⟩ := k
  have all : ∀ {ys : List Str}, ys.Perm (dd (signs1 w)) → ∀ y ∈ ys, ∃ c, y = ⟨#[c]⟩ := fun p y hy => by
    have := dd_mem.mp (p.mem_iff.mp hy)
    obtain ⟨c, _, rfl⟩ := List.mem_map.mp this
    exact ⟨c, rfl⟩
  obtain ⟨l, rfl⟩ := all_one (all p1)
  obtain ⟨m, rfl⟩ := all_one (all p2)
  rw [nat_sorted_one (perm_one (p1.trans p2.symm)) (sorted_one s1) (sorted_one s2)]
theorem nodup_len {α : Type} [DecidableEq α] : ∀ {l L : List α}, l.Nodup → (∀ x ∈ l, x ∈ L) → l.length ≤ L.length
  | [], L, _, _ => Nat.zero_le _
  | x :: l, L, n, h => by
    have hx := h x List.mem_cons_self
    obtain ⟨n1, n2⟩ := List.nodup_cons.mp n
    have r := nodup_len (l := l) (L := L.erase x) n2 fun y hy => (List.mem_erase_of_ne (fun e : y = x => n1 (e ▸ hy))).mpr (h y (List.mem_cons_of_mem _ hy))
    rw [List.length_erase_of_mem hx] at r
    have := List.length_pos_of_mem hx
    rw [List.length_cons]
    omega
theorem pics_few {w : Str} (h : plain w = true) : (dd (signs1 w)).length ≤ 26 := by
  have := nodup_len (l := dd (signs1 w)) (L := signs1 abcS) (dd_nodup _) fun x hx => by
    obtain ⟨c, hc, rfl⟩ := List.mem_map.mp (dd_mem.mp hx)
    exact List.mem_map.mpr ⟨c, plain_iff.mp h c hc, rfl⟩
  exact this
theorem Pics.wd {w x : Str} (h : Pics w x) (p : plain w = true) : Wd 26 x := by
  obtain ⟨ys, p1, s1, rfl⟩ := h
  have l := p1.length_eq
  have f := pics_few p
  exact (wd_join fun y hy => by
    obtain ⟨c, hc, rfl⟩ := List.mem_map.mp (dd_mem.mp (p1.mem_iff.mp hy))
    exact ⟨c, plain_iff.mp p c hc, rfl⟩).1.mono (by omega)
theorem upd_swap {H : Hp} {a b : Addr} {o u : HO} (h : a ≠ b) : upd (upd H b o) a u = upd (upd H a u) b o := by
  funext c; unfold upd
  by_cases h1 : c = a
  · subst h1; rw [if_pos rfl, if_neg h, if_pos rfl]
  · rw [if_neg h1]
    split
    · rfl
    · rfl
theorem small_lt {n : Nat} (h : n ≤ 100000) : n < sizeLine := Nat.lt_of_le_of_lt h (by rw [sizeLine_eq]; decide)
theorem Ext.skn {G H G' H' : Hp} {a : Addr} {n : Nat} (x : Ext noM G H G' H') (h : Sk n H a) : Sk n H' a := let ⟨p, q, r, e, t⟩ := h; ⟨p, q, r, x.fr _ _ id e, t⟩
/-! ### texts put together -/
theorem len_join0 (ys : List Str) : (Txt.join "" ys).length = (ys.map (·.length)).sum := by
  rw [len_ls, ls_join0, List.length_flatten, List.map_map]
  congr 1
theorem sum_le {ys : List Str} {B : Nat} (h : ∀ y ∈ ys, y.length ≤ B) : (ys.map (·.length)).sum ≤ ys.length * B := by
  induction ys with
  | nil => exact Nat.zero_le _
  | cons y r ih =>
    have a := h y List.mem_cons_self
    have b := ih fun z hz => h z (List.mem_cons_of_mem _ hz)
    rw [List.map_cons, List.sum_cons, List.length_cons, Nat.succ_mul]
    omega
theorem join_ok {ys : List Str} {B n : Nat} (h : ∀ y ∈ ys, y.length ≤ B) (l : ys.length ≤ n) (z : n * B ≤ 16777216) : (ys.map (·.length)).sum + ys.length * (("" : String) : Str).length ≤ 16777216 := by
  have a := sum_le h
  have b : ys.length * B ≤ n * B := Nat.mul_le_mul_right _ l
  have e : (("" : String) : Str).length = 0 := rfl
  rw [e, Nat.mul_zero]
  omega
theorem plain_join {ys : List Str} (h : ∀ y ∈ ys, plain y = true) : plain (Txt.join "" ys) = true := by
  rw [plain_iff, ls_join0]
  intro c hc
  obtain ⟨l, hl, h2⟩ := List.mem_flatten.mp hc
  obtain ⟨y, hy, rfl⟩ := List.mem_map.mp hl
  exact plain_iff.mp (h y hy) c h2
theorem wd_joins {ys : List Str} {B n : Nat} (h : ∀ y ∈ ys, Wd B y) (l : ys.length ≤ n) : Wd (n * B) (Txt.join "" ys) := by
  refine ⟨?_, plain_join fun y hy => (h y hy).pl⟩
  rw [len_join0]
  exact Nat.le_trans (sum_le fun y hy => (h y hy).len) (Nat.mul_le_mul_right _ l)
/-- the pieces of each rule, put together -/
def jTexts (js : Js) : List Str := js.map fun j => Txt.join "" j.2
/-- all signs of strips and rules -/
def wholeT (ws : List Str) (js : Js) : Str := Txt.join "" (ws ++ jTexts js)
theorem whole_two (ws : List Str) (js : Js) : Txt.join "" ws ++ Txt.join "" (jTexts js) = wholeT ws js := by
  apply ext_ls
  unfold wholeT
  rw [ls_append, ls_join0, ls_join0, ls_join0, List.map_append, List.flatten_append]
theorem Rt.mono {n k : Nat} {ws : List Str} {js : Js} (h : Rt n ws js) (l : n ≤ k) : Rt k ws js := ⟨Nat.le_trans h.wn l, h.wd, Nat.le_trans h.jn l, h.jd⟩
theorem Rt.rev {n : Nat} {ws : List Str} {js : Js} (h : Rt n ws js) : Rt n ws.reverse js := ⟨by rw [List.length_reverse]; exact h.wn, fun x hx => h.wd x (List.mem_reverse.mp hx), h.jn, h.jd⟩
theorem Rt.jt {n : Nat} {ws : List Str} {js : Js} (h : Rt n ws js) : ∀ x ∈ jTexts js, Wd 40 x := fun x hx => by
  obtain ⟨j, hj, rfl⟩ := List.mem_map.mp hx
  have q := h.jd j hj
  exact wd_joins (n := 4) (B := 10) q.wd (Nat.le_of_eq q.n4)
theorem Rt.whole {n : Nat} {ws : List Str} {js : Js} (h : Rt n ws js) : Wd (n * 80) (wholeT ws js) := by
  have a := wd_joins (n := ws.length + js.length) (B := 40) (ys := ws ++ jTexts js) (fun y hy => by
    rcases List.mem_append.mp hy with z | z
    · exact (h.wd y z).1
    · exact h.jt y z) (by rw [List.length_append]; exact Nat.le_of_eq (congrArg _ (List.length_map ..)))
  refine a.mono ?_
  have := h.wn
  have := h.jn
  omega
theorem Wd.ascii {n : Nat} {x : Str} (h : Wd n x) : ∀ c ∈ x.cps.toList, c < 128 := fun c hc => by
  have : ∀ c ∈ abcS.cps.toList, c < 128 := by decide
  exact this c (plain_iff.mp h.pl c hc)
/-! ### what is shown -/
theorem sz_w {n m B : Nat} {ws : List Str} (h : ∀ x ∈ ws, Tx B x) (l : ws.length ≤ m) (z : m * (10 * B + 4) + 2 ≤ n) : Sz 1 n (wDat ws) := by
  have a : SzAll 0 (ws.length * (10 * B + 2 + 2)) (ws.map PyData.str) := by
    have := SzAll.of (k := 0) (n := 10 * B + 2) (ds := ws.map PyData.str) fun d hd => by
      obtain ⟨x, hx, rfl⟩ := List.mem_map.mp hd
      exact (h x hx).sz
    rw [List.length_map] at this
    exact this
  exact (Sz.list a).mono (Nat.le_refl _) (Nat.le_trans (Nat.add_le_add_right (Nat.mul_le_mul_right _ l) 2) z)
theorem sz_tup4 {xs : List Str} (h : ∀ x ∈ xs, Tx 10 x) (l : xs.length = 4) : Sz 1 420 (.tuple (xs.map .str)) := by
  have a : SzAll 0 (xs.length * (102 + 2)) (xs.map PyData.str) := by
    have := SzAll.of (k := 0) (n := 102) (ds := xs.map PyData.str) fun d hd => by
      obtain ⟨x, hx, rfl⟩ := List.mem_map.mp hd
      exact (h x hx).sz
    rw [List.length_map] at this
    exact this
  rw [l] at a
  exact Sz.tuple a
theorem sz_j {n m : Nat} {js : Js} (h : ∀ j ∈ js, Jn j.2) (l : js.length ≤ m) (z : m * 422 + 2 ≤ n) : Sz 2 n (jDat js) := by
  have a : SzAll 1 (js.length * (420 + 2)) (js.map fun j => PyData.tuple (j.2.map .str)) := by
    have := SzAll.of (k := 1) (n := 420) (ds := js.map fun j => PyData.tuple (j.2.map .str)) fun d hd => by
      obtain ⟨j, hj, rfl⟩ := List.mem_map.mp hd
      exact sz_tup4 (fun x hx => ((h j hj).wd x hx).tx) (h j hj).n4
    rw [List.length_map] at this
    exact this
  exact (Sz.list a).mono (Nat.le_refl _) (Nat.le_trans (Nat.add_le_add_right (Nat.mul_le_mul_right _ l) 2) z)
/-! ### rules within a comprehension: their readings are told ahead -/
def rJoin (K : PySem.W.Frag) : V → List V → Hp → VK → Prop := fun x xs H Q => ∃ a p, ∃ ys : List Str, x = .str a ∧ xs = [.ref p] ∧ (SqL K H p (ys.map V.str) ∨ SqT K H p (ys.map V.str)) ∧
  (ys.map (·.length)).sum + ys.length * a.length ≤ 16777216 ∧ Q (.str (Txt.join a ys)) H
theorem pe_joinK {K : PySem.W.Frag} {X : Cx} {o e : Expr} {to te : TE} {apos pos : Pos} (ho : PE X o to) (he : PE X e te) (hK : X.K = K := by rfl) (hs : starEach [e] X.env = [(false, eval e X.env)] := by rfl)
    (hbase : attributeBase o "join" X.env (eval o X.env) = eval o X.env := by rfl) (hline : (apos.endLine == pos.line) = true := by rfl) : PE X (.Call (.Attribute o "join" apos) [e] [] pos) (tM1 (rJoin K) to te) := by
  subst hK
  exact pe_join ho he hs hbase hline
def rListOf (K : PySem.W.Frag) : List V → Hp → VK → Prop := fun xs H Q => ∃ p ys, xs = [.ref p] ∧ (SqL K H p ys ∨ SqT K H p ys) ∧ ∀ l, H l = none → Q (.ref l) (upd H l (.lst ys))
theorem call_list_ofK {K : PySem.W.Frag} {X : Cx} (hK : X.K = K := by rfl) : CallR X (.type "list") (rListOf K) := by
  subst hK
  exact call_list_of
end Sf

namespace Sf
open PySem PySem.Spec PyProof.Rows L2
/-! ### calls of own methods that may raise, by position and by keyword; + of own objects -/
section
variable {X : Cx} {CX : CXT} {k : Nat} {f C : Addr} {fd : FuncData} {ps ks : List Str} {sp : Sp} {E : L2.St → XK} {m : Str} {apos pos : Pos} {o e : Expr} {es : List Expr} {kws : List Keyword} {ta : TE} {t tk : TA} {g : List Value → List Value → List Value} {gV : List V → List V → List V}
def tMethS (C : Addr) (m : Str) (sp : Sp) (E : L2.St → XK) (ta : TE) (t : TA) : TE := fun σ H Q => ta σ H fun x H1 => ∃ a dx fs, x = .ref a ∧ H1 a = some (.ins C dx fs) ∧ fs.lookup m = none ∧ t σ H1 fun vs H2 => sp (x :: vs) H2 Q (E σ)
theorem pe_methSE {pl : Sem Bool} (he : PE X o ta) (c : Cls X.K C) (hm : Meth X.K C m f) (F : FnOk X.prog X.w X.K X.mg X.base CX k f fd ps sp) (hr : Room k X.A) (hb : Binds X.K fd ps []) (hx : ∀ σ, PassesAt CX X σ (E σ)) (ha : PA X (e :: es) t)
    (hst : starEach (e :: es) X.env = (false, eval e X.env) :: starEach es X.env := by rfl) (hpl : (backTo pos (starEach es X.env)).any (·.1) = false := by rfl)
    (ht : eval (.Call (.Attribute o m apos) (e :: es) [] pos) X.env = (do
      let ov ← eval o X.env; standAt apos.atName
      let (f, first) ← holding [ov] (getMethod ov m pl); callWith pos f first (backTo pos (starEach (e :: es) X.env)) (backToKw pos (keywordEach [] X.env))) := by rfl) :
    PE X (.Call (.Attribute o m apos) (e :: es) [] pos) (tMethS C m sp E ta t) := by
  constructor
  intro pins s σ H Q I h
  apply PySem.W.methodCall_KW (pl := pl) _ ht
  apply thn (he.run pins s σ H _ I h)
  rintro u s1 ⟨x, H1, I1, rx, a, dx, fs, rfl, ea, l, q⟩
  cases (show u = Value.ref a from rx)
  apply getmeth_ok I1 ea c hm l
  apply PySem.W.callWith_K (first := [.ref a]) (h₀ := X.base) I.ok.mod.kin hm.kp (thn (ha.run pos pins s1 σ H1 _ I1 q) ?_) hst hpl
  rintro us s2 ⟨vs, H2, I2, r, q2⟩
  refine ⟨I2.kIn, run_fnSD (us := .ref a :: us) (vs := .ref a :: vs) (dvs := []) F hr hb .nil (hx σ) I2 (.cons rfl r) ?_⟩
  rw [List.append_nil]
  exact q2
def tMethKS (C : Addr) (m : Str) (n : Nat) (sp : Sp) (gV : List V → List V → List V) (E : L2.St → XK) (ta : TE) (tk : TA) : TE := fun σ H Q => ta σ H fun x H1 => ∃ a dx fs, x = .ref a ∧ H1 a = some (.ins C dx fs) ∧ fs.lookup m = none ∧ tk σ H1 fun zs H2 => zs.length = n ∧ sp (gV [x] zs) H2 Q (E σ)
theorem pe_methKS {pl : Sem Bool} (he : PE X o ta) (c : Cls X.K C) (hm : Meth X.K C m f) (F : FnOk X.prog X.w X.K X.mg X.base CX k f fd ps sp) (hr : Room k X.A) (hb : KBn X.K fd ps 1 ks g gV) (hx : ∀ σ, PassesAt CX X σ (E σ)) (hkw : PK X kws tk)
    (hall : (backToKw pos (keywordEach kws X.env)).all (·.1.isSome) = true := by rfl) (hks : (backToKw pos (keywordEach kws X.env)).filterMap (·.1) = ks := by rfl)
    (hpl : ((backTo pos (starEach [] X.env)).any (·.1) || (backToKw pos (keywordEach kws X.env)).any (·.1.isNone)) = false := by rfl)
    (ht : eval (.Call (.Attribute o m apos) [] kws pos) X.env = (do
      let ov ← eval o X.env; standAt apos.atName
      let (f, first) ← holding [ov] (getMethod ov m pl); callWith pos f first (backTo pos (starEach [] X.env)) (backToKw pos (keywordEach kws X.env))) := by rfl) :
    PE X (.Call (.Attribute o m apos) [] kws pos) (tMethKS C m ks.length sp gV E ta tk) := by
  constructor
  intro pins s σ H Q I h
  apply PySem.W.methodCall_KW (pl := pl) _ ht
  apply thn (he.run pins s σ H _ I h)
  rintro u s1 ⟨x, H1, I1, rx, a, dx, fs, rfl, ea, l, q⟩
  cases (show u = Value.ref a from rx)
  apply getmeth_ok I1 ea c hm l
  apply PySem.W.callWith_KW0 (first := [.ref a]) (h₀ := X.base) I.ok.mod.kin hm.kp hall ?_ hpl
  apply thn (hkw.run pos pins s1 σ H1 _ I1 q)
  rintro ws s2 ⟨zs, H2, I2, rz, len, q2⟩
  refine ⟨I2.kIn, ?_⟩
  rw [hks]
  have r1 : Vals [V.ref a] [Value.ref a] := .cons rfl .nil
  have n2 : ws.length = ks.length := by rw [← rz.length]; exact len
  apply wpAny_call
  apply codeAny_mono (F.run X.A X.stack s2 H2 ⟨[.ref a], ks.zip ws⟩ _ _ Q (E σ) hr I2.env0 (hb.to s2 [.ref a] ws I2.kIn rfl n2) (hb.rel r1 rz) q2)
  intro r s' hq
  cases r with
  | error e => exact hx σ pins H2 s2 e s' I2 hq
  | ok fl =>
    cases fl with
    | ret u => exact I2.after hq
    | next => exact hq.elim
    | brk => exact hq.elim
    | cont => exact hq.elim
/-- a + b, both of one own class with its own __add__ -/
def rAddO (C : Addr) (sp : Sp) : R2 := fun x y H Q => ∃ a b dx dy fs gs, x = .ref a ∧ y = .ref b ∧ H a = some (.ins C dx fs) ∧ H b = some (.ins C dy gs) ∧ sp [.ref a, .ref b] H Q E0
theorem op_addO (F : FnOk X.prog X.w X.K X.mg X.base CX k f fd ps sp) (hr : Room k X.A) (hc : PySem.W.selfFirst X.K C = true) (hs : PySem.W.findIn X.K (.ref C) "__add__" = some (some (.ref f))) (hf : PySem.W.isFn X.K (.ref f) = true) (hb : Binds X.K fd ps []) (hx : Passes CX X E0) :
    OpR X (binaryOp .Add) (rAddO C sp) := by
  intro pins s σ H x y u v Q I rx ry h
  obtain ⟨a, b, dx, dy, fs, gs, rfl, rfl, ha, hb', q⟩ := h
  cases (show u = Value.ref a from rx)
  cases (show v = Value.ref b from ry)
  obtain ⟨mA, O, _⟩ := ins_get I.hok ha
  obtain ⟨od, J, _⟩ := O.look
  obtain ⟨mB, O2, _⟩ := ins_get I.hok hb'
  obtain ⟨od2, J2, _⟩ := O2.look
  obtain ⟨ml, Fr⟩ := I.fr
  apply PySem.W.binop_K (op := .Add) Fr I.ok.mod.kin J J2.type hc hs hf
  apply wpAny_mono (run_fn (us := [.ref a, .ref b]) (vs := [.ref a, .ref b]) (dvs := []) F hr hb .nil hx I (.cons rfl (.cons rfl .nil)) q)
  · rintro w s' ⟨z, H', I', rz, q'⟩
    cases w with
    | notImplemented => cases z <;> first | (obtain ⟨_, e⟩ := rz; cases e) | cases rz
    | _ => exact ⟨z, H', I', rz, q'⟩
  · exact fun _ _ e => e
/-- a statement that is not reached -/
theorem ps_no {st : Stmt} : PS X st (fun _ _ _ => False) := ⟨fun _ _ _ _ _ _ h => h.elim⟩
end
theorem passLs {X : Cx} : ∀ σ, PassesAt (L2.CX X.prog X.w) X σ ((fun _ => E0 : L2.St → XK) σ) := fun σ pins H s e s' I c => passL pins σ H s e s' I c
theorem pg_tupK {K : PySem.W.Frag} {X : Cx} {es : List Expr} {pos : Pos} {k : Nat} {t : TGs} {n : Nat} (hc : X.calm = true) (h : PGs X es t) (hK : X.K = K := by rfl)
    (hn : (assignEach es X.env).length = n := by rfl) (hst : (assignEach es X.env).findIdx? (·.1) = none := by rfl) : PG X (.Tuple es k pos) (gTup K n t) := by
  subst hK
  exact pg_tup hc h hn hst
theorem wish {W : XK} {A : XK → Prop} {B : Prop} (k : A W → B) (h : A W) : B := k h
/-! ### cuts of lists -/
theorem cutV_to {xs : List V} {j : Nat} (h : j ≤ xs.length) : cutV xs none (some (j : Int)) = xs.take j := by
  unfold cutV
  show ((xs.drop 0).take (HT.sIx xs.length xs.length (some (j : Int)) - 0)) = _
  rw [HT.sIx_nat, Nat.min_eq_left h]
  rfl
theorem cutV_from {xs : List V} {j : Nat} (h : j ≤ xs.length) : cutV xs (some (j : Int)) none = xs.drop j := by
  unfold cutV
  show ((xs.drop (HT.sIx xs.length 0 (some (j : Int)))).take (xs.length - HT.sIx xs.length 0 (some (j : Int)))) = _
  rw [HT.sIx_nat, Nat.min_eq_left h]
  refine List.take_of_length_le ?_
  rw [List.length_drop]
  exact Nat.le_refl _
/-- without the one at j -/
def cutO {α : Type} (xs : List α) (j : Nat) : List α := xs.take j ++ xs.drop (j + 1)
theorem cutO_map {α : Type} {xs : List α} {f : α → V} {j : Nat} (h : j < xs.length) : cutV (xs.map f) none (some (j : Int)) ++ cutV (xs.map f) (some ((j : Int) + 1)) none = (cutO xs j).map f := by
  have e : (j : Int) + 1 = ((j + 1 : Nat) : Int) := by omega
  rw [e, cutV_to (by rw [List.length_map]; omega), cutV_from (by rw [List.length_map]; omega), ← List.map_take, ← List.map_drop, ← List.map_append]
  rfl
theorem cutO_mem {α : Type} {xs : List α} {j : Nat} {x : α} (h : x ∈ cutO xs j) : x ∈ xs := by
  rcases List.mem_append.mp h with z | z
  · exact List.mem_of_mem_take z
  · exact List.mem_of_mem_drop z
theorem cutO_len {α : Type} (xs : List α) (j : Nat) : (cutO xs j).length ≤ xs.length := by
  unfold cutO
  rw [List.length_append, List.length_take, List.length_drop]
  omega
theorem cutO_snd {js : Js} (j : Nat) : (cutO js j).map (·.2) = cutO (js.map (·.2)) j := by
  unfold cutO
  rw [List.map_append, List.map_take, List.map_drop]
theorem Rt.cutW {n : Nat} {ws : List Str} {js : Js} (h : Rt n ws js) (j : Nat) : Rt n (cutO ws j) js := ⟨Nat.le_trans (cutO_len _ _) h.wn, fun x hx => h.wd x (cutO_mem hx), h.jn, h.jd⟩
theorem Rt.cutJ {n : Nat} {ws : List Str} {js : Js} (h : Rt n ws js) (j : Nat) : Rt n ws (cutO js j) := ⟨h.wn, h.wd, Nat.le_trans (cutO_len _ _) h.jn, fun x hx => h.jd x (cutO_mem hx)⟩
/-! ### strips and rules, more of them -/
/-- what a box holds, whatever is in it -/
structure Any5 (ws : List Str) (js : Js) : Prop where
  w : ∀ x ∈ ws, Tx 5000 x
  j : ∀ j ∈ js, ∀ x ∈ j.2, Tx 5000 x
  wn : ws.length ≤ 1000
  jn : js.length ≤ 1000
theorem Rt.any5 {n : Nat} {ws : List Str} {js : Js} (h : Rt n ws js) (l : n ≤ 1000) : Any5 ws js := ⟨h.txs, fun j hj => (h.jd j hj).txs, Nat.le_trans h.wn l, Nat.le_trans h.jn l⟩
theorem Rt.addW {n k : Nat} {ws : List Str} {js : Js} {x : Str} (h : Rt n ws js) (l : ws.length + 1 ≤ k) (l2 : n ≤ k) (wx : Wd 40 x) (lx : 1 ≤ x.length) : Rt k (ws ++ [x]) js := ⟨by rw [List.length_append]; exact l, fun y hy => by
  rcases List.mem_append.mp hy with z | z
  · exact h.wd y z
  · rw [List.mem_singleton.mp z]; exact ⟨wx, lx⟩, Nat.le_trans h.jn l2, h.jd⟩
theorem Rt.addJ {n k : Nat} {ws : List Str} {js : Js} {q : Addr} {xs : List Str} (h : Rt n ws js) (l : js.length + 1 ≤ k) (l2 : n ≤ k) (j : Jn xs) : Rt k ws (js ++ [(q, xs)]) := ⟨Nat.le_trans h.wn l2, h.wd, by rw [List.length_append]; exact l, fun y hy => by
  rcases List.mem_append.mp hy with z | z
  · exact h.jd y z
  · rw [List.mem_singleton.mp z]; exact j⟩
theorem Rt.app {n k : Nat} {ws ws2 : List Str} {js js2 : Js} (h : Rt n ws js) (h2 : Rt n ws2 js2) (l : ws.length + ws2.length ≤ k) (l2 : js.length + js2.length ≤ k) : Rt k (ws ++ ws2) (js ++ js2) := ⟨by rw [List.length_append]; exact l, fun y hy => by
  rcases List.mem_append.mp hy with z | z
  · exact h.wd y z
  · exact h2.wd y z, by rw [List.length_append]; exact l2, fun y hy => by
  rcases List.mem_append.mp hy with z | z
  · exact h.jd y z
  · exact h2.jd y z⟩
end Sf

namespace Sf
open PySem PySem.Spec PyProof.Rows L2
/-! ### C(..) within a try: what is raised is wished for at the caller's slots -/
section
variable {X : Cx} {CX : CXT} {k : Nat} {f C : Addr} {fd : FuncData} {ps ks : List Str} {sp : Sp} {E : L2.St → XK} {x : Str} {p pos : Pos} {e : Expr} {es : List Expr} {kws : List Keyword} {t tk : TA} {g : List Value → List Value → List Value} {gV : List V → List V → List V}
theorem made_at {pins : List (Addr × Obj)} {σ : L2.St} {H : Hp} {s : Shared} {Q : VK} {E' : XK} {us : List Value} {kv : List (Str × Value)} {bs : List Value} {zs : List V} (M : Mk X.K C f) (F : FnOk X.prog X.w X.K X.mg X.base CX k f fd ps sp) (hr : Room (k + 1) X.A) (hx : PassesAt CX X σ E')
    (I : Inv X pins σ H s) (hb : ∀ s' : Shared, X.K.In s'.heap → BindsTo s' fd ⟨.ref (s.heap.objs.size + 1) :: us, kv⟩ (ps.zip bs)) (r : Vals zs bs)
    (q : sp zs (upd (upd H s.heap.objs.size (.own (s.heap.objs.size + 1))) (s.heap.objs.size + 1) (.ins C s.heap.objs.size [])) (fun v H2 => v = .non ∧ Q (.ref (s.heap.objs.size + 1)) H2) E') :
    wpAny (model X.prog X.w) X.A (call (.ref C) us kv) (EP X pins σ Q) X.xe s := by
  have I2 := Inv.made (C := C) I
  apply wpAny_call
  apply make_map (f := f) I.kIn M.makes M.init (beq_iff_eq.mp M.fn)
  apply codeAny_mono (F.run _ X.stack _ _ ⟨.ref (s.heap.objs.size + 1) :: us, kv⟩ bs zs _ E' (hr.make C us kv) (I2.env0.make C us kv) (hb _ I2.kIn) r q)
  intro res s' z
  cases res with
  | error er => exact hx pins _ _ er s' I2 z
  | ok fl =>
    cases fl with
    | ret u =>
      obtain ⟨v, H', I3, rv, rfl, q3⟩ := I2.after z
      exact ⟨rv, .ref (s.heap.objs.size + 1), H', I3, rfl, q3⟩
    | next => exact z.elim
    | brk => exact z.elim
    | cont => exact z.elim
def tMakeS (C : Addr) (sp : Sp) (E : L2.St → XK) (t : TA) : TE := fun σ H Q => t σ H fun vs H1 => ∀ x dx, H1 x = none → H1 dx = none → dx ≠ x → sp (.ref x :: vs) (upd (upd H1 dx (.own x)) x (.ins C dx [])) (fun v H2 => v = .non ∧ Q (.ref x) H2) (E σ)
theorem pe_makeSE (M : Mk X.K C f) (F : FnOk X.prog X.w X.K X.mg X.base CX k f fd ps sp) (hr : Room (k + 1) X.A) (hg : Gl X x) (hm : X.mg x = some (.ref C)) (hb : Binds X.K fd ps []) (hx : ∀ σ, PassesAt CX X σ (E σ)) (ha : PA X (e :: es) t)
    (hdb : (x == ("__debug__" : Str)) = false := by decide) (he : starEach (e :: es) X.env = (false, eval e X.env) :: starEach es X.env := by rfl) (hpl : (backTo pos (starEach es X.env)).any (·.1) = false := by rfl) :
    PE X (.Call (.Name x p) (e :: es) [] pos) (tMakeS C sp E t) := by
  constructor
  intro pins s σ H Q I h
  apply wpAny_Call_Name_kw (ld_glob I hg hm ?_ hdb)
  apply PySem.W.callWith_K (h₀ := X.base) I.ok.mod.kin M.kp (thn (ha.run pos pins s σ H _ I h) ?_) he hpl
  rintro us s1 ⟨vs, H1, I1, r, q⟩
  refine ⟨I1.kIn, ?_⟩
  have hq := q (s1.heap.objs.size + 1) s1.heap.objs.size (I1.hok.fresh (Nat.le_succ _)) (I1.hok.fresh (Nat.le_refl _)) (Nat.ne_of_lt (Nat.lt_succ_self _))
  have ln := F.len _ _ _ _ hq
  refine made_at (bs := .ref (s1.heap.objs.size + 1) :: us) (zs := .ref (s1.heap.objs.size + 1) :: vs) M F hr (hx σ) I1 (fun s' kin => ?_) (.cons rfl r) hq
  have b := hb s' (.ref (s1.heap.objs.size + 1) :: us) kin (by rw [List.append_nil, List.length_cons, ← r.length]; exact ln)
  rw [List.append_nil] at b
  exact b
def tMakeKS (C : Addr) (n : Nat) (sp : Sp) (gV : List V → List V → List V) (E : L2.St → XK) (tk : TA) : TE := fun σ H Q => tk σ H fun zs H1 => zs.length = n ∧ ∀ x dx, H1 x = none → H1 dx = none → dx ≠ x → sp (gV [.ref x] zs) (upd (upd H1 dx (.own x)) x (.ins C dx [])) (fun v H2 => v = .non ∧ Q (.ref x) H2) (E σ)
theorem pe_makeKS (M : Mk X.K C f) (F : FnOk X.prog X.w X.K X.mg X.base CX k f fd ps sp) (hr : Room (k + 1) X.A) (hg : Gl X x) (hm : X.mg x = some (.ref C)) (hb : KBn X.K fd ps 1 ks g gV) (hx : ∀ σ, PassesAt CX X σ (E σ)) (hkw : PK X kws tk)
    (hall : (backToKw pos (keywordEach kws X.env)).all (·.1.isSome) = true := by rfl) (hks : (backToKw pos (keywordEach kws X.env)).filterMap (·.1) = ks := by rfl) (hdb : (x == ("__debug__" : Str)) = false := by decide)
    (hpl : ((backTo pos (starEach [] X.env)).any (·.1) || (backToKw pos (keywordEach kws X.env)).any (·.1.isNone)) = false := by rfl) :
    PE X (.Call (.Name x p) [] kws pos) (tMakeKS C ks.length sp gV E tk) := by
  constructor
  intro pins s σ H Q I h
  apply wpAny_Call_Name_kw (ld_glob I hg hm ?_ hdb)
  apply PySem.W.callWith_KW0 (h₀ := X.base) I.ok.mod.kin M.kp hall ?_ hpl
  apply thn (hkw.run pos pins s σ H _ I h)
  rintro ws s1 ⟨zs, H1, I1, rz, len, q⟩
  refine ⟨I1.kIn, ?_⟩
  rw [hks]
  have hq := q (s1.heap.objs.size + 1) s1.heap.objs.size (I1.hok.fresh (Nat.le_succ _)) (I1.hok.fresh (Nat.le_refl _)) (Nat.ne_of_lt (Nat.lt_succ_self _))
  have n2 : ws.length = ks.length := by rw [← rz.length]; exact len
  have r1 : Vals [V.ref (s1.heap.objs.size + 1)] [Value.ref (s1.heap.objs.size + 1)] := .cons rfl .nil
  exact made_at (us := []) (kv := ks.zip ws) M F hr (hx σ) I1 (fun s' kin => hb.to s' [.ref (s1.heap.objs.size + 1)] ws kin rfl n2) (hb.rel r1 rz) hq
end
/-! ### strips and rules as data -/
theorem lay_j : ∀ {js : Js}, (∀ j ∈ js, ∀ x ∈ j.2, Tx 5000 x) → PyData.canLayAll0 (js.map fun j => PyData.tuple (j.2.map .str)) = true
  | [], _ => rfl
  | j :: js, h => by
    show (PyData.canLay0 (.tuple (j.2.map .str)) && PyData.canLayAll0 (js.map fun j => PyData.tuple (j.2.map .str))) = true
    rw [lay_j fun i hi => h i (List.mem_cons_of_mem _ hi), Bool.and_true]
    simp only [PyData.canLay0]
    exact lay_strs (h j List.mem_cons_self)
theorem depth_j : ∀ (js : Js), PyData.depthAll (js.map fun j => PyData.tuple (j.2.map .str)) ≤ 1
  | [] => Nat.zero_le _
  | j :: js => by
    show max (PyData.depth (.tuple (j.2.map .str))) (PyData.depthAll (js.map fun j => PyData.tuple (j.2.map .str))) ≤ 1
    have := depth_j js
    simp only [PyData.depth, depth_strs]
    omega
theorem shaped_j {js : Js} (h : ∀ j ∈ js, ∀ x ∈ j.2, Tx 5000 x) : SeqAt.shaped (jDat js) = true := by
  unfold SeqAt.shaped jDat
  rw [Bool.and_eq_true, decide_eq_true_eq]
  refine ⟨?_, ?_⟩
  · simp only [PyData.canLay0]
    exact lay_j h
  · simp only [PyData.depth]
    have := depth_j js
    omega
theorem eqv_jnil (js : Js) : PyData.eqv (jDat js) (.list []) = js.isEmpty := by
  unfold jDat
  cases js with
  | nil => simp only [List.map_nil, PyData.eqv, PyData.eqvAll]; rfl
  | cons x r => simp only [List.map_cons, PyData.eqv, PyData.eqvAll]; rfl
/-- tuples of texts of any number -/
theorem sz_jT {n m B L : Nat} {js : Js} (h : ∀ j ∈ js, (∀ x ∈ j.2, Tx B x) ∧ j.2.length ≤ L) (l : js.length ≤ m) (z : m * (L * (10 * B + 4) + 6) + 2 ≤ n) : Sz 2 n (jDat js) := by
  have a : SzAll 1 (js.length * (L * (10 * B + 4) + 4 + 2)) (js.map fun j => PyData.tuple (j.2.map .str)) := by
    have := SzAll.of (k := 1) (n := L * (10 * B + 4) + 4) (ds := js.map fun j => PyData.tuple (j.2.map .str)) fun d hd => by
      obtain ⟨j, hj, rfl⟩ := List.mem_map.mp hd
      obtain ⟨h1, h2⟩ := h j hj
      have c : SzAll 0 (j.2.length * (10 * B + 2 + 2)) (j.2.map PyData.str) := by
        have := SzAll.of (k := 0) (n := 10 * B + 2) (ds := j.2.map PyData.str) fun d hd => by
          obtain ⟨x, hx, rfl⟩ := List.mem_map.mp hd
          exact (h1 x hx).sz
        rw [List.length_map] at this
        exact this
      exact (Sz.tuple c).mono (Nat.le_refl _) (Nat.add_le_add_right (Nat.mul_le_mul_right _ h2) 4)
    rw [List.length_map] at this
    exact this
  exact (Sz.list a).mono (Nat.le_refl _) (Nat.le_trans (Nat.add_le_add_right (Nat.mul_le_mul_right _ l) 2) z)
end Sf

namespace Sf
open PySem PySem.Spec PyProof.Rows L2
/-! ### x == y, x of an own class with its own way to tell -/
def rEqO (K : PySem.W.Frag) (C : Addr) (sp : Sp) : R2 := fun x y H Q => ∃ a dx fs t, x = .ref a ∧ H a = some (.ins C dx fs) ∧ TyX K H y t ∧ PySem.W.notFirst K C t = true ∧ sp [.ref a, y] H Q E0
section
variable {X : Cx} {CX : CXT} {k : Nat} {f C : Addr} {fd : FuncData} {ps : List Str} {sp : Sp}
theorem op_eqO {K : PySem.W.Frag} (F : FnOk X.prog X.w X.K X.mg X.base CX k f fd ps sp) (hr : Room k X.A) (hs : PySem.W.findIn X.K (.ref C) "__eq__" = some (some (.ref f))) (hf : PySem.W.isFn X.K (.ref f) = true) (hb : Binds X.K fd ps []) (hx : Passes CX X E0) (hK : X.K = K := by rfl) :
    OpR X (compareOp .Eq) (rEqO K C sp) := by
  subst hK
  intro pins s σ H x y u v Q I rx ry h
  obtain ⟨a, dx, fs, t, rfl, ha, ty, hn, q⟩ := h
  cases (show u = Value.ref a from rx)
  obtain ⟨mA, O, _⟩ := ins_get I.hok ha
  obtain ⟨od, J, _⟩ := O.look
  obtain ⟨Pp, Z, p, _⟩ := kit_of I ry ty
  obtain ⟨ml, Fr⟩ := I.fr
  apply PySem.W.cmp_K (op := .Eq) (tb := t) hr.units0 Fr I.ok.mod.kin J (Z.ty _ _ I.kIn p) hn hs hf
  apply wpAny_mono (run_fn (us := [.ref a, v]) (vs := [.ref a, y]) (dvs := []) F hr hb .nil hx I (.cons rfl (.cons ry .nil)) q)
  · rintro w s' ⟨z, H', I', rz, q'⟩
    cases w with
    | notImplemented => cases z <;> first | (obtain ⟨_, e⟩ := rz; cases e) | cases rz
    | _ => exact ⟨z, H', I', rz, q'⟩
  · exact fun _ _ e => e
end
theorem kit_ty {K : PySem.W.Frag} {T : String} {D : Addr} (c : PySem.W.isClsIn K D = true) (ty : PySem.W.typeIn K (.ref D) = some (.type "type")) (s : PySem.W.subIn K (.type T) (.ref D) = some false) : PySem.W.kitOne K (.type T) (.ref D) = some false := by
  unfold PySem.W.kitOne
  split
  · rename_i z; cases beq_iff_eq.mp z
  · exact kit_sub c ty s
theorem not_first {K : PySem.W.Frag} {t : Value} {C : Addr} (s : PySem.W.subIn K t (.ref C) = some false) : PySem.W.notFirst K C t = true := by
  unfold PySem.W.notFirst
  rw [s]
  exact Bool.or_true _
theorem tyx_T {K : PySem.W.Frag} {H : Hp} {a : Addr} {xs : List V} (h : SqT K H a xs) : TyX K H (.ref a) (.type "tuple") := by
  rcases h with (h | ⟨o, h⟩) | ⟨o, its, n, h, c, _⟩
  · exact .base (.tup h)
  · exact .fTuple h
  · exact .kTuple h c
theorem first_self {K : PySem.W.Frag} {C : Addr} : PySem.W.notFirst K C (.ref C) = true := by
  unfold PySem.W.notFirst
  rw [beq_self_eq_true]
  rfl
/-- a method of a list, where a try stands around: the part K by name -/
theorem pe_bmK {K : PySem.W.Frag} {X : Cx} {T id : String} {name : Str} {r : V → List V → Hp → VK → Prop} {o e : Expr} {es : List Expr} {apos cpos : Pos} {to : TE} {t : TA} (pa : PlainAttrs T) (slot : Slot T name id) (hty : typeOf (.builtin id) = pure (.type "method_descriptor")) (hm : MtR X id r) (ho : PE X o to) (ha : PA X (e :: es) t) (hK : X.K = K := by rfl)
    (hbase : attributeBase o name X.env (eval o X.env) = eval o X.env := by rfl)
    (hfew : ((backTo cpos (starEach (e :: es) X.env)).all (fun x => !x.1) && (backToKw cpos (keywordEach [] X.env)).all (fun x => x.1.isSome)
      && decide ((e :: es).length + ([] : List Keyword).length + (if ([] : List Keyword).isEmpty then 0 else 1) < 30)) = true := by rfl)
    (hline : (apos.endLine == cpos.line) = true := by rfl) (hs : starEach (e :: es) X.env = (false, eval e X.env) :: starEach es X.env := by rfl) (hplain : (backTo cpos (starEach es X.env)).any (·.1) = false := by rfl) :
    PE X (.Call (.Attribute o name apos) (e :: es) [] cpos) (tBM K T r to t) := by
  subst hK
  exact pe_bm pa slot hty hm ho ha hbase hfew hline hs hplain
/-! ### what is shown tells what it is -/
theorem cps_app (a b : Str) : (a ++ b).cps = a.cps ++ b.cps := rfl
def jn : List (List Nat) → List Nat
  | [] => []
  | [x] => x
  | x :: y :: r => x ++ 44 :: 32 :: jn (y :: r)
theorem jn_join : ∀ ts : List Str, (Str.join ", " ts).cps.toList = jn (ts.map fun t => t.cps.toList)
  | [] => rfl
  | [x] => rfl
  | x :: y :: r => by
    show (x ++ ", " ++ Str.join ", " (y :: r)).cps.toList = _
    rw [cps_app, cps_app, Array.toList_append, Array.toList_append, jn_join (y :: r)]
    show _ = x.cps.toList ++ 44 :: 32 :: jn ((y :: r).map fun t => t.cps.toList)
    rw [List.append_assoc]
    rfl
def PF {α : Type} (P : α → Prop) (D : α → List Nat) : Prop := ∀ x y s t, P x → P y → D x ++ s = D y ++ t → x = y ∧ s = t
theorem pf_join {α : Type} {P : α → Prop} {D : α → List Nat} {c h : Nat} (pf : PF P D) (hd : ∀ x, P x → ∃ r, D x = h :: r) (hc : h ≠ c) (c4 : c ≠ 44) :
    ∀ xs ys : List α, ∀ s t, (∀ x ∈ xs, P x) → (∀ y ∈ ys, P y) → jn (xs.map D) ++ c :: s = jn (ys.map D) ++ c :: t → xs = ys ∧ s = t
  | [], [], s, t, _, _, e => ⟨rfl, (List.cons.inj e).2⟩
  | [], [y], s, t, _, hy, e => by
    obtain ⟨r, er⟩ := hd y (hy y List.mem_cons_self)
    have e : c :: s = D y ++ c :: t := e
    rw [er] at e
    exact absurd (List.cons.inj e).1.symm hc
  | [], y :: z :: q, s, t, _, hy, e => by
    obtain ⟨r, er⟩ := hd y (hy y List.mem_cons_self)
    have e : c :: s = (D y ++ 44 :: 32 :: jn ((z :: q).map D)) ++ c :: t := e
    rw [er] at e
    exact absurd (List.cons.inj e).1.symm hc
  | [x], [], s, t, hx, _, e => by
    obtain ⟨r, er⟩ := hd x (hx x List.mem_cons_self)
    have e : D x ++ c :: s = c :: t := e
    rw [er] at e
    exact absurd (List.cons.inj e).1 hc
  | x :: z :: q, [], s, t, hx, _, e => by
    obtain ⟨r, er⟩ := hd x (hx x List.mem_cons_self)
    have e : (D x ++ 44 :: 32 :: jn ((z :: q).map D)) ++ c :: s = c :: t := e
    rw [er] at e
    exact absurd (List.cons.inj e).1 hc
  | [x], [y], s, t, hx, hy, e => by
    obtain ⟨a, b⟩ := pf x y _ _ (hx x List.mem_cons_self) (hy y List.mem_cons_self) (show D x ++ c :: s = D y ++ c :: t from e)
    exact ⟨by rw [a], (List.cons.inj b).2⟩
  | [x], y :: z :: q, s, t, hx, hy, e => by
    have e : D x ++ c :: s = (D y ++ 44 :: 32 :: jn ((z :: q).map D)) ++ c :: t := e
    rw [List.append_assoc] at e
    obtain ⟨a, b⟩ := pf x y _ _ (hx x List.mem_cons_self) (hy y List.mem_cons_self) e
    exact absurd (List.cons.inj b).1 c4
  | x :: z :: q, [y], s, t, hx, hy, e => by
    have e : (D x ++ 44 :: 32 :: jn ((z :: q).map D)) ++ c :: s = D y ++ c :: t := e
    rw [List.append_assoc] at e
    obtain ⟨a, b⟩ := pf x y _ _ (hx x List.mem_cons_self) (hy y List.mem_cons_self) e
    exact absurd (List.cons.inj b).1.symm c4
  | x :: z :: q, y :: z' :: q', s, t, hx, hy, e => by
    have e : (D x ++ 44 :: 32 :: jn ((z :: q).map D)) ++ c :: s = (D y ++ 44 :: 32 :: jn ((z' :: q').map D)) ++ c :: t := e
    rw [List.append_assoc, List.append_assoc] at e
    obtain ⟨a, b⟩ := pf x y _ _ (hx x List.mem_cons_self) (hy y List.mem_cons_self) e
    have b := (List.cons.inj (List.cons.inj b).2).2
    obtain ⟨a2, b2⟩ := pf_join pf hd hc c4 (z :: q) (z' :: q') s t (fun x h => hx x (List.mem_cons_of_mem _ h)) (fun x h => hy x (List.mem_cons_of_mem _ h)) b
    exact ⟨by rw [a, a2], b2⟩
/-- a text of letters, as it is shown -/
def dS (x : Str) : List Nat := (reprText x).cps.toList
theorem abc_rc : ∀ c ∈ abcS.cps.toList, Builtin.Str.reprChar 39 c = [c] ∧ c ≠ 39 := by decide +kernel
theorem fold_rc : ∀ (l acc : List Nat) (A : Array Nat), A.toList = acc → (∀ c ∈ l, c ∈ abcS.cps.toList) → (l.foldl (fun out c => out ++ (Builtin.Str.reprChar 39 c).toArray) A).toList = acc ++ l
  | [], acc, A, e, _ => by rw [List.append_nil]; exact e
  | c :: r, acc, A, e, h => by
    rw [List.foldl_cons, fold_rc r (acc ++ [c]) _ (by rw [Array.toList_append, e, (abc_rc c (h c List.mem_cons_self)).1]) fun d hd => h d (List.mem_cons_of_mem _ hd), List.append_assoc]
    rfl
theorem dS_eq {x : Str} (h : plain x = true) : dS x = 39 :: (x.cps.toList ++ [39]) := by
  have hp := plain_iff.mp h
  have q : reprQuote x = 39 := by
    unfold reprQuote
    have : x.cps.contains 39 = false := by
      rw [Array.contains_eq_mem]
      refine decide_eq_false fun z => ?_
      exact (abc_rc 39 (hp 39 (Array.mem_toList_iff.mpr z))).2 rfl
    rw [this]
    rfl
  unfold dS reprText
  rw [q]
  show ((x.cps.foldl (fun out c => out ++ (Builtin.Str.reprChar 39 c).toArray) #[39]).push 39).toList = _
  rw [Array.toList_push, ← Array.foldl_toList, fold_rc x.cps.toList [39] #[39] rfl hp]
  rfl
theorem cut39 : ∀ (l m s t : List Nat), (∀ c ∈ l, c ≠ 39) → (∀ c ∈ m, c ≠ 39) → l ++ 39 :: s = m ++ 39 :: t → l = m ∧ s = t
  | [], [], s, t, _, _, e => ⟨rfl, (List.cons.inj e).2⟩
  | [], c :: m, s, t, _, h, e => absurd (List.cons.inj e).1.symm (h c List.mem_cons_self)
  | c :: l, [], s, t, h, _, e => absurd (List.cons.inj e).1 (h c List.mem_cons_self)
  | c :: l, d :: m, s, t, h, h', e => by
    obtain ⟨a, b⟩ := List.cons.inj e
    obtain ⟨a2, b2⟩ := cut39 l m s t (fun c hc => h c (List.mem_cons_of_mem _ hc)) (fun c hc => h' c (List.mem_cons_of_mem _ hc)) b
    exact ⟨by rw [a, a2], b2⟩
theorem str_ext {x y : Str} (h : x.cps.toList = y.cps.toList) : x = y := by
  cases x; cases y
  congr 1
  exact Array.toList_inj.mp h
theorem pf_str : PF (fun x : Str => plain x = true) dS := fun x y s t hx hy e => by
  rw [dS_eq hx, dS_eq hy] at e
  have e : (x.cps.toList ++ [39]) ++ s = (y.cps.toList ++ [39]) ++ t := (List.cons.inj e).2
  rw [List.append_assoc, List.append_assoc] at e
  obtain ⟨a, b⟩ := cut39 _ _ s t (fun c hc => (abc_rc c (plain_iff.mp hx c hc)).2) (fun c hc => (abc_rc c (plain_iff.mp hy c hc)).2) e
  exact ⟨str_ext a, b⟩
theorem hd_str (x : Str) (h : plain x = true) : ∃ r, dS x = 39 :: r := ⟨_, dS_eq h⟩
/-- a rule of four pieces, as it is shown -/
def dJ (xs : List Str) : List Nat := 40 :: (jn (xs.map dS) ++ [41])
theorem pf_rule : PF (fun xs : List Str => ∀ x ∈ xs, plain x = true) dJ := fun xs ys s t hx hy e => by
  have e : (jn (xs.map dS) ++ [41]) ++ s = (jn (ys.map dS) ++ [41]) ++ t := (List.cons.inj e).2
  rw [List.append_assoc, List.append_assoc] at e
  exact pf_join (c := 41) (h := 39) pf_str hd_str (by decide) (by decide) xs ys s t hx hy e
theorem shown_strs : ∀ xs : List Str, PyData.shownAll (xs.map PyData.str) = xs.map reprText
  | [] => by rw [List.map_nil, PyData.shownAll]; rfl
  | x :: r => by rw [List.map_cons, PyData.shownAll, shown_strs r, PyData.shown]; rfl
theorem shown_rule {xs : List Str} (h : xs.length = 4) : (PyData.shown (.tuple (xs.map .str))).cps.toList = dJ xs := by
  rw [PyData.shown, shown_strs]
  unfold tupleText
  rw [List.length_map, h]
  show ((("(" : Str) ++ Str.join ", " (xs.map reprText)) ++ (")" : Str)).cps.toList = _
  rw [cps_app, cps_app, Array.toList_append, Array.toList_append, jn_join, List.map_map]
  rfl
theorem shown_w (ws : List Str) : (PyData.shown (wDat ws)).cps.toList = 91 :: (jn (ws.map dS) ++ [93]) := by
  unfold wDat
  rw [PyData.shown, shown_strs, listText_eq_join, cps_app, cps_app, Array.toList_append, Array.toList_append, jn_join, List.map_map]
  rfl
theorem shown_all : ∀ {js : List (List Str)}, (∀ j ∈ js, j.length = 4) → (PyData.shownAll (js.map fun j => .tuple (j.map .str))).map (fun t => t.cps.toList) = js.map dJ
  | [], _ => by rw [List.map_nil, PyData.shownAll]; rfl
  | j :: r, h => by
    rw [List.map_cons, PyData.shownAll, List.map_cons, shown_rule (h j List.mem_cons_self), shown_all fun i hi => h i (List.mem_cons_of_mem _ hi)]
    rfl
theorem shown_j {js : Js} (h : ∀ j ∈ js, Jn j.2) : (PyData.shown (jDat js)).cps.toList = 91 :: (jn ((js.map (·.2)).map dJ) ++ [93]) := by
  unfold jDat
  have e : (js.map fun j => PyData.tuple (j.2.map .str)) = (js.map (·.2)).map fun j => PyData.tuple (j.map .str) := by rw [List.map_map]; rfl
  rw [PyData.shown, listText_eq_join, cps_app, cps_app, Array.toList_append, Array.toList_append, jn_join, e, shown_all fun j hj => by
    obtain ⟨i, hi, rfl⟩ := List.mem_map.mp hj
    exact (h i hi).n4]
  rfl
theorem Jn.plains {xs : List Str} (h : Jn xs) : ∀ x ∈ xs, plain x = true := fun x hx => (h.wd x hx).pl
theorem plan_inj {n m : Nat} {ws vs : List Str} {js ks : Js} (rt : Rt n ws js) (rk : Rt m vs ks) (e : PyData.shown (.tuple [wDat ws, jDat js]) = PyData.shown (.tuple [wDat vs, jDat ks])) : ws = vs ∧ js.map (·.2) = ks.map (·.2) := by
  have big : ∀ (ws : List Str) (js : Js), (∀ j ∈ js, Jn j.2) → (PyData.shown (.tuple [wDat ws, jDat js])).cps.toList = 40 :: 91 :: (jn (ws.map dS) ++ 93 :: (44 :: 32 :: 91 :: (jn ((js.map (·.2)).map dJ) ++ 93 :: [41]))) := fun ws js h => by
    rw [PyData.shown, PyData.shownAll, PyData.shownAll, PyData.shownAll]
    show ((("(" : Str) ++ (PyData.shown (wDat ws) ++ ", " ++ PyData.shown (jDat js))) ++ (")" : Str)).cps.toList = _
    rw [cps_app, cps_app, cps_app, cps_app, Array.toList_append, Array.toList_append, Array.toList_append, Array.toList_append, shown_w, shown_j h]
    show 40 :: (91 :: (jn (ws.map dS) ++ [93]) ++ 44 :: 32 :: [] ++ 91 :: (jn ((js.map (·.2)).map dJ) ++ [93])) ++ [41] = _
    simp only [List.append_assoc, List.cons_append, List.nil_append]
  have e := congrArg (fun t : Str => t.cps.toList) e
  have e : (PyData.shown (.tuple [wDat ws, jDat js])).cps.toList = (PyData.shown (.tuple [wDat vs, jDat ks])).cps.toList := e
  rw [big ws js rt.jd, big vs ks rk.jd] at e
  have e := (List.cons.inj (List.cons.inj e).2).2
  obtain ⟨a, b⟩ := pf_join (c := 93) (h := 39) pf_str hd_str (by decide) (by decide) ws vs _ _ (fun x hx => (rt.wd x hx).1.pl) (fun x hx => (rk.wd x hx).1.pl) e
  have b := (List.cons.inj (List.cons.inj (List.cons.inj b).2).2).2
  have mem : ∀ {js : Js}, (∀ j ∈ js, Jn j.2) → ∀ x ∈ js.map (·.2), ∀ y ∈ x, plain y = true := fun {js} h x hx => by
    obtain ⟨i, hi, rfl⟩ := List.mem_map.mp hx
    exact (h i hi).plains
  exact ⟨a, (pf_join (c := 93) (h := 40) pf_rule (fun x _ => ⟨_, rfl⟩) (by decide) (by decide) _ _ _ _ (mem rt.jd) (mem rk.jd) b).1⟩
/-! ### whether two boxes hold the same -/
theorem eqv_strs : ∀ xs ys : List Str, PyData.eqvAll (xs.map PyData.str) (ys.map PyData.str) = decide (xs = ys)
  | [], [] => by simp only [List.map_nil, PyData.eqvAll]; rfl
  | [], y :: q => by simp only [List.map_nil, List.map_cons, PyData.eqvAll]; rfl
  | x :: r, [] => by simp only [List.map_nil, List.map_cons, PyData.eqvAll]; rfl
  | x :: r, y :: q => by
    rw [List.map_cons, List.map_cons, PyData.eqvAll, eqv_strs r q]
    simp only [PyData.eqv]
    by_cases h : x = y
    · subst h
      by_cases h2 : r = q
      · subst h2; simp
      · simp [h2]
    · have : (x == y) = false := beq_eq_false_iff_ne.mpr h
      rw [this, Bool.false_and]
      exact (decide_eq_false fun z => h (List.cons.inj z).1).symm
theorem eqv_w (ws vs : List Str) : PyData.eqv (wDat ws) (wDat vs) = decide (ws = vs) := by
  unfold wDat
  simp only [PyData.eqv]
  exact eqv_strs ws vs
theorem eqv_rules : ∀ xs ys : List (List Str), PyData.eqvAll (xs.map fun j => PyData.tuple (j.map .str)) (ys.map fun j => PyData.tuple (j.map .str)) = decide (xs = ys)
  | [], [] => by simp only [List.map_nil, PyData.eqvAll]; rfl
  | [], y :: q => by simp only [List.map_nil, List.map_cons, PyData.eqvAll]; rfl
  | x :: r, [] => by simp only [List.map_nil, List.map_cons, PyData.eqvAll]; rfl
  | x :: r, y :: q => by
    rw [List.map_cons, List.map_cons, PyData.eqvAll, eqv_rules r q]
    have : PyData.eqv (PyData.tuple (x.map .str)) (PyData.tuple (y.map .str)) = decide (x = y) := by
      simp only [PyData.eqv]
      exact eqv_strs x y
    rw [this]
    by_cases h : x = y
    · subst h
      by_cases h2 : r = q
      · subst h2; simp
      · simp [h2]
    · rw [decide_eq_false h, Bool.false_and]
      exact (decide_eq_false fun z => h (List.cons.inj z).1).symm
theorem eqv_j (js ks : Js) : PyData.eqv (jDat js) (jDat ks) = decide (js.map (·.2) = ks.map (·.2)) := by
  unfold jDat
  have e : ∀ js : Js, (js.map fun j => PyData.tuple (j.2.map .str)) = (js.map (·.2)).map fun j => PyData.tuple (j.map .str) := fun js => by rw [List.map_map]; rfl
  simp only [PyData.eqv]
  rw [e, e]
  exact eqv_rules _ _
theorem eqB_self (ws : List Str) (js : Js) : (decide (ws = ws) && decide (js.map (·.2) = js.map (·.2))) = true := by rw [decide_eq_true rfl, decide_eq_true rfl]; rfl
def eqB (ws vs : List Str) (js ks : Js) : Bool := decide (ws = vs) && decide (js.map (·.2) = ks.map (·.2))
theorem plan_eq {n m : Nat} {ws vs : List Str} {js ks : Js} (rt : Rt n ws js) (rk : Rt m vs ks) : decide (PyData.shown (.tuple [wDat ws, jDat js]) = PyData.shown (.tuple [wDat vs, jDat ks])) = eqB ws vs js ks := by
  unfold eqB
  by_cases h : PyData.shown (.tuple [wDat ws, jDat js]) = PyData.shown (.tuple [wDat vs, jDat ks])
  · obtain ⟨a, b⟩ := plan_inj rt rk h
    rw [decide_eq_true h, decide_eq_true a, decide_eq_true b]
    rfl
  · rw [decide_eq_false h]
    by_cases a : ws = vs
    · by_cases b : js.map (·.2) = ks.map (·.2)
      · refine absurd ?_ h
        subst a
        have : jDat js = jDat ks := by
          unfold jDat
          have e : ∀ js : Js, (js.map fun j => PyData.tuple (j.2.map .str)) = (js.map (·.2)).map fun j => PyData.tuple (j.map .str) := fun js => by rw [List.map_map]; rfl
          rw [e, e, b]
        rw [this]
      · rw [decide_eq_false b, Bool.and_false]
    · rw [decide_eq_false a, Bool.false_and]
theorem eqB_comm (ws vs : List Str) (js ks : Js) : eqB ws vs js ks = eqB vs ws ks js := by
  unfold eqB
  rw [decide_eq_decide.mpr (eq_comm (a := ws) (b := vs)), decide_eq_decide.mpr (eq_comm (a := js.map (·.2)) (b := ks.map (·.2)))]
theorem eqB_rfl (ws : List Str) (js : Js) : eqB ws ws js js = true := eqB_self ws js
end Sf

namespace Sf
open PySem PySem.Spec PyProof.Rows L2
/-- d.setdefault(k, x), the keys of d tuples -/
def rSetdT : V → List V → Hp → VK → Prop := fun x xs H Q => ∃ (a : Addr) (kvs : List (List L2.Key × V)) (k : List L2.Key) (b : Addr) (d : V), x = .ref a ∧ xs = [.ref b, d] ∧ H a = some (.dT kvs) ∧ H b = some (.tup (k.map kV)) ∧ kvs.length < sizeLine ∧
  (∀ v, valV kvs k = some v → Q v H) ∧ (valV kvs k = none → Q d (upd H a (.dT (putK kvs k d))))
theorem mt_setdT {X : Cx} (hu : X.A.units + 1 < cLine) : MtR X "dict.setdefault" rSetdT := by
  intro pins s σ H x xs v us Q I rx rxs h
  obtain ⟨a, kvs, k, b, d, rfl, rfl, ha, hb, lk, q1, q2⟩ := h
  cases rx
  obtain ⟨u1, u2, rfl, r1, r2⟩ := vals2 rxs
  cases r1
  obtain ⟨z, hd, xs', rel, dd⟩ := dt_of I.hok ha
  have hz : xs'.length ≤ sizeLine := by rw [← Paired.length rel]; exact z
  refine call_setdefault_heap (knd := tupleKind (mixKind X.prog X.w)) (hsz := hz) (tupleKind_room_in1 hu) (key_of I.hok hb) hd dd (fun p hp => ?_) fun hn h' dd' hs => ?_
  · have r := rel.val k
    rw [hp] at r
    obtain ⟨v0, ev, rv⟩ : ∃ v0, valV kvs k = some v0 ∧ RelV v0 p.2 := by
      cases ev : valV kvs k with
      | none =>
        rw [ev] at r
        exact (show False from r).elim
      | some v0 =>
        rw [ev] at r
        exact ⟨v0, rfl, r⟩
    exact ⟨v0, H, I.tok _, rv, q1 v0 ev⟩
  · have r := rel.val k
    rw [hn] at r
    have e : valV kvs k = none := by
      cases ev : valV kvs k with
      | none => rfl
      | some v0 =>
        rw [ev] at r
        exact (show False from r).elim
    have hl : (putK kvs k d).length ≤ sizeLine := by have := length_putK kvs k d; omega
    obtain ⟨q, es, ep, hq, h2, h3, h4, _, h5⟩ := dd'
    have I2 : Inv X pins σ (upd H a (.dT (putK kvs k d))) { s with heap := h', toks := s.toks + (tupleKind (mixKind X.prog X.w)).draws k } :=
      d_write I (by rw [ha]; exact True.intro) hs ⟨q, hq⟩ ⟨hl, hd, _, (rel.put k hb r2).keeps (fun c ys ec => (by rw [upd_ne (ne_of ec ha (fun z => nomatch z))]; exact ec)), q, es, ep, hq, h2, h3, h4, h5⟩
    exact ⟨d, _, I2, r2, q2 e⟩
end Sf

namespace Sf
open PySem PySem.Spec PyProof.Rows L2
/-! ### zip(x, y) of two texts -/
/-- the signs of two texts, side by side in new pairs -/
def ItzS (x y : Str) : It :=
  ⟨fun i _ => i < x.cps.size ∧ i < y.cps.size, fun i H v H' => ∃ T c d, v = .ref T ∧ H T = none ∧ H' = upd H T (.tup [.str ⟨#[c]⟩, .str ⟨#[d]⟩]) ∧ x.cps[i]? = some c ∧ y.cps[i]? = some d, fun i _ => x.cps.size ≤ i ∨ y.cps.size ≤ i⟩
/-- five cells in a row: both iterators, the pair of them, the pair handed out, the zip -/
def ZsAt (b : Addr) (x y : Str) (t u : Tok) (i : Nat) (h : Heap) : Prop :=
  IsZip h (b + 4) (b + 2) (b + 3) .none ∧ IsTupOf2 h (b + 2) (.ref b) (.ref (b + 1)) ∧ (∃ p q, IsTupOf2 h (b + 3) p q) ∧ h.IsStrIter b (strIterType x) x t i ∧ h.IsStrIter (b + 1) (strIterType y) y u i ∧ i ≤ x.cps.size ∧ i ≤ y.cps.size
theorem zs_sep (b : Addr) : ZipSep2 (b + 4) (b + 2) (b + 3) b (b + 1) [b] [b + 1] := by
  constructor <;> simp <;> omega
def five (b : Addr) : List Addr := [b + 4, b + 2, b + 3, b, b + 1]
theorem in_five {b c : Addr} (h : c ∈ five b) : c = b + 4 ∨ c = b + 2 ∨ c = b + 3 ∨ c = b ∨ c = b + 1 := by simpa [five] using h
theorem turn_zs {P : Program} {w : World} {K : PySem.W.Frag} {elts : List Expr} {kk : Nat} {tpos : Pos} (b : Addr) (x y : Str) (t u : Tok) :
    Turn P w K (.Tuple elts kk tpos) (ItzS x y) (five b) (b + 4) (ZsAt b x y t u) where
  mem := by simp [five]
  obj := fun i h st c hc => by
    obtain ⟨a1, a2, ⟨p, q, a3⟩, ⟨o4, e4, _, d4⟩, ⟨o5, e5, _, d5⟩, _⟩ := st
    rcases in_five hc with rfl | rfl | rfl | rfl | rfl
    · exact ⟨_, a1, fun v z => nomatch z⟩
    · exact ⟨_, a2, fun v z => nomatch z⟩
    · exact ⟨_, a3, fun v z => nomatch z⟩
    · exact ⟨o4, e4, fun v z => by rw [d4] at z; cases z⟩
    · exact ⟨o5, e5, fun v z => by rw [d5] at z; cases z⟩
  keep := fun i h h' st k => by
    obtain ⟨a1, a2, ⟨p, q, a3⟩, ⟨o4, e4, r4⟩, ⟨o5, e5, r5⟩, l⟩ := st
    have m : ∀ c, (c = b + 4 ∨ c = b + 2 ∨ c = b + 3 ∨ c = b ∨ c = b + 1) → c ∈ five b := fun c hc => by simpa [five] using hc
    exact ⟨k _ (m _ (by simp)) _ a1, k _ (m _ (by simp)) _ a2, ⟨p, q, k _ (m _ (by simp)) _ a3⟩, ⟨o4, k _ (m _ (by simp)) _ e4, r4⟩, ⟨o5, k _ (m _ (by simp)) _ e5, r5⟩, l⟩
  item := by
    intro X hP hw hK hc i pins s σ H E I hf st hg
    subst hP hw hK
    have bound : ∀ c ∈ five b, c < s.heap.objs.size := fun c hcm => by
      obtain ⟨a1, a2, ⟨p, q, a3⟩, ⟨o4, e4, _⟩, ⟨o5, e5, _⟩, _⟩ := st
      rcases in_five hcm with rfl | rfl | rfl | rfl | rfl
      · exact Heap.lt_size a1
      · exact Heap.lt_size a2
      · exact Heap.lt_size a3
      · exact Heap.lt_size e4
      · exact Heap.lt_size e5
    obtain ⟨a1, a2, ⟨p, q, a3⟩, s1, s2, l1, l2⟩ := st
    have hh : X.A.in1.handled = none := I.ok.hd hc
    have D1 := Draws.text (prog := X.prog) (w := X.w) hh b x t
    have D2 := Draws.text (prog := X.prog) (w := X.w) hh (b + 1) y u
    refine wpAny_pyNext_zipD2_item (zs_sep b) D1 D2 a1 a2 a3 s1 s2 hg.1 hg.2 fun v1 v2 h' tk y1 y2 z1 z2 z3 z4 z5 _ hk => ?_
    obtain ⟨c, u1, ec, rfl⟩ := y1
    obtain ⟨d, u2, ed, rfl⟩ := y2
    refine ⟨_, rfl, wpAny_letOwnedTupleGo_zip (s := { s with heap := h', toks := tk }) z1 fun h2 z2' sb => ?_⟩
    have off : s.heap.objs.size ∉ five b := fun z => Nat.lt_irrefl _ (bound _ z)
    have n4 : s.heap.objs.size ≠ b + 4 := fun z => off (by simp [five, z])
    have new : ObjOk X.prog X.w (upd H s.heap.objs.size (.tup [.str ⟨#[c]⟩, .str ⟨#[d]⟩])) h2 s.heap.objs.size (.tup [.str ⟨#[c]⟩, .str ⟨#[d]⟩]) :=
      ⟨by show 2 ≤ sizeLine; decide, [.str ⟨#[c]⟩ u1, .str ⟨#[d]⟩ u2], .cons ⟨u1, rfl⟩ (.cons ⟨u2, rfl⟩ .nil), _, (sb.2 _ n4).trans z5, rfl, _, rfl⟩
    have I1 : Inv X pins σ (upd H s.heap.objs.size (.tup [.str ⟨#[c]⟩, .str ⟨#[d]⟩])) { s with heap := h2, toks := tk } :=
      I.turnedNew (t' := tk) (ch := five b) (fun e o hb r => by
        have ne : e ≠ b + 4 ∧ e ≠ b + 2 ∧ e ≠ b + 3 ∧ e ≠ b ∧ e ≠ b + 1 := by simpa [five] using hb
        exact (sb.2 e ne.1).trans (hk e o ne.1 ne.2.2.1 ne.2.2.2.1 ne.2.2.2.2 r)) hf (Nat.le_refl _) new
    refine ⟨.ref s.heap.objs.size, _, I1, rfl, ⟨_, c, d, rfl, I.hok.fresh (Nat.le_refl _), rfl, ec, ed⟩, ⟨z2', ?_, ⟨_, _, (sb.2 _ (by simp)).trans z2⟩, ?_, ?_, hg.1, hg.2⟩, fun e hcm => ?_⟩
    · exact (sb.2 _ (by simp)).trans (hk _ _ (by simp) (by simp) (by simp) (by simp) a2)
    · exact z3.extBut sb.extBut (by simp)
    · exact z4.extBut sb.extBut (by simp)
    · rw [upd_ne (Nat.ne_of_lt (bound e hcm))]
      exact (hf e hcm).1
  done := by
    intro X hP hw hK hc i pins s σ H E I hf st hg
    subst hP hw hK
    obtain ⟨a1, a2, ⟨p, q, a3⟩, s1, s2, l1, l2⟩ := st
    have hh : X.A.in1.handled = none := I.ok.hd hc
    have D1 := Draws.text (prog := X.prog) (w := X.w) hh b x t
    have D2 := Draws.text (prog := X.prog) (w := X.w) hh (b + 1) y u
    have hg : x.cps.size ≤ i ∨ y.cps.size ≤ i := hg
    exact wpAny_pyNext_zipD2_end (zs_sep b) D1 D2 a1 a2 a3 s1 s2 l1 l2 (by omega) fun h' tk hk => ⟨rfl, I.turnedL (t' := tk) (ch := five b) (fun e o hb r => by
      have ne : e ≠ b + 4 ∧ e ≠ b + 2 ∧ e ≠ b + 3 ∧ e ≠ b ∧ e ≠ b + 1 := by simpa [five] using hb
      exact hk e o ne.1 ne.2.2.1 ne.2.2.2.1 ne.2.2.2.2 r) hf⟩
  self := fun A i s Q E st h => wpAny_pyIter_zip st.1 h
/-- two texts, or two lists -/
def iZipB (K : PySem.W.Frag) (ta : TA) : TI := fun σ H R => ta σ H fun vs H1 => (∃ x y, vs = [.str x, .str y] ∧ R (ItzS x y) H1) ∨ ∃ a b xs ys, vs = [.ref a, .ref b] ∧ SqL K H1 a xs ∧ SqL K H1 b ys ∧ R (Itz K a b) H1
theorem pi_zipB {K : PySem.W.Frag} {X : Cx} {e e2 : Expr} {ta : TA} {p pos tpos : Pos} {elts : List Expr} {kk : Nat} (hg : Gl X "zip") (hm : X.mg "zip" = none) (ha : PA X [e, e2] ta) (hK : X.K = K := by rfl)
    (hs : starEach [e, e2] X.env = (false, eval e X.env) :: starEach [e2] X.env := by rfl) (hpl : (backTo pos (starEach [e2] X.env)).any (·.1) = false := by rfl) :
    PI X (.Tuple elts kk tpos) (.Call (.Name "zip" p) [e, e2] [] pos) (iZipB K ta) := by
  subst hK
  constructor
  intro pins s σ H R I h
  apply Call_
  case he => rfl
  apply ld_blt I hg hm PyProof.Rows.boot_zip
  apply PyProof.Rows.callWith_type1 _ hs hpl
  apply thn (ha.run pos pins s σ H _ I h)
  rintro us s1 ⟨vs, H1, I1, r1, q1⟩
  have far : ∀ c ∈ five s1.heap.objs.size, s1.heap.objs.size ≤ c := fun c hcm => by
    rcases in_five hcm with rfl | rfl | rfl | rfl | rfl
    · exact Nat.le_add_right _ _
    · exact Nat.le_add_right _ _
    · exact Nat.le_add_right _ _
    · exact Nat.le_refl _
    · exact Nat.le_add_right _ _
  have ok : ∀ c ∈ five s1.heap.objs.size, FpOk X pins H1 c := fun c hcm => I1.fpOk (far c hcm) (I1.hok.fresh (far c hcm))
  rcases q1 with ⟨x, y, rfl, q⟩ | ⟨a, b, xs, ys, rfl, hx, hy, q⟩
  · obtain ⟨v1, v2, rfl, a1, a2⟩ := vals2 r1
    obtain ⟨t, rfl⟩ := a1
    obtain ⟨u, rfl⟩ := a2
    apply zip_begins2 (begins_text x t) (begins_text y u) True.intro True.intro
    intro h' z1 z2 z3 z4 z5 _ hk
    apply wpAny_pyIter_zip z1
    exact ⟨_, five s1.heap.objs.size, _, _, H1, rfl, I1.kept (t' := s1.toks) hk, turn_zs s1.heap.objs.size x y t u, ⟨z1, z2, ⟨_, _, z3⟩, ⟨_, z4, rfl, rfl⟩, ⟨_, z5, rfl, rfl⟩, Nat.zero_le _, Nat.zero_le _⟩, ok, q⟩
  · obtain ⟨v1, v2, rfl, a1, a2⟩ := vals2 r1
    cases (show v1 = Value.ref a from a1)
    cases (show v2 = Value.ref b from a2)
    obtain ⟨_, _, p1, _⟩ := I1.list hx
    obtain ⟨_, _, p2, _⟩ := I1.list hy
    have D := PySem.W.ktu_apart s1.heap.objs.size a b p1.lt p2.lt
    apply call_zip_2 p1.isList p2.isList
    intro h' z1 z2 z3 z4 z5 _ hk
    apply wpAny_pyIter_zip z1
    exact ⟨_, five s1.heap.objs.size, _, _, H1, rfl, I1.kept (t' := s1.toks) hk, turn_zip D, ⟨z1, z2, ⟨_, _, z3⟩, z4, z5⟩, ok, q⟩
theorem walk_zs {x y : Str} {n : Nat} (hn : n = min x.cps.size y.cps.size) : Walk (ItzS x y) n (fun _ => True) (ItzS x y).yld :=
  ⟨fun i _ hi _ => ⟨by omega, by omega⟩, fun _ _ => by show _ ≤ n ∨ _ ≤ n; omega, fun _ _ _ _ _ _ q => q⟩
/-! ### tables as they stand -/
def nats (ns : List Nat) : List V := ns.map fun (n : Nat) => V.int (n : Int)
/-- a row's list, and what it holds -/
abbrev Rows := List (Addr × List Nat)
def rrefs (rs : Rows) : List V := rs.map fun q => V.ref q.1
/-- the table at p: letters, rows, ends -/
structure Sh (K : PySem.W.Frag) (H : Hp) (p r g : Addr) (x : Str) (rs : Rows) (es : List Nat) : Prop where
  p : SqT K H p [.str x, .ref r, .ref g]
  r : H r = some (.lst (rrefs rs))
  g : H g = some (.lst (nats es))
  q : ∀ q ∈ rs, H q.1 = some (.lst (nats q.2))
theorem Sh.mono {K : PySem.W.Frag} {G H : Hp} {p r g : Addr} {x : Str} {rs : Rows} {es : List Nat} (h : Sh K G p r g x rs es) (s : Same G H) : Sh K H p r g x rs es := ⟨sameT s h.p, s _ _ h.r, s _ _ h.g, fun q hq => s _ _ (h.q q hq)⟩
/-- a right table -/
structure Tbl (x : Str) (rs : Rows) (es : List Nat) : Prop where
  wd : Wd 26 x
  asc : x.cps.toList.Pairwise (· < ·)
  n0 : 0 < rs.length
  n9 : rs.length ≤ 1000
  row : ∀ q ∈ rs, q.2.length = x.length ∧ ∀ n ∈ q.2, n < rs.length
  ea : es.Pairwise (· < ·)
  el : ∀ n ∈ es, n < rs.length
theorem asc_len : ∀ {l : List Nat} {m k : Nat}, l.Pairwise (· < ·) → (∀ n ∈ l, k ≤ n ∧ n < m) → l.length ≤ m - k
  | [], _, _, _, _ => Nat.zero_le _
  | n :: r, m, k, h, b => by
    obtain ⟨h1, h2⟩ := List.pairwise_cons.mp h
    obtain ⟨b1, b2⟩ := b n List.mem_cons_self
    have := asc_len (m := m) (k := n + 1) h2 fun j hj => ⟨h1 j hj, (b j (List.mem_cons_of_mem _ hj)).2⟩
    rw [List.length_cons]
    omega
theorem Tbl.e9 {x : Str} {rs : Rows} {es : List Nat} (h : Tbl x rs es) : es.length ≤ 1000 := by
  have := asc_len (m := rs.length) (k := 0) h.ea fun n hn => ⟨Nat.zero_le _, h.el n hn⟩
  have := h.n9
  omega
theorem hu1 {A : Around} (h : A.units + 64 < cLine) : A.units + 1 < cLine := by omega
/-- len of a list or a tuple within a comprehension: the part K by name -/
theorem call_len_seqK {K : PySem.W.Frag} {X : Cx} (hK : X.K = K := by rfl) : CallR X (.builtin "len") (fun xs H Q => ∃ p ys, xs = [.ref p] ∧ (SqL K H p ys ∨ SqT K H p ys) ∧ Q (.int (ys.length : Nat)) H) := by
  subst hK
  exact call_len_seq
theorem call_tuple_ofK {K : PySem.W.Frag} {X : Cx} (hK : X.K = K := by rfl) : CallR X (.type "tuple") (fun xs H Q => ∃ p ys, xs = [.ref p] ∧ ((SqL K H p ys ∧ ∀ l, H l = none → Q (.ref l) (upd H l (.tup ys))) ∨ (SqT K H p ys ∧ Q (.ref p) H))) := by
  subst hK
  exact call_tuple_of
end Sf

namespace Tb
/-! ### tables: states below n, w ways out of each, some of them ends -/
structure Tab where
  n : Nat
  w : Nat
  d : Nat → Nat → Nat
  e : Nat → Bool
/-- goes from states to states -/
structure Ok (A : Tab) : Prop where
  pos : 0 < A.n
  lt : ∀ s a, s < A.n → a < A.w → A.d s a < A.n
def run (A : Tab) (s : Nat) : List Nat → Nat
  | [] => s
  | a :: r => run A (A.d s a) r
/-- alike: the same texts lead to ends -/
def Eqv (A : Tab) (s : Nat) (B : Tab) (t : Nat) : Prop := ∀ x : List Nat, (∀ a ∈ x, a < A.w) → A.e (run A s x) = B.e (run B t x)
theorem Eqv.refl (A : Tab) (s : Nat) : Eqv A s A s := fun _ _ => rfl
theorem Eqv.symm {A B : Tab} {s t : Nat} (h : Eqv A s B t) (w : A.w = B.w) : Eqv B t A s := fun x hx => (h x (w ▸ hx)).symm
theorem Eqv.trans {A B C : Tab} {s t u : Nat} (h : Eqv A s B t) (k : Eqv B t C u) (w : A.w = B.w) : Eqv A s C u := fun x hx => (h x hx).trans (k x (w ▸ hx))
theorem Eqv.step {A B : Tab} {s t a : Nat} (h : Eqv A s B t) (ha : a < A.w) : Eqv A (A.d s a) B (B.d t a) := fun x hx => h (a :: x) fun b hb => by
  rcases List.mem_cons.mp hb with z | z
  · rw [z]; exact ha
  · exact hx b z
theorem Eqv.end {A B : Tab} {s t : Nat} (h : Eqv A s B t) : A.e s = B.e t := h [] nofun
/-- each state but the first is met from one ahead of it, at a place ahead of which only lesser ones are met -/
def Bfs (A : Tab) : Prop := ∀ s, 0 < s → s < A.n → ∃ q a, q < s ∧ a < A.w ∧ A.d q a = s ∧ ∀ q' a', a' < A.w → (q' < q ∨ (q' = q ∧ a' < a)) → A.d q' a' < s
/-- no two states are alike -/
def Red (A : Tab) : Prop := ∀ s t, s < A.n → t < A.n → Eqv A s A t → s = t
structure Least (A : Tab) : Prop extends Ok A where
  bfs : Bfs A
  red : Red A
theorem one_le {B C : Tab} (b : Least B) (c : Least C) (w : B.w = C.w) (h : Eqv B 0 C 0) : ∀ s, s < B.n → s < C.n ∧ Eqv B s C s := by
  intro s
  induction s using Nat.strongRecOn with
  | ind s ih =>
    intro hs
    by_cases z : s = 0
    · subst z
      exact ⟨c.pos, h⟩
    obtain ⟨q, a, hq, ha, hd, hm⟩ := b.bfs s (Nat.pos_of_ne_zero z) hs
    obtain ⟨qc, eq⟩ := ih q hq (Nat.lt_trans hq hs)
    have et : Eqv B s C (C.d q a) := by
      have := eq.step ha
      rw [hd] at this
      exact this
    have tc : C.d q a < C.n := c.lt q a qc (w ▸ ha)
    suffices e : C.d q a = s by rw [e] at et tc; exact ⟨tc, et⟩
    rcases Nat.lt_trichotomy (C.d q a) s with lt | e | gt
    · obtain ⟨_, e2⟩ := ih _ lt (Nat.lt_trans lt hs)
      exact (b.red s _ hs (Nat.lt_trans lt hs) (et.trans (e2.symm w) w)).symm
    · exact e
    · exfalso
      obtain ⟨q', a', hq', ha', hd', hm'⟩ := c.bfs s (Nat.pos_of_ne_zero z) (Nat.lt_trans gt tc)
      have step : ∀ r, r < s → B.d q' a' = r → False := fun r hr er => by
        obtain ⟨qc', eq'⟩ := ih q' hq' (Nat.lt_trans hq' hs)
        have e1 := eq'.step (w ▸ ha' : a' < B.w)
        rw [er, hd'] at e1
        obtain ⟨rc, e2⟩ := ih r hr (Nat.lt_trans hr hs)
        have := c.red r s rc (Nat.lt_trans gt tc) ((e2.symm w).trans e1 w.symm)
        omega
      by_cases before : q' < q ∨ (q' = q ∧ a' < a)
      · exact step _ (hm q' a' (w ▸ ha') before) rfl
      · by_cases same : q' = q ∧ a' = a
        · rw [same.1, same.2] at hd'
          omega
        · have := hm' q a (w ▸ ha) (by omega)
          omega
/-- there is one alone -/
theorem Least.one {B C : Tab} (b : Least B) (c : Least C) (w : B.w = C.w) (h : Eqv B 0 C 0) : B.n = C.n ∧ (∀ s, s < B.n → B.e s = C.e s) ∧ ∀ s a, s < B.n → a < B.w → B.d s a = C.d s a := by
  have f := one_le b c w h
  have g := one_le c b w.symm (h.symm w)
  have n : B.n = C.n := by
    rcases Nat.lt_trichotomy B.n C.n with lt | e | gt
    · have := (g B.n lt).1; omega
    · exact e
    · have := (f C.n gt).1; omega
  refine ⟨n, fun s hs => (f s hs).2.end, fun s a hs ha => ?_⟩
  have e1 := (f s hs).2.step ha
  have hu := b.lt s a hs ha
  have e2 := (f _ hu).2
  exact c.red _ _ (n ▸ hu) (c.lt s a (n ▸ hs) (w ▸ ha)) ((e2.symm w).trans e1 w.symm)
/-! ### parts of a table that is met in order -/
/-- the kinds tell which states are alike, and are numbered as they come -/
structure Kinds (A : Tab) (k : Nat → Nat) (m : Nat) : Prop where
  eqv : ∀ s t, s < A.n → t < A.n → (k s = k t ↔ Eqv A s A t)
  num : ∀ s v, s < A.n → v < k s → ∃ t, t < s ∧ k t = v
  lt : ∀ s, s < A.n → k s < m
  all : ∀ v, v < m → ∃ s, s < A.n ∧ k s = v
/-- the table of the kinds, by the first state of each -/
theorem quo {A B : Tab} {k f : Nat → Nat} (ok : Ok A) (bfs : Bfs A) (K : Kinds A k B.n) (w : B.w = A.w) (f1 : ∀ v, v < B.n → f v < A.n ∧ k (f v) = v) (f2 : ∀ v s, v < B.n → s < A.n → k s = v → f v ≤ s)
    (hd : ∀ v a, v < B.n → a < A.w → B.d v a = k (A.d (f v) a)) (he : ∀ v, v < B.n → B.e v = A.e (f v)) : Least B ∧ ∀ s, s < A.n → Eqv A s B (k s) := by
  have al : ∀ s, s < A.n → Eqv A s A (f (k s)) := fun s hs => by
    obtain ⟨a1, a2⟩ := f1 (k s) (K.lt s hs)
    exact (K.eqv s _ hs a1).mp a2.symm
  have go : ∀ s, s < A.n → ∀ a, a < A.w → B.d (k s) a = k (A.d s a) := fun s hs a ha => by
    have lt := K.lt s hs
    rw [hd _ a lt ha]
    exact ((K.eqv _ _ (ok.lt s a hs ha) (ok.lt _ a (f1 _ lt).1 ha)).mpr ((al s hs).step ha)).symm
  have same : ∀ x s, s < A.n → (∀ a ∈ x, a < A.w) → A.e (run A s x) = B.e (run B (k s) x) := by
    intro x
    induction x with
    | nil =>
      intro s hs _
      show A.e s = B.e (k s)
      rw [he _ (K.lt s hs)]
      exact (al s hs).end
    | cons a r ih =>
      intro s hs hx
      have ha := hx a List.mem_cons_self
      show A.e (run A (A.d s a) r) = B.e (run B (B.d (k s) a) r)
      rw [go s hs a ha]
      exact ih _ (ok.lt s a hs ha) fun b hb => hx b (List.mem_cons_of_mem _ hb)
  have eq : ∀ s, s < A.n → Eqv A s B (k s) := fun s hs x hx => same x s hs hx
  refine ⟨⟨⟨Nat.lt_of_le_of_lt (Nat.zero_le _) (K.lt 0 ok.pos), fun s a hs ha => ?_⟩, ?_, ?_⟩, eq⟩
  · rw [hd s a hs (w ▸ ha)]
    exact K.lt _ (ok.lt _ a (f1 s hs).1 (w ▸ ha))
  · intro v v0 hv
    obtain ⟨s0, sk⟩ := f1 v hv
    have s1 : 0 < f v := by
      rcases Nat.eq_zero_or_pos (f v) with z | z
      · obtain ⟨t, ht, _⟩ := K.num (f v) 0 s0 (by rw [sk]; exact v0)
        omega
      · exact z
    obtain ⟨q, a, hq, ha, hdq, hm⟩ := bfs (f v) s1 s0
    have qn := Nat.lt_trans hq s0
    -- what comes ahead of the first of kind v is of lesser kind
    have les : ∀ t, t < f v → k t < v := fun t ht => by
      have tn := Nat.lt_trans ht s0
      rcases Nat.lt_trichotomy (k t) v with z | z | z
      · exact z
      · have := f2 v t hv tn z
        omega
      · obtain ⟨u, hu, ku⟩ := K.num t v tn z
        have := f2 v u hv (Nat.lt_trans hu tn) ku
        omega
    have kq := les q hq
    refine ⟨k q, a, kq, w ▸ ha, by rw [go q qn a ha, hdq, sk], fun q' a' ha' before => ?_⟩
    have ha' : a' < A.w := w ▸ ha'
    have q'n : q' < B.n := by omega
    rw [hd q' a' q'n ha']
    refine les _ (hm (f q') a' ha' ?_)
    obtain ⟨g1, g2⟩ := f1 q' q'n
    rcases before with lt | ⟨e, lt⟩
    · left
      -- a lesser kind comes first ahead
      obtain ⟨t, ht, kt⟩ := K.num q q' qn lt
      exact Nat.lt_of_le_of_lt (f2 q' t q'n (Nat.lt_trans ht qn) kt) ht
    · have := f2 q' q q'n qn e.symm
      rcases Nat.lt_or_ge (f q') q with z | z
      · exact .inl z
      · exact .inr ⟨by omega, lt⟩
  · intro u v hu hv h
    obtain ⟨a1, a2⟩ := f1 u hu
    obtain ⟨b1, b2⟩ := f1 v hv
    have e1 := eq _ a1
    have e2 := eq _ b1
    rw [a2] at e1
    rw [b2] at e2
    have e := (K.eqv _ _ a1 b1).mpr ((e1.trans h w.symm).trans (e2.symm w.symm) w.symm)
    rw [a2, b2] at e
    exact e
/-! ### a table renumbered by the order in which its states are met -/
/-- the order in which the states are met from the first one -/
structure Order (A : Tab) (o : List Nat) : Prop where
  nd : o.Nodup
  lt : ∀ s ∈ o, s < A.n
  first : o[0]? = some 0
  met : ∀ i s, 0 < i → o[i]? = some s → ∃ p q a, p < i ∧ o[p]? = some q ∧ a < A.w ∧ A.d q a = s ∧ ∀ p' q' a', o[p']? = some q' → a' < A.w → (p' < p ∨ (p' = p ∧ a' < a)) → ∃ j, j < i ∧ o[j]? = some (A.d q' a')
  cl : ∀ s ∈ o, ∀ a, a < A.w → A.d s a ∈ o
theorem ren {A B : Tab} {o : List Nat} (ok : Ok A) (O : Order A o) (w : B.w = A.w) (n : B.n = o.length) (hd : ∀ i s a, o[i]? = some s → a < A.w → o[B.d i a]? = some (A.d s a)) (he : ∀ i s, o[i]? = some s → B.e i = A.e s) :
    Ok B ∧ Bfs B ∧ ∀ i s, o[i]? = some s → Eqv A s B i := by
  have lt : ∀ {i s}, o[i]? = some s → i < B.n := fun {i s} h => by
    rw [n]
    exact (List.getElem?_eq_some_iff.mp h).1
  have at_ : ∀ i, i < B.n → ∃ s, o[i]? = some s := fun i hi => ⟨o[i]'(n ▸ hi), List.getElem?_eq_getElem (n ▸ hi)⟩
  have inj : ∀ {i j s}, o[i]? = some s → o[j]? = some s → i = j := fun {i j s} h h' => by
    obtain ⟨hi, ei⟩ := List.getElem?_eq_some_iff.mp h
    obtain ⟨hj, ej⟩ := List.getElem?_eq_some_iff.mp h'
    have nd := List.pairwise_iff_getElem.mp O.nd
    rcases Nat.lt_trichotomy i j with z | z | z
    · exact absurd (ei.trans ej.symm) (nd i j hi hj z)
    · exact z
    · exact absurd (ej.trans ei.symm) (nd j i hj hi z)
  have same : ∀ x i s, o[i]? = some s → (∀ a ∈ x, a < A.w) → A.e (run A s x) = B.e (run B i x) := by
    intro x
    induction x with
    | nil => exact fun i s h _ => (he i s h).symm
    | cons a r ih => exact fun i s h hx => ih _ _ (hd i s a h (hx a List.mem_cons_self)) fun b hb => hx b (List.mem_cons_of_mem _ hb)
  refine ⟨⟨lt O.first, fun i a hi ha => ?_⟩, ?_, fun i s h x hx => same x i s h hx⟩
  · obtain ⟨s, h⟩ := at_ i hi
    exact lt (hd i s a h (w ▸ ha))
  · intro i i0 hi
    obtain ⟨s, h⟩ := at_ i hi
    obtain ⟨p, q, a, hp, hq, ha, e, m⟩ := O.met i s i0 h
    have e1 := hd p q a hq ha
    rw [e] at e1
    refine ⟨p, a, hp, w ▸ ha, inj e1 h, fun p' a' ha' before => ?_⟩
    have p'n : p' < B.n := by omega
    obtain ⟨q', h'⟩ := at_ p' p'n
    obtain ⟨j, hj, ej⟩ := m p' q' a' h' (w ▸ ha') before
    have e2 := hd p' q' a' h' (w ▸ ha')
    rw [inj e2 ej]
    exact hj
/-! ### finer and finer kinds -/
/-- alike states are of one kind, those of one kind are ends or none -/
structure Inv (A : Tab) (S : Nat → Prop) (k : Nat → Nat) : Prop where
  eqv : ∀ s t, S s → S t → Eqv A s A t → k s = k t
  e : ∀ s t, S s → S t → k s = k t → A.e s = A.e t
/-- one step finer -/
def Finer (A : Tab) (S : Nat → Prop) (k k' : Nat → Nat) : Prop := ∀ s t, S s → S t → (k' s = k' t ↔ k s = k t ∧ ∀ a, a < A.w → k (A.d s a) = k (A.d t a))
theorem Inv.step {A : Tab} {S : Nat → Prop} {k k' : Nat → Nat} (i : Inv A S k) (f : Finer A S k k') (cl : ∀ s a, S s → a < A.w → S (A.d s a)) : Inv A S k' where
  eqv := fun s t hs ht h => (f s t hs ht).mpr ⟨i.eqv s t hs ht h, fun a ha => i.eqv _ _ (cl s a hs ha) (cl t a ht ha) (h.step ha)⟩
  e := fun s t hs ht h => i.e s t hs ht ((f s t hs ht).mp h).1
theorem stable {A : Tab} {S : Nat → Prop} {k k' : Nat → Nat} (i : Inv A S k) (f : Finer A S k k') (cl : ∀ s a, S s → a < A.w → S (A.d s a)) (st : ∀ s t, S s → S t → k s = k t → k' s = k' t) : ∀ s t, S s → S t → (k' s = k' t ↔ Eqv A s A t) := by
  have go : ∀ x s t, S s → S t → k' s = k' t → (∀ a ∈ x, a < A.w) → A.e (run A s x) = A.e (run A t x) := by
    intro x
    induction x with
    | nil => exact fun s t hs ht h _ => i.e s t hs ht ((f s t hs ht).mp h).1
    | cons a r ih =>
      intro s t hs ht h hx
      have ha := hx a List.mem_cons_self
      exact ih _ _ (cl s a hs ha) (cl t a ht ha) (st _ _ (cl s a hs ha) (cl t a ht ha) (((f s t hs ht).mp h).2 a ha)) fun b hb => hx b (List.mem_cons_of_mem _ hb)
  exact fun s t hs ht => ⟨fun h x hx => go x s t hs ht h hx, (i.step f cl).eqv s t hs ht⟩
theorem cover : ∀ (m : Nat) (l : List Nat), (∀ v, v < m → v ∈ l) → m ≤ l.length
  | 0, _, _ => Nat.zero_le _
  | m + 1, l, h => by
    have hm := h m (Nat.lt_succ_self m)
    have := cover m (l.erase m) fun v hv => (List.mem_erase_of_ne (by omega)).mpr (h v (Nat.lt_succ_of_lt hv))
    rw [List.length_erase_of_mem hm] at this
    have := List.length_pos_of_mem hm
    omega
/-- onto as many is one to one -/
theorem onto_inj {m : Nat} {f : Nat → Nat} (h : ∀ v, v < m → ∃ i, i < m ∧ f i = v) {i j : Nat} (hi : i < m) (hj : j < m) (e : f i = f j) : i = j := by
  rcases Nat.lt_trichotomy i j with lt | z | gt
  · exfalso
    have := cover m (((List.range m).erase j).map f) fun v hv => by
      obtain ⟨u, hu, eu⟩ := h v hv
      by_cases z : u = j
      · refine List.mem_map.mpr ⟨i, (List.mem_erase_of_ne (by omega)).mpr (List.mem_range.mpr hi), ?_⟩
        rw [e, ← z, eu]
      · exact List.mem_map.mpr ⟨u, (List.mem_erase_of_ne z).mpr (List.mem_range.mpr hu), eu⟩
    rw [List.length_map, List.length_erase_of_mem (List.mem_range.mpr hj), List.length_range] at this
    omega
  · exact z
  · exfalso
    have := cover m (((List.range m).erase i).map f) fun v hv => by
      obtain ⟨u, hu, eu⟩ := h v hv
      by_cases z : u = i
      · refine List.mem_map.mpr ⟨j, (List.mem_erase_of_ne (by omega)).mpr (List.mem_range.mpr hj), ?_⟩
        rw [← e, ← z, eu]
      · exact List.mem_map.mpr ⟨u, (List.mem_erase_of_ne z).mpr (List.mem_range.mpr hu), eu⟩
    rw [List.length_map, List.length_erase_of_mem (List.mem_range.mpr hi), List.length_range] at this
    omega
/-- as many kinds as before are the same kinds -/
theorem same_many {S : Nat → Prop} {k k' : Nat → Nat} {m : Nat} (a : ∀ s, S s → k s < m) (b : ∀ v, v < m → ∃ s, S s ∧ k s = v) (a' : ∀ s, S s → k' s < m) (b' : ∀ v, v < m → ∃ s, S s ∧ k' s = v) (r : ∀ s t, S s → S t → k' s = k' t → k s = k t) : ∀ s t, S s → S t → k s = k t → k' s = k' t := by
  -- the coarser kind of a finer one
  have ch : ∀ v, ∃ u, v < m → ∃ s, S s ∧ k' s = v ∧ k s = u := fun v => by
    by_cases hv : v < m
    · obtain ⟨s, hs, e⟩ := b' v hv
      exact ⟨k s, fun _ => ⟨s, hs, e, rfl⟩⟩
    · exact ⟨0, fun h => absurd h hv⟩
  let f := fun v => Classical.choose (ch v)
  have hf : ∀ s, S s → f (k' s) = k s := fun s hs => by
    obtain ⟨t, ht, e, e2⟩ := Classical.choose_spec (ch (k' s)) (a' s hs)
    exact e2.symm.trans (r t s ht hs e)
  intro s t hs ht e
  refine onto_inj (m := m) (f := f) (fun v hv => ?_) (a' s hs) (a' t ht) (by rw [hf s hs, hf t ht, e])
  obtain ⟨u, hu, eu⟩ := b v hv
  exact ⟨k' u, a' u hu, by rw [hf u hu, eu]⟩
/-! ### meeting the states in order -/
/-- what has been met when the row of the state at place t is walked as far as a -/
structure Part (A : Tab) (o : List Nat) (t a : Nat) : Prop where
  nd : o.Nodup
  lt : ∀ s ∈ o, s < A.n
  first : o[0]? = some 0
  met : ∀ i s, 0 < i → o[i]? = some s → ∃ p q b, p < i ∧ o[p]? = some q ∧ b < A.w ∧ A.d q b = s ∧ ∀ p' q' b', o[p']? = some q' → b' < A.w → (p' < p ∨ (p' = p ∧ b' < b)) → ∃ j, j < i ∧ o[j]? = some (A.d q' b')
  done : ∀ p q b, o[p]? = some q → b < A.w → (p < t ∨ (p = t ∧ b < a)) → A.d q b ∈ o
theorem Part.start {A : Tab} (h : 0 < A.n) : Part A [0] 0 0 where
  nd := List.nodup_cons.mpr ⟨nofun, List.nodup_nil⟩
  lt := fun s hs => by rw [List.mem_singleton.mp hs]; exact h
  first := rfl
  met := fun i s hi e => by
    have := (List.getElem?_eq_some_iff.mp e).1
    have : i < 1 := this
    omega
  done := fun p q b _ _ h => by omega
theorem Part.old {A : Tab} {o : List Nat} {t a q : Nat} (h : Part A o t a) (hq : o[t]? = some q) (m : A.d q a ∈ o) : Part A o t (a + 1) where
  nd := h.nd
  lt := h.lt
  first := h.first
  met := h.met
  done := fun p q' b e hb c => by
    by_cases z : p = t ∧ b = a
    · rw [z.1, hq] at e
      cases e
      rw [z.2]; exact m
    · exact h.done p q' b e hb (by omega)
theorem Part.new {A : Tab} {o : List Nat} {t a q : Nat} (h : Part A o t a) (hq : o[t]? = some q) (ha : a < A.w) (hs : A.d q a < A.n) (m : A.d q a ∉ o) : Part A (o ++ [A.d q a]) t (a + 1) := by
  have tl := (List.getElem?_eq_some_iff.mp hq).1
  have old : ∀ {i s : Nat}, o[i]? = some s → (o ++ [A.d q a])[i]? = some s := fun {i s} e => by
    rw [List.getElem?_append_left (List.getElem?_eq_some_iff.mp e).1]
    exact e
  have back : ∀ {i s : Nat}, (o ++ [A.d q a])[i]? = some s → i < o.length → o[i]? = some s := fun {i s} e l => by
    rw [List.getElem?_append_left l] at e
    exact e
  refine ⟨?_, fun s hs' => ?_, old h.first, fun i s hi e => ?_, fun p q' b e hb c => ?_⟩
  · refine List.nodup_append.mpr ⟨h.nd, List.nodup_cons.mpr ⟨nofun, List.nodup_nil⟩, fun x hx y hy e => ?_⟩
    rw [List.mem_singleton.mp hy] at e
    exact m (e ▸ hx)
  · rcases List.mem_append.mp hs' with z | z
    · exact h.lt s z
    · rw [List.mem_singleton.mp z]; exact hs
  · by_cases l : i < o.length
    · obtain ⟨p, q', b, hp, e1, hb, e2, w⟩ := h.met i s hi (back e l)
      refine ⟨p, q', b, hp, old e1, hb, e2, fun p' q2 b' e3 hb' c => ?_⟩
      obtain ⟨j, hj, e4⟩ := w p' q2 b' (back e3 (by omega)) hb' c
      exact ⟨j, hj, old e4⟩
    · have il : i = o.length := by
        have := (List.getElem?_eq_some_iff.mp e).1
        rw [List.length_append] at this
        have : i < o.length + 1 := this
        omega
      subst il
      have es : A.d q a = s := by
        rw [List.getElem?_append_right (Nat.le_refl _), Nat.sub_self] at e
        exact Option.some.inj e
      refine ⟨t, q, a, tl, old hq, ha, es, fun p' q2 b' e3 hb' c => ?_⟩
      have mem := h.done p' q2 b' (back e3 (by omega)) hb' c
      obtain ⟨j, hj, ej⟩ := List.getElem_of_mem mem
      exact ⟨j, hj, old (by rw [List.getElem?_eq_getElem hj, ej])⟩
  · have pl : p < o.length := by omega
    by_cases z : p = t ∧ b = a
    · have e := back e pl
      rw [z.1, hq] at e
      cases e
      rw [z.2]; exact List.mem_append_right _ (List.mem_singleton.mpr rfl)
    · exact List.mem_append_left _ (h.done p q' b (back e pl) hb (by omega))
theorem Part.next {A : Tab} {o : List Nat} {t : Nat} (h : Part A o t A.w) : Part A o (t + 1) 0 where
  nd := h.nd
  lt := h.lt
  first := h.first
  met := h.met
  done := fun p q b e hb c => h.done p q b e hb (by omega)
theorem Part.order {A : Tab} {o : List Nat} {t a : Nat} (h : Part A o t a) (ht : o.length ≤ t) : Order A o where
  nd := h.nd
  lt := h.lt
  first := h.first
  met := h.met
  cl := fun s hs a ha => by
    obtain ⟨p, hp, e⟩ := List.getElem_of_mem hs
    exact h.done p s a (by rw [List.getElem?_eq_getElem hp, e]) ha (by omega)
/-- not more than there are -/
theorem few {o : List Nat} {n : Nat} (nd : o.Nodup) (lt : ∀ s ∈ o, s < n) : o.length ≤ n := by
  have := List.Nodup.length_le_of_subset nd (l₂ := List.range n) fun s hs => List.mem_range.mpr (lt s hs)
  rw [List.length_range] at this
  exact this
/-! ### numbers by first coming -/
/-- the unlike marks S of a list o, as they come; g tells the mark -/
structure Signs {κ : Type} [DecidableEq κ] (o : List Nat) (g : Nat → κ) (S : List κ) : Prop where
  nd : S.Nodup
  mem : ∀ s ∈ o, g s ∈ S
  of : ∀ k ∈ S, ∃ s ∈ o, g s = k
  num : ∀ (i s v : Nat), o[i]? = some s → v < S.idxOf (g s) → ∃ j t : Nat, j < i ∧ o[j]? = some t ∧ S.idxOf (g t) = v
section
variable {κ : Type} [DecidableEq κ] {o : List Nat} {g : Nat → κ} {S : List κ}
theorem Signs.nil : Signs (κ := κ) [] g [] := ⟨List.nodup_nil, nofun, nofun, fun i s v e => by cases e⟩
theorem Signs.old {s : Nat} (h : Signs o g S) (m : g s ∈ S) : Signs (o ++ [s]) g S where
  nd := h.nd
  mem := fun t ht => by
    rcases List.mem_append.mp ht with z | z
    · exact h.mem t z
    · rw [List.mem_singleton.mp z]; exact m
  of := fun k hk => let ⟨t, ht, e⟩ := h.of k hk; ⟨t, List.mem_append_left _ ht, e⟩
  num := fun i t v e lt => by
    by_cases l : i < o.length
    · rw [List.getElem?_append_left l] at e
      obtain ⟨j, u, hj, eu, ev⟩ := h.num i t v e lt
      exact ⟨j, u, hj, by rw [List.getElem?_append_left (by omega)]; exact eu, ev⟩
    · have il : i = o.length := by
        have := (List.getElem?_eq_some_iff.mp e).1
        rw [List.length_append] at this
        have : i < o.length + 1 := this
        omega
      subst il
      rw [List.getElem?_append_right (Nat.le_refl _), Nat.sub_self] at e
      have e : s = t := Option.some.inj e
      subst e
      have lS : S.idxOf (g s) < S.length := List.idxOf_lt_length_iff.mpr m
      have hv : v < S.length := by omega
      obtain ⟨u, hu, eu⟩ := h.of S[v] (List.getElem_mem hv)
      obtain ⟨j, hj, ej⟩ := List.getElem_of_mem hu
      refine ⟨j, u, hj, by rw [List.getElem?_append_left hj, List.getElem?_eq_getElem hj, ej], ?_⟩
      rw [eu]
      exact h.nd.idxOf_getElem v hv
theorem Signs.new {s : Nat} (h : Signs o g S) (m : g s ∉ S) : Signs (o ++ [s]) g (S ++ [g s]) where
  nd := List.nodup_append.mpr ⟨h.nd, List.nodup_cons.mpr ⟨nofun, List.nodup_nil⟩, fun x hx y hy e => by
    rw [List.mem_singleton.mp hy] at e
    exact m (e ▸ hx)⟩
  mem := fun t ht => by
    rcases List.mem_append.mp ht with z | z
    · exact List.mem_append_left _ (h.mem t z)
    · rw [List.mem_singleton.mp z]; exact List.mem_append_right _ (List.mem_singleton.mpr rfl)
  of := fun k hk => by
    rcases List.mem_append.mp hk with z | z
    · obtain ⟨t, ht, e⟩ := h.of k z
      exact ⟨t, List.mem_append_left _ ht, e⟩
    · exact ⟨s, List.mem_append_right _ (List.mem_singleton.mpr rfl), (List.mem_singleton.mp z).symm⟩
  num := fun i t v e lt => by
    have keep : ∀ u, g u ∈ S → (S ++ [g s]).idxOf (g u) = S.idxOf (g u) := fun u hu => by rw [List.idxOf_append, if_pos hu]
    by_cases l : i < o.length
    · rw [List.getElem?_append_left l] at e
      rw [keep t (h.mem t (List.mem_of_getElem? e))] at lt
      obtain ⟨j, u, hj, eu, ev⟩ := h.num i t v e lt
      exact ⟨j, u, hj, by rw [List.getElem?_append_left (by omega)]; exact eu, by rw [keep u (h.mem u (List.mem_of_getElem? eu))]; exact ev⟩
    · have il : i = o.length := by
        have := (List.getElem?_eq_some_iff.mp e).1
        rw [List.length_append] at this
        have : i < o.length + 1 := this
        omega
      subst il
      rw [List.getElem?_append_right (Nat.le_refl _), Nat.sub_self] at e
      have e : s = t := Option.some.inj e
      subst e
      have es : (S ++ [g s]).idxOf (g s) = S.length := by
        rw [List.idxOf_append, if_neg m]
        simp
      rw [es] at lt
      obtain ⟨u, hu, eu⟩ := h.of S[v] (List.getElem_mem lt)
      obtain ⟨j, hj, ej⟩ := List.getElem_of_mem hu
      refine ⟨j, u, hj, by rw [List.getElem?_append_left hj, List.getElem?_eq_getElem hj, ej], ?_⟩
      rw [keep u (by rw [eu]; exact List.getElem_mem lt), eu]
      exact h.nd.idxOf_getElem v lt
theorem Signs.inj {s t : Nat} (h : Signs o g S) (hs : s ∈ o) (e : S.idxOf (g s) = S.idxOf (g t)) (ht : t ∈ o) : g s = g t := by
  have a := List.getElem_idxOf (List.idxOf_lt_length_iff.mpr (h.mem s hs))
  have b := List.getElem_idxOf (List.idxOf_lt_length_iff.mpr (h.mem t ht))
  rw [← a, ← b]
  congr 1
end
def ix {κ : Type} [DecidableEq κ] (S : List κ) (k : κ) : Nat := S.idxOf k
theorem ix_self {κ : Type} [DecidableEq κ] (y : κ) (r : List κ) : ix (y :: r) y = 0 := List.idxOf_cons_self
theorem ix_ne {κ : Type} [DecidableEq κ] {x y : κ} (r : List κ) (e : ¬ y = x) : ix (y :: r) x = ix r x + 1 := by
  unfold ix
  rw [List.idxOf_cons]
  have : (y == x) = false := beq_eq_false_iff_ne.mpr e
  rw [this]
  rfl
theorem ix_app {κ : Type} [DecidableEq κ] {S : List κ} (m : List κ) {k : κ} (h : k ∈ S) : ix (S ++ m) k = ix S k := by
  unfold ix
  rw [List.idxOf_append, if_pos h]
theorem ix_end {κ : Type} [DecidableEq κ] {S : List κ} {k : κ} (h : k ∉ S) : ix (S ++ [k]) k = S.length := by
  unfold ix
  rw [List.idxOf_append, if_neg h]
  simp
theorem ix_lt {κ : Type} [DecidableEq κ] {S : List κ} {k : κ} (h : k ∈ S) : ix S k < S.length := List.idxOf_lt_length_iff.mpr h
theorem Signs.onto {κ : Type} [DecidableEq κ] {o : List Nat} {g : Nat → κ} {S : List κ} (h : Signs o g S) {v : Nat} (hv : v < S.length) : ∃ s ∈ o, ix S (g s) = v := by
  obtain ⟨s, hs, e⟩ := h.of S[v] (List.getElem_mem hv)
  exact ⟨s, hs, by rw [e]; exact h.nd.idxOf_getElem v hv⟩
/-- the finer ones are no fewer -/
theorem le_many {S : Nat → Prop} {k k' : Nat → Nat} {m m' : Nat} (b : ∀ v, v < m → ∃ s, S s ∧ k s = v) (a' : ∀ s, S s → k' s < m') (r : ∀ s t, S s → S t → k' s = k' t → k s = k t) : m ≤ m' := by
  have ch : ∀ u, ∃ w, ∀ s, S s → k' s = u → k s = w := fun u => by
    by_cases h : ∃ s, S s ∧ k' s = u
    · obtain ⟨s, hs, e⟩ := h
      exact ⟨k s, fun t ht e' => (r s t hs ht (e.trans e'.symm)).symm⟩
    · exact ⟨0, fun t ht e' => absurd ⟨t, ht, e'⟩ h⟩
  have := cover m ((List.range m').map fun u => Classical.choose (ch u)) fun v hv => by
    obtain ⟨s, hs, e⟩ := b v hv
    exact List.mem_map.mpr ⟨k' s, List.mem_range.mpr (a' s hs), ((Classical.choose_spec (ch (k' s)) s hs rfl).symm.trans e)⟩
  rw [List.length_map, List.length_range] at this
  exact this
end Tb

namespace Sf
open PySem PySem.Spec PyProof.Rows L2
/-- a table as a machine -/
def tabOf (x : Str) (rs : Rows) (es : List Nat) : Tb.Tab := ⟨rs.length, x.length, fun s a => (((rs[s]?).map (·.2)).getD []).getD a 0, fun s => decide (s ∈ es)⟩
theorem tab_d {x : Str} {rs : Rows} {es : List Nat} {s a n : Nat} {q : Addr × List Nat} (h : rs[s]? = some q) (e : q.2[a]? = some n) : (tabOf x rs es).d s a = n := by
  show (((rs[s]?).map (·.2)).getD []).getD a 0 = n
  rw [h]
  show q.2.getD a 0 = n
  rw [List.getD_eq_getElem?_getD, e]
  rfl
theorem Tbl.ok {x : Str} {rs : Rows} {es : List Nat} (h : Tbl x rs es) : Tb.Ok (tabOf x rs es) := ⟨h.n0, fun s a hs ha => by
  have hs : s < rs.length := hs
  have ha : a < x.length := ha
  have e := List.getElem?_eq_getElem hs
  obtain ⟨l, b⟩ := h.row rs[s] (List.getElem_mem hs)
  have ha2 : a < rs[s].2.length := by omega
  rw [tab_d e (List.getElem?_eq_getElem ha2)]
  exact b _ (List.getElem_mem ha2)⟩
/-- a set of numbers, as a dict of truths -/
def setD (ns : List Nat) : List (L2.Key × V) := ns.map fun (n : Nat) => (.inl (n : Int), V.bl true)
theorem setD_val (ns : List Nat) (n : Nat) : (valV (setD ns) (.inl (n : Int))).isSome = decide (n ∈ ns) := by
  induction ns with
  | nil => rfl
  | cons m r ih =>
    show (valV ((.inl (m : Int), V.bl true) :: setD r) (.inl (n : Int))).isSome = _
    by_cases e : m = n
    · subst e
      rw [valV_pos rfl]
      simp
    · rw [valV_neg (by intro z; exact e (Int.ofNat.inj (Sum.inl.inj z))), ih]
      simp [Ne.symm e]
theorem setD_put {ns : List Nat} {n : Nat} (h : n ∉ ns) : putK (setD ns) (.inl (n : Int)) (V.bl true) = setD (ns ++ [n]) := by
  unfold putK
  have e : ((setD ns).any fun kv => decide (kv.1 = .inl (n : Int))) = false := by
    rw [List.any_eq_false]
    intro kv hkv
    unfold setD at hkv
    obtain ⟨m, hm, rfl⟩ := List.mem_map.mp hkv
    intro z
    have z := of_decide_eq_true z
    exact h (by rw [← Int.ofNat.inj (Sum.inl.inj z)]; exact hm)
  rw [e, if_neg (by decide)]
  unfold setD
  rw [List.map_append]
  rfl
/-- marks with their numbers, as a dict -/
def sD (S : List (List L2.Key)) (k : Nat) : List (List L2.Key × V) := match S with
  | [] => []
  | x :: r => (x, V.int (k : Int)) :: sD r (k + 1)
theorem sD_len : ∀ (S : List (List L2.Key)) (k : Nat), (sD S k).length = S.length
  | [], _ => rfl
  | _ :: r, k => by show (sD r (k + 1)).length + 1 = r.length + 1; rw [sD_len r]
theorem sD_some : ∀ {S : List (List L2.Key)} {x : List L2.Key} (k : Nat), x ∈ S → valV (sD S k) x = some (.int ((k + Tb.ix S x : Nat) : Int))
  | y :: r, x, k, h => by
    by_cases e : y = x
    · subst e
      show valV ((y, V.int (k : Int)) :: sD r (k + 1)) y = _
      rw [valV_pos rfl, Tb.ix_self]
      rfl
    · have m : x ∈ r := by
        rcases List.mem_cons.mp h with z | z
        · exact absurd z.symm e
        · exact z
      show valV ((y, V.int (k : Int)) :: sD r (k + 1)) x = _
      rw [valV_neg e, sD_some (k + 1) m, Tb.ix_ne r e]
      congr 2
      omega
theorem sD_none : ∀ {S : List (List L2.Key)} {x : List L2.Key} (k : Nat), x ∉ S → valV (sD S k) x = none
  | [], _, _, _ => rfl
  | y :: r, x, k, h => by
    have ne : ¬ y = x := fun e => h (by rw [e]; exact List.mem_cons_self)
    show valV ((y, V.int (k : Int)) :: sD r (k + 1)) x = _
    rw [valV_neg ne, sD_none (k + 1) fun z => h (List.mem_cons_of_mem _ z)]
theorem sD_app : ∀ (S : List (List L2.Key)) (x : List L2.Key) (k : Nat), sD (S ++ [x]) k = sD S k ++ [(x, V.int ((k + S.length : Nat) : Int))]
  | [], x, k => rfl
  | y :: r, x, k => by
    show (y, V.int (k : Int)) :: sD (r ++ [x]) (k + 1) = (y, V.int (k : Int)) :: (sD r (k + 1) ++ _)
    rw [sD_app r x (k + 1)]
    have : k + 1 + r.length = k + (y :: r).length := by rw [List.length_cons]; omega
    rw [this]
theorem put_none {κ : Type} [DecidableEq κ] {kvs : List (κ × V)} {x : κ} (y : V) (h : valV kvs x = none) : putK kvs x y = kvs ++ [(x, y)] := by
  unfold putK
  have e : (kvs.any fun kv => decide (kv.1 = x)) = false := by rw [valV_any, h]; rfl
  rw [e, if_neg (by decide)]
theorem sD_put {S : List (List L2.Key)} {x : List L2.Key} (h : x ∉ S) : putK (sD S 0) x (.int (S.length : Int)) = sD (S ++ [x]) 0 := by
  rw [put_none _ (sD_none 0 h), sD_app, Nat.zero_add]
/-- numbers of states, as a dict -/
def kD (o : List Nat) (k : Nat → Nat) : List (L2.Key × V) := o.map fun (s : Nat) => (.inl (s : Int), V.int (k s : Int))
theorem kD_none {o : List Nat} {k : Nat → Nat} {s : Nat} (h : s ∉ o) : valV (kD o k) (.inl (s : Int)) = none := by
  induction o with
  | nil => rfl
  | cons m r ih =>
    have ne : ¬ (Sum.inl (m : Int) : L2.Key) = .inl (s : Int) := fun z => h (by rw [Int.ofNat.inj (Sum.inl.inj z)]; exact List.mem_cons_self)
    show valV ((.inl (m : Int), V.int (k m : Int)) :: kD r k) (.inl (s : Int)) = none
    rw [valV_neg ne]
    exact ih fun z => h (List.mem_cons_of_mem _ z)
theorem kD_some {o : List Nat} {k : Nat → Nat} {s : Nat} (h : s ∈ o) : valV (kD o k) (.inl (s : Int)) = some (.int (k s : Int)) := by
  induction o with
  | nil => cases h
  | cons m r ih =>
    show valV ((.inl (m : Int), V.int (k m : Int)) :: kD r k) (.inl (s : Int)) = _
    by_cases e : m = s
    · subst e
      exact valV_pos rfl
    · have ne : ¬ (Sum.inl (m : Int) : L2.Key) = .inl (s : Int) := fun z => e (Int.ofNat.inj (Sum.inl.inj z))
      rw [valV_neg ne]
      rcases List.mem_cons.mp h with z | z
      · exact absurd z.symm e
      · exact ih z
theorem kD_put {o : List Nat} {k : Nat → Nat} {s : Nat} (h : s ∉ o) : putK (kD o k) (.inl (s : Int)) (.int (k s : Int)) = kD (o ++ [s]) k := by
  rw [put_none _ (kD_none h)]
  unfold kD
  rw [List.map_append]
  rfl
theorem kD_congr {o : List Nat} {k k' : Nat → Nat} (h : ∀ s ∈ o, k s = k' s) : kD o k = kD o k' := by
  unfold kD
  exact List.map_congr_left fun s hs => by rw [h s hs]
/-- a dict made entry by entry, over any walk -/
theorem dc_walk {J : It} {n : Nat} {G : Hp → Prop} {Y : Nat → Hp → V → Hp → Prop} (wk : Walk J n G Y) {g : TG} {tt : TT} {tk tv : TE} {ws : List Nat} {σ : L2.St} {H1 : Hp} {D : Addr} {Qd : Hp → Prop} (Pv : Nat → Hp → Prop)
    (h0 : Pv 0 (upd H1 D (.dK []))) (hG : ∀ i Hx, i ≤ n → Pv i Hx → G Hx)
    (hs : ∀ i v Hx Hy, i < n → Pv i Hx → Y i Hx v Hy → g v (wipe σ ws) Hy fun σa Ha => wipe σa ws = wipe σ ws ∧ tt σa Ha fun c Hb =>
      if c = true then tk σa Hb fun kx Hc => tv σa Hc fun vx Hd => ∃ ent key, kx = kV key ∧ Hd D = some (.dK ent) ∧ ent.length < sizeLine ∧ Pv (i + 1) (upd Hd D (.dK (putK ent key vx))) else Pv (i + 1) Hb)
    (hd : ∀ Hx, Pv n Hx → Qd Hx) : ∃ W : Nat → Nat → Hp → Prop, (∃ m, W 0 m (upd H1 D (.dK []))) ∧ ∀ i m Hx, W i m Hx →
      (J.stop i Hx ∧ Qd Hx) ∨ (J.go i Hx ∧ ∃ N : Hp → Prop, (∀ Hy, N Hy → ∃ m', m' < m ∧ W (i + 1) m' Hy) ∧ ∀ v Hy, J.yld i Hx v Hy → g v (wipe σ ws) Hy fun σa Ha => wipe σa ws = wipe σ ws ∧ tt σa Ha fun c Hb =>
        if c = true then tk σa Hb fun kx Hc => tv σa Hc fun vx Hd => ∃ ent key, kx = kV key ∧ Hd D = some (.dK ent) ∧ ent.length < sizeLine ∧ N (upd Hd D (.dK (putK ent key vx))) else N Hb) := by
  refine ⟨fun i m Hx => n - i = m ∧ i ≤ n ∧ Pv i Hx, ⟨n, Nat.sub_zero n, Nat.zero_le n, h0⟩, fun i m Hx c => ?_⟩
  obtain ⟨em, hi, p⟩ := c
  subst em
  rcases Nat.lt_or_ge i n with lt | ge
  · exact .inr ⟨wk.goes i Hx lt (hG i Hx hi p), Pv (i + 1), fun Hy p' => ⟨n - (i + 1), by omega, rfl, lt, p'⟩, fun v Hy y => hs i v Hx Hy lt p (wk.yields i Hx v Hy lt (hG i Hx hi p) y)⟩
  · cases Nat.le_antisymm hi ge
    exact .inl ⟨wk.stops Hx (hG _ Hx hi p), hd Hx p⟩
theorem in_nats (c : Nat) : ∀ ns : List Nat, inV (.int (c : Int)) (nats ns) = decide (c ∈ ns)
  | [] => rfl
  | n :: r => by
    have ih := in_nats c r
    show (eqV (.int (n : Int)) (.int (c : Int)) || inV (.int (c : Int)) (nats r)) = _
    rw [ih]
    show (((n : Int) == (c : Int)) || decide (c ∈ r)) = _
    by_cases e : n = c
    · subst e; simp
    · have e1 : ((n : Int) == (c : Int)) = false := beq_eq_false_iff_ne.mpr fun z => e (Int.ofNat.inj z)
      rw [e1]
      simp [Ne.symm e]
theorem flat_nats (ns : List Nat) : (nats ns).all flatV = true := by
  rw [List.all_eq_true]
  intro v hv
  unfold nats at hv
  obtain ⟨n, _, rfl⟩ := List.mem_map.mp hv
  rfl
theorem few_signs {κ : Type} [DecidableEq κ] {o : List Nat} {g : Nat → κ} {S : List κ} (h : Tb.Signs o g S) : S.length ≤ o.length := by
  have := List.Nodup.length_le_of_subset h.nd (l₂ := o.map g) fun k hk => by
    obtain ⟨s, hs, e⟩ := h.of k hk
    exact List.mem_map.mpr ⟨s, hs, e⟩
  rw [List.length_map] at this
  exact this
end Sf

namespace Sf
open PySem PySem.Spec PyProof.Rows L2
/-! ### walks within a comprehension: the part K by name -/
theorem pi_listK {K : PySem.W.Frag} {X : Cx} {tg l : Expr} {tl : TE} (hl : PE X l tl) (hK : X.K = K := by rfl) : PI X tg l (iList K tl) := by
  subst hK
  exact pi_list hl
theorem pi_tupK {K : PySem.W.Frag} {X : Cx} {tg l : Expr} {tl : TE} (hl : PE X l tl) (hK : X.K = K := by rfl) : PI X tg l (iTup K tl) := by
  subst hK
  exact pi_tup hl
/-! ### one row exchanged -/
theorem set_fst {rs : Rows} {i : Nat} {row : Addr × List Nat} (y : List Nat) (e : rs[i]? = some row) : (rs.set i (row.1, y)).map (·.1) = rs.map (·.1) := by
  refine List.ext_getElem? fun k => ?_
  rw [List.getElem?_map, List.getElem?_map]
  by_cases z : i = k
  · subst z
    rw [List.getElem?_set_self (List.getElem?_eq_some_iff.mp e).1, e]
    rfl
  · rw [List.getElem?_set_ne z]
theorem set_refs {rs : Rows} {i : Nat} {row : Addr × List Nat} (y : List Nat) (e : rs[i]? = some row) : rrefs (rs.set i (row.1, y)) = rrefs rs := by
  have := congrArg (List.map V.ref) (set_fst y e)
  rw [List.map_map, List.map_map] at this
  exact this
/-! ### heaps that differ at some places alone -/
def But (X : List Addr) (H H' : Hp) : Prop := ∀ b o, b ∉ X → H b = some o → H' b = some o
theorem But.refl (X : List Addr) (H : Hp) : But X H H := fun _ _ _ e => e
theorem But.mut {X : List Addr} {H H' : Hp} {p : Addr} {u : HO} (h : But X H H') (m : p ∈ X) : But X H (upd H' p u) := fun b o n e => by
  rw [upd_ne (show b ≠ p from fun z => n (by rw [z]; exact m))]
  exact h b o n e
theorem But.new {X : List Addr} {H H' : Hp} {p : Addr} {u : HO} (h : But X H H') (f : H' p = none) : But X H (upd H' p u) := fun b o n e => upd_old (h b o n e) f
theorem But.tup {K : PySem.W.Frag} {X : List Addr} {H H' : Hp} {p : Addr} {xs : List V} (h : But X H H') (l : ∀ b ∈ X, ∃ ys, H b = some (.lst ys)) (t : SqT K H p xs) : SqT K H' p xs := by
  rcases t with (e | ⟨o, e⟩) | e
  · refine .inl (.inl (h _ _ (fun m => ?_) e))
    obtain ⟨ys, e2⟩ := l p m
    rw [e] at e2
    cases e2
  · refine .inl (.inr ⟨o, h _ _ (fun m => ?_) e⟩)
    obtain ⟨ys, e2⟩ := l p m
    rw [e] at e2
    cases e2
  · exact .inr e
theorem But.same {X : List Addr} {S H H' : Hp} (h : But X H H') (s : Same S H) (n : ∀ b ∈ X, S b = none) : Same S H' := fun b o e => h b o (fun m => by rw [n b m] at e; cases e) (s b o e)
theorem But.kp {X : List Addr} {a : Addr} {S H H' : Hp} (h : But X H H') (s : Kp a S H) (n : ∀ b ∈ X, S b = none) : Kp a S H' := fun b o ne e => h b o (fun m => by rw [n b m] at e; cases e) (s b o ne e)
theorem But.sk {X : List Addr} {n : Nat} {a : Addr} {H H' : Hp} (h : But X H H') (s : Sk n H a) (m : a ∉ X) : Sk n H' a := let ⟨x, y, z, e, r⟩ := s; ⟨x, y, z, h _ _ m e, r⟩
theorem Sh.kp {K : PySem.W.Frag} {H H' : Hp} {sk p r g : Addr} {x : Str} {rs : Rows} {es : List Nat} {n : Nat} (h : Sh K H p r g x rs es) (k : Kp sk H H') (hs : Sk n H sk) (nr : r ≠ sk) (ng : g ≠ sk) (nq : ∀ q ∈ rs, q.1 ≠ sk) : Sh K H' p r g x rs es := by
  refine ⟨?_, k _ _ nr h.r, k _ _ ng h.g, fun q hq => k _ _ (nq q hq) (h.q q hq)⟩
  obtain ⟨u, v, w, e, _⟩ := hs
  rcases h.p with (h | ⟨o, h⟩) | h
  · refine .inl (.inl (k _ _ (fun z => ?_) h))
    rw [z, e] at h
    cases h
  · refine .inl (.inr ⟨o, k _ _ (fun z => ?_) h⟩)
    rw [z, e] at h
    cases h
  · exact .inr h
end Sf

namespace Sf
open PySem PySem.Spec PyProof.Rows L2
open Builtin Builtin.Str
/-! ### endings and beginnings within bounds -/
def endsIn (x y : Str) (i j : Int) : Bool := fromIndex x.length i + y.length ≤ toIndexW x.length j && subAt x y (toIndexW x.length j - y.length)
theorem gives_endsIn (x y : Str) (i j : Int) (t u v w' : Tok) : Gives (Builtin.«str.endswith» ⟨[.str x t, .str y u, .int i v, .int j w'], []⟩) (.val (.bool (endsIn x y i j))) := by
  show Gives (ret (.bool (fromIndex x.length i + y.length ≤ toIndexW x.length j && subAt x y (toIndexW x.length j - y.length)))) _
  exact .of_eq rfl
theorem mt_endsIn {X : Cx} : MtR X "str.endswith" (fun x xs H Q => ∃ (a b : Str) (i j : Int), x = .str a ∧ xs = [.str b, .int i, .int j] ∧ Q (.bl (endsIn a b i j)) H) :=
  mt1II (g := fun a b i j => .bl (endsIn a b i j)) fun a b i j t u z y s _ h =>
    call_gives PySem.F.slot_str_endswith (typeIs_str _ _ _) PySem.F.entry_str_endswith (PySem.F.args_str_endswith_4 _ _ _ _) (gives_endsIn a b i j t u z y) (h _ s.toks rfl)
/-- what stands around a cut, asked without cutting -/
theorem stB_in {l r x : Str} {c : Nat} (h : c ≤ x.length) : (endsIn x l 0 (c : Int) && Txt.startswith3 x r (c : Int)) = stB l r x c := by
  have f0 : fromIndex x.length 0 = 0 := rfl
  have fc : fromIndex x.length (c : Int) = c := by
    unfold fromIndex
    rw [if_neg (by omega)]
    omega
  have tc : toIndexW x.length (c : Int) = c := by
    unfold toIndexW
    rw [if_neg (by omega)]
    omega
  unfold stB endsIn Txt.startswith3 Txt.endswith Txt.startswith
  rw [f0, fc, tc, StrLaws.subAt_eq, StrLaws.subAt_eq, StrLaws.subAt_eq, StrLaws.subAt_eq, cut_to h, cut_from h, len_cut_to h, len_cut_from h, Nat.zero_add, Nat.zero_add, List.drop_zero]
  congr 1
  · by_cases z : l.length ≤ c
    · rw [decide_eq_true z, Bool.true_and, Bool.true_and]
      have e1 : ((x.cps.toList.take c).drop (c - l.length)).take l.length = (x.cps.toList.drop (c - l.length)).take l.length := by
        rw [List.drop_take, List.take_take]
        congr 1
        omega
      rw [e1]
    · rw [decide_eq_false z]
      rfl
  · have : decide (c + r.length ≤ x.length) = decide (r.length ≤ x.length - c) := by
      rw [decide_eq_decide]
      omega
    rw [this]
theorem stZ_in {l r x : Str} {c : Int} (h0 : 0 ≤ c) (h1 : c ≤ x.length) : (endsIn x l 0 c && Txt.startswith3 x r c) = stZ l r x c := by
  obtain ⟨n, rfl⟩ := Int.eq_ofNat_of_zero_le h0
  unfold stZ
  rw [if_pos ⟨h0, h1⟩]
  exact stB_in (by omega)
/-! ### the fields of a box and of its workings -/
def bxF (s r k : Addr) : List (Str × V) := [(("_strips" : Str), .ref s), (("_rules" : Str), .ref r), (("_workings" : Str), .ref k)]
def wkF (x y : V) : List (Str × V) := [(("_strips" : Str), x), (("_rules" : Str), y), (("_web" : Str), .non), (("_table" : Str), .non), (("_net" : Str), .non), (("_routes" : Str), .non), (("_parts" : Str), .non), (("_lots" : Str), .non)]
end Sf

namespace Sf
open PySem PySem.Spec PyProof.Rows L2
/-! ### an own object that is called -/
/-- what of the text a class with a call has -/
structure CallO (K : PySem.W.Frag) (C f : Addr) : Prop where
  hs : PySem.W.findIn K (.ref C) "__call__" = some (some (.ref f))
  hf : PySem.W.isFn K (.ref f) = true
  fn : PySem.W.fnIn K f = true
def tCallO (C : Addr) (sp : Sp) (E : L2.St → XK) (ta : TE) (t : TA) : TE := fun σ H Q => ta σ H fun x H1 => ∃ a dx fs, x = .ref a ∧ H1 a = some (.ins C dx fs) ∧ t σ H1 fun vs H2 => (∃ fs2, H2 a = some (.ins C dx fs2)) ∧ sp (x :: vs) H2 Q (E σ)
def tCallOK (C : Addr) (n : Nat) (sp : Sp) (gV : List V → List V → List V) (E : L2.St → XK) (ta : TE) (tk : TA) : TE := fun σ H Q => ta σ H fun x H1 => ∃ a dx fs, x = .ref a ∧ H1 a = some (.ins C dx fs) ∧ tk σ H1 fun zs H2 => zs.length = n ∧ (∃ fs2, H2 a = some (.ins C dx fs2)) ∧ sp (gV [x] zs) H2 Q (E σ)
section
variable {X : Cx} {CX : CXT} {k : Nat} {f C : Addr} {fd : FuncData} {ps ks : List Str} {sp : Sp} {E : L2.St → XK} {p pos : Pos} {e o : Expr} {es : List Expr} {ta : TE} {t tk : TA} {kws : List Keyword} {g : List Value → List Value → List Value} {gV : List V → List V → List V}
theorem inst_of {pins : List (Addr × Obj)} {s : Shared} {σ : L2.St} {H : Hp} {a dx : Addr} {fs : List (Str × V)} (I : L2.Inv X pins σ H s) (h : H a = some (.ins C dx fs)) : ∃ od, PySem.W.InstAt s.heap a (PySem.W.instObj C dx) C (some od) := by
  obtain ⟨mA, O, _⟩ := ins_get I.hok h
  obtain ⟨od, J, _⟩ := O.look
  exact ⟨od, J⟩
theorem callWith_O {M : Model} {A : Around} {E : Value → Shared → Prop} {s : Shared} {x : Addr} {ox : Obj} {first : List Value} {Q : Value → Shared → Prop} {args : List (Bool × Sem Value)} {keywords : List (Option Str × Sem Value)}
    (plain : (args.any (·.1) || keywords.any (·.1.isNone)) = false) (hd : ox.data = .plain)
    (h : wpAny M A (evalArgs (.ref x) true args keywords) (fun b s₁ => (∃ C od, PySem.W.InstAt s₁.heap x ox C od) ∧ wpAny M A (call (.ref x) (first ++ b.pos) b.kw) Q E s₁) E s) : wpAny M A (callWith pos (.ref x) first args keywords) Q E s := by
  unfold callWith
  apply wpAny_bind; apply wpAny_holding; apply wpAny_mono h _ fun _ _ y => y
  rintro b s₁ ⟨⟨C, od, J⟩, q⟩
  apply wpAny_bind; apply wpAny_standAt
  have L := PySem.W.kco_keeper (M := M) J hd
  simp only [plain]
  apply wpAny_bind; apply L.here
  have tail : ∀ {t : Sem Value}, wpAny M A t Q E s₁ → wpAny M A (t >>= fun r => holding [r] point >>= fun _ => pure r) Q E s₁ := fun z =>
    wpAny_bind (wpAny_mono z (fun r s₂ y => wpAny_bind (wpAny_holding (wpAny_point (wpAny_pure y)))) fun _ _ y => y)
  exact tail (wpAny_operateT q)
theorem run_O {pins : List (Addr × Obj)} {σ : L2.St} {H : Hp} {s : Shared} {Q : VK} {a dx : Addr} {fs : List (Str × V)} {b : Args} {vs : List V} {us : List Value} {E' : XK} (c : CallO X.K C f) (F : FnOk X.prog X.w X.K X.mg X.base CX k f fd ps sp) (hr : Room k X.A)
    (hx : PassesAt CX X σ E') (I : L2.Inv X pins σ H s) (ea : H a = some (.ins C dx fs)) (bt : BindsTo s fd { b with pos := .ref a :: b.pos } (ps.zip us)) (r : Vals vs us) (q : sp vs H Q E') : wpAny (model X.prog X.w) X.A (call (.ref a) b.pos b.kw) (EP X pins σ Q) X.xe s := by
  obtain ⟨od, J⟩ := inst_of I ea
  apply wpAny_call
  apply PySem.W.kco_code I.kIn J rfl c.hs c.hf c.fn
  apply codeAny_mono (F.run X.A X.stack s H _ _ _ Q E' hr I.env0 bt r q)
  intro r s' hq
  cases r with
  | error e => exact hx pins H s e s' I hq
  | ok fl =>
    cases fl with
    | ret u => exact I.after hq
    | next => exact hq.elim
    | brk => exact hq.elim
    | cont => exact hq.elim
theorem pe_callO (he : PE X o ta) (c : CallO X.K C f) (F : FnOk X.prog X.w X.K X.mg X.base CX k f fd ps sp) (hr : Room k X.A) (hb : Binds X.K fd ps []) (hx : ∀ σ, PassesAt CX X σ (E σ)) (ha : PA X (e :: es) t)
    (hst : starEach (e :: es) X.env = (false, eval e X.env) :: starEach es X.env := by rfl) (hpl : (backTo pos (starEach es X.env)).any (·.1) = false := by rfl)
    (ht : eval (.Call o (e :: es) [] pos) X.env = (do callWith pos (← eval o X.env) [] (backTo pos (starEach (e :: es) X.env)) (backToKw pos (keywordEach [] X.env))) := by rfl) :
    PE X (.Call o (e :: es) [] pos) (tCallO C sp E ta t) := by
  constructor
  intro pins s σ H Q I h
  rw [ht]
  apply wpAny_bind
  apply thn (he.run pins s σ H _ I h)
  rintro u s1 ⟨x, H1, I1, rx, a, dx, fs, rfl, ea, q⟩
  cases (show u = Value.ref a from rx)
  have z : wpAny (model X.prog X.w) X.A (spliced (backTo pos (starEach (e :: es) X.env))) (fun us s2 => (∃ C' od, PySem.W.InstAt s2.heap a (PySem.W.instObj C dx) C' od) ∧ wpAny (model X.prog X.w) X.A (call (.ref a) ([] ++ us) []) (EP X pins σ Q) X.xe s2) X.xe s1 := by
    apply thn (ha.run pos pins s1 σ H1 _ I1 q)
    rintro us s2 ⟨vs, H2, I2, r, ⟨fs2, ea2⟩, q2⟩
    obtain ⟨od2, J2⟩ := inst_of I2 ea2
    refine ⟨⟨C, _, J2⟩, ?_⟩
    have r1 : Vals (V.ref a :: vs) (Value.ref a :: us) := .cons rfl r
    have ln := F.len _ _ _ _ q2
    have bt := hb s2 (.ref a :: us) I2.kIn (by rw [List.append_nil, ← r1.length]; exact ln)
    rw [List.append_nil] at bt
    exact run_O (b := ⟨us, []⟩) c F hr (hx σ) I2 ea2 bt r1 q2
  rw [hst] at z ⊢
  apply callWith_O (ox := PySem.W.instObj C dx) (first := []) _ rfl (PySem.Calls.evalArgs_plain z)
  show ((false || (backTo pos (starEach es X.env)).any (·.1)) || false) = false
  rw [hpl]; rfl
theorem pe_callOK (he : PE X o ta) (c : CallO X.K C f) (F : FnOk X.prog X.w X.K X.mg X.base CX k f fd ps sp) (hr : Room k X.A) (hb : KBn X.K fd ps 1 ks g gV) (hx : ∀ σ, PassesAt CX X σ (E σ)) (hkw : PK X kws tk)
    (hall : (backToKw pos (keywordEach kws X.env)).all (·.1.isSome) = true := by rfl) (hks : (backToKw pos (keywordEach kws X.env)).filterMap (·.1) = ks := by rfl)
    (hpl : ((backTo pos (starEach [] X.env)).any (·.1) || (backToKw pos (keywordEach kws X.env)).any (·.1.isNone)) = false := by rfl)
    (ht : eval (.Call o [] kws pos) X.env = (do callWith pos (← eval o X.env) [] (backTo pos (starEach [] X.env)) (backToKw pos (keywordEach kws X.env))) := by rfl) :
    PE X (.Call o [] kws pos) (tCallOK C ks.length sp gV E ta tk) := by
  constructor
  intro pins s σ H Q I h
  rw [ht]
  apply wpAny_bind
  apply thn (he.run pins s σ H _ I h)
  rintro u s1 ⟨x, H1, I1, rx, a, dx, fs, rfl, ea, q⟩
  cases (show u = Value.ref a from rx)
  apply callWith_O (ox := PySem.W.instObj C dx) (first := []) hpl rfl
  apply evalArgs_kw2_nil hall
  apply thn (hkw.run pos pins s1 σ H1 _ I1 q)
  rintro ws s2 ⟨zs, H2, I2, rz, len, ⟨fs2, ea2⟩, q2⟩
  obtain ⟨od2, J2⟩ := inst_of I2 ea2
  refine ⟨⟨C, _, J2⟩, ?_⟩
  rw [hks]
  have r1 : Vals [V.ref a] [Value.ref a] := .cons rfl .nil
  have n2 : ws.length = ks.length := by rw [← rz.length]; exact len
  exact run_O (b := ⟨[], ks.zip ws⟩) c F hr (hx σ) I2 ea2 (hb.to s2 [.ref a] ws I2.kIn rfl n2) (hb.rel r1 rz) q2
end
end Sf

namespace Sf
open PySem PySem.Spec PyProof.Rows L2
/-! ### films on a desk -/
def dkF (b f t n c : Addr) : List (Str × V) := [(("_box" : Str), .ref b), (("_films" : Str), .ref f), (("_trees" : Str), .ref t), (("_numbers" : Str), .ref n), (("_calls" : Str), .ref c)]
/-- films with their numbers, as a dict -/
def numD : List Str → Nat → List (L2.Key × V)
  | [], _ => []
  | x :: r, k => (.inr x, .int (k : Int)) :: numD r (k + 1)
theorem numD_len : ∀ (xs : List Str) (k : Nat), (numD xs k).length = xs.length
  | [], _ => rfl
  | _ :: r, k => by show (numD r (k + 1)).length + 1 = _; rw [numD_len r]; rfl
theorem numD_some : ∀ {xs : List Str} {x : Str} (k : Nat), x ∈ xs → valV (numD xs k) (.inr x) = some (.int ((k + xs.idxOf x : Nat) : Int))
  | y :: r, x, k, h => by
    by_cases e : y = x
    · subst e
      show valV ((.inr y, V.int (k : Int)) :: numD r (k + 1)) (.inr y) = _
      rw [valV_pos rfl, List.idxOf_cons_self]
      rfl
    · have m : x ∈ r := by
        rcases List.mem_cons.mp h with z | z
        · exact absurd z.symm e
        · exact z
      show valV ((.inr y, V.int (k : Int)) :: numD r (k + 1)) (.inr x) = _
      rw [valV_neg (fun z => e (Sum.inr.inj z)), numD_some (k + 1) m, List.idxOf_cons]
      have : (y == x) = false := beq_eq_false_iff_ne.mpr e
      rw [this]
      show some (V.int ((k + 1 + r.idxOf x : Nat) : Int)) = some (V.int ((k + (r.idxOf x + 1) : Nat) : Int))
      congr 2
      omega
theorem numD_none : ∀ {xs : List Str} {x : Str} (k : Nat), x ∉ xs → valV (numD xs k) (.inr x) = none
  | [], _, _, _ => rfl
  | y :: r, x, k, h => by
    show valV ((.inr y, V.int (k : Int)) :: numD r (k + 1)) (.inr x) = _
    rw [valV_neg (fun z => h (by rw [Sum.inr.inj z]; exact List.mem_cons_self)), numD_none (k + 1) fun z => h (List.mem_cons_of_mem _ z)]
theorem numD_app : ∀ (xs : List Str) (x : Str) (k : Nat), numD (xs ++ [x]) k = numD xs k ++ [(.inr x, V.int ((k + xs.length : Nat) : Int))]
  | [], _, _ => rfl
  | y :: r, x, k => by
    show (.inr y, V.int (k : Int)) :: numD (r ++ [x]) (k + 1) = (.inr y, V.int (k : Int)) :: (numD r (k + 1) ++ _)
    rw [numD_app r x (k + 1)]
    have : k + 1 + r.length = k + (y :: r).length := by rw [List.length_cons]; omega
    rw [this]
theorem numD_put {xs : List Str} {x : Str} (h : x ∉ xs) : putK (numD xs 0) (.inr x) (.int (xs.length : Int)) = numD (xs ++ [x]) 0 := by
  rw [put_none _ (numD_none 0 h), numD_app, Nat.zero_add]
/-- a film more, if it is not there -/
def addX (xs : List Str) (x : Str) : List Str := if x ∈ xs then xs else xs ++ [x]
theorem addX_in {xs : List Str} {x : Str} (h : x ∈ xs) : addX xs x = xs := if_pos h
theorem addX_new {xs : List Str} {x : Str} (h : x ∉ xs) : addX xs x = xs ++ [x] := if_neg h
theorem addX_len (xs : List Str) (x : Str) : (addX xs x).length ≤ xs.length + 1 := by
  unfold addX
  split
  · omega
  · rw [List.length_append]; exact Nat.le_refl _
theorem addX_mem {xs : List Str} {x y : Str} (h : y ∈ addX xs x) : y ∈ xs ∨ y = x := by
  unfold addX at h
  split at h
  · exact .inl h
  · rcases List.mem_append.mp h with z | z
    · exact .inl z
    · exact .inr (List.mem_singleton.mp z)
theorem addX_has (xs : List Str) (x : Str) : x ∈ addX xs x := by
  unfold addX
  split
  · assumption
  · exact List.mem_append_right _ (List.mem_singleton.mpr rfl)
theorem idx_end {xs : List Str} {x : Str} (h : x ∉ xs) : (xs ++ [x]).idxOf x = xs.length := by
  rw [List.idxOf_append, if_neg h]
  simp
/-- the strips that are put, one after another -/
def addAll (xs : List Str) (ws : List Str) : List Str := ws.foldl addX xs
/-- the lists of a desk -/
structure DS (H : Hp) (f t n c : Addr) (xs : List Str) : Prop where
  hf : H f = some (.lst (xs.map V.str))
  ht : ∃ ts, H t = some (.lst ts) ∧ ts.length = xs.length
  hn : H n = some (.dK (numD xs 0))
  hc : ∃ cs, H c = some (.lst cs) ∧ cs.length ≤ 1000
  ft : f ≠ t
  tc : t ≠ c
  fc : f ≠ c
theorem DS.nf {H : Hp} {f t n c : Addr} {xs : List Str} (d : DS H f t n c xs) : f ≠ n ∧ t ≠ n ∧ c ≠ n := by
  obtain ⟨ts, et, _⟩ := d.ht
  obtain ⟨cs, ec, _⟩ := d.hc
  have ef := d.hf
  have en := d.hn
  refine ⟨fun z => ?_, fun z => ?_, fun z => ?_⟩
  · rw [z, en] at ef; cases ef
  · rw [z, en] at et; cases et
  · rw [z, en] at ec; cases ec
theorem DS.mono {H H' : Hp} {f t n c : Addr} {xs : List Str} (d : DS H f t n c xs) (s : ∀ b, b ∈ [f, t, n, c] → ∀ o, H b = some o → H' b = some o) : DS H' f t n c xs := by
  obtain ⟨ts, et, lt⟩ := d.ht
  obtain ⟨cs, ec, lc⟩ := d.hc
  exact ⟨s f (by simp) _ d.hf, ⟨ts, s t (by simp) _ et, lt⟩, s n (by simp) _ d.hn, ⟨cs, s c (by simp) _ ec, lc⟩, d.ft, d.tc, d.fc⟩
theorem DS.same {H H' : Hp} {f t n c : Addr} {xs : List Str} (d : DS H f t n c xs) (s : Same H H') : DS H' f t n c xs := d.mono fun b _ o e => s b o e
end Sf

namespace K52
open PySem PySem.Spec PyProof.Rows L2 Sf
def top (i : Nat) : Stmt := PySem.Challenge.pw_splicedfilms_k52_equal_desks.main.body.getD i (.Pass ⟨0, 0, 0, 0⟩)
/-- where things stand -/
structure Ad where
  (FilmError InvalidFilm InvalidPiece InvalidRule UnknownStrip UnknownRule NoSplice NothingToUndo init is_piece is_film check_film check_piece check_rule splice_of_films stand_at coin signs word pair join purse plan great made bent near sites bench put call_fault do_ takes_back fits deed called undone lies_there any_plan right law Workings Workings___init__ Box Box___init__ Box___eq__ Box_strips Box_rules p_Box_strips p_Box_rules Desk Desk___init__ Desk__put Desk__splice Desk__check_number Desk_films Desk_undo Desk___len__ Desk___call__ Desk___eq__ : Addr)
  (t_PICTURES : Tok)
def Ad.err (a : Ad) : Nat → Addr
  | 0 => a.FilmError | 1 => a.InvalidFilm | 2 => a.InvalidPiece | 3 => a.InvalidRule | 4 => a.UnknownStrip | 5 => a.UnknownRule | 6 => a.NoSplice | _ => a.NothingToUndo
structure Txt (K : PySem.W.Frag) (mg : Str → Option Value) (a : Ad) : Prop where
  g_FilmError : mg "FilmError" = some (.ref a.FilmError)
  g_InvalidFilm : mg "InvalidFilm" = some (.ref a.InvalidFilm)
  g_InvalidPiece : mg "InvalidPiece" = some (.ref a.InvalidPiece)
  g_InvalidRule : mg "InvalidRule" = some (.ref a.InvalidRule)
  g_UnknownStrip : mg "UnknownStrip" = some (.ref a.UnknownStrip)
  g_UnknownRule : mg "UnknownRule" = some (.ref a.UnknownRule)
  g_NoSplice : mg "NoSplice" = some (.ref a.NoSplice)
  g_NothingToUndo : mg "NothingToUndo" = some (.ref a.NothingToUndo)
  e_FilmError : ErrC K a.FilmError a.init
  e_InvalidFilm : ErrC K a.InvalidFilm a.init
  e_InvalidPiece : ErrC K a.InvalidPiece a.init
  e_InvalidRule : ErrC K a.InvalidRule a.init
  e_UnknownStrip : ErrC K a.UnknownStrip a.init
  e_UnknownRule : ErrC K a.UnknownRule a.init
  e_NoSplice : ErrC K a.NoSplice a.init
  e_NothingToUndo : ErrC K a.NothingToUndo a.init
  subs : ∀ i j, i ≤ 7 → j ≤ 7 → PySem.W.subIn K (.ref (a.err i)) (.ref (a.err j)) = some (decide (i = j) || decide (j = 0))
  cls : ∀ i, i ≤ 7 → PySem.W.isClsIn K (a.err i) = true
  g_is_piece : mg "is_piece" = some (.ref a.is_piece)
  k_is_piece : PySem.W.keepIn K (.ref a.is_piece) = true
  g_is_film : mg "is_film" = some (.ref a.is_film)
  k_is_film : PySem.W.keepIn K (.ref a.is_film) = true
  g_check_film : mg "check_film" = some (.ref a.check_film)
  k_check_film : PySem.W.keepIn K (.ref a.check_film) = true
  g_check_piece : mg "check_piece" = some (.ref a.check_piece)
  k_check_piece : PySem.W.keepIn K (.ref a.check_piece) = true
  g_check_rule : mg "check_rule" = some (.ref a.check_rule)
  k_check_rule : PySem.W.keepIn K (.ref a.check_rule) = true
  g_splice_of_films : mg "splice_of_films" = some (.ref a.splice_of_films)
  k_splice_of_films : PySem.W.keepIn K (.ref a.splice_of_films) = true
  g_stand_at : mg "_stand_at" = some (.ref a.stand_at)
  k_stand_at : PySem.W.keepIn K (.ref a.stand_at) = true
  g_coin : mg "_law_coin" = some (.ref a.coin)
  k_coin : PySem.W.keepIn K (.ref a.coin) = true
  g_signs : mg "_law_fm_signs" = some (.ref a.signs)
  k_signs : PySem.W.keepIn K (.ref a.signs) = true
  g_word : mg "_law_fm_word" = some (.ref a.word)
  k_word : PySem.W.keepIn K (.ref a.word) = true
  g_pair : mg "_law_fm_pair" = some (.ref a.pair)
  k_pair : PySem.W.keepIn K (.ref a.pair) = true
  g_join : mg "_law_fm_join" = some (.ref a.join)
  k_join : PySem.W.keepIn K (.ref a.join) = true
  g_purse : mg "_law_fm_purse" = some (.ref a.purse)
  k_purse : PySem.W.keepIn K (.ref a.purse) = true
  g_plan : mg "_law_fm_plan" = some (.ref a.plan)
  k_plan : PySem.W.keepIn K (.ref a.plan) = true
  g_great : mg "_law_fm_great" = some (.ref a.great)
  k_great : PySem.W.keepIn K (.ref a.great) = true
  g_made : mg "_law_fm_made" = some (.ref a.made)
  k_made : PySem.W.keepIn K (.ref a.made) = true
  g_bent : mg "_law_fm_bent" = some (.ref a.bent)
  k_bent : PySem.W.keepIn K (.ref a.bent) = true
  g_near : mg "_law_fm_near" = some (.ref a.near)
  k_near : PySem.W.keepIn K (.ref a.near) = true
  g_sites : mg "_law_fm_sites" = some (.ref a.sites)
  k_sites : PySem.W.keepIn K (.ref a.sites) = true
  g_bench : mg "_law_fm_bench" = some (.ref a.bench)
  k_bench : PySem.W.keepIn K (.ref a.bench) = true
  g_put : mg "_law_fm_put" = some (.ref a.put)
  k_put : PySem.W.keepIn K (.ref a.put) = true
  g_call_fault : mg "_law_fm_call_fault" = some (.ref a.call_fault)
  k_call_fault : PySem.W.keepIn K (.ref a.call_fault) = true
  g_do_ : mg "_law_fm_do" = some (.ref a.do_)
  k_do_ : PySem.W.keepIn K (.ref a.do_) = true
  g_takes_back : mg "_law_fm_takes_back" = some (.ref a.takes_back)
  k_takes_back : PySem.W.keepIn K (.ref a.takes_back) = true
  g_fits : mg "_law_fm_fits" = some (.ref a.fits)
  k_fits : PySem.W.keepIn K (.ref a.fits) = true
  g_deed : mg "_law_fm_deed" = some (.ref a.deed)
  k_deed : PySem.W.keepIn K (.ref a.deed) = true
  g_called : mg "_law_fm_called" = some (.ref a.called)
  k_called : PySem.W.keepIn K (.ref a.called) = true
  g_undone : mg "_law_fm_undone" = some (.ref a.undone)
  k_undone : PySem.W.keepIn K (.ref a.undone) = true
  g_lies_there : mg "_law_fm_lies_there" = some (.ref a.lies_there)
  k_lies_there : PySem.W.keepIn K (.ref a.lies_there) = true
  g_any_plan : mg "_law_fm_any_plan" = some (.ref a.any_plan)
  k_any_plan : PySem.W.keepIn K (.ref a.any_plan) = true
  g_right : mg "_law_right" = some (.ref a.right)
  k_right : PySem.W.keepIn K (.ref a.right) = true
  g_law : mg "law" = some (.ref a.law)
  k_law : PySem.W.keepIn K (.ref a.law) = true
  b_int : mg "int" = none
  b_len : mg "len" = none
  b_max : mg "max" = none
  b_min : mg "min" = none
  b_abs : mg "abs" = none
  b_repr : mg "repr" = none
  b_isinstance : mg "isinstance" = none
  b_list : mg "list" = none
  b_tuple : mg "tuple" = none
  b_range : mg "range" = none
  b_sorted : mg "sorted" = none
  b_all : mg "all" = none
  b_set : mg "set" = none
  b_enumerate : mg "enumerate" = none
  g_PICTURES : mg "PICTURES" = some (.str abcS a.t_PICTURES)
  c_Workings : Cls K a.Workings
  g_Workings : mg "Workings" = some (.ref a.Workings)
  n_Workings_strips : NoAttr K a.Workings "_strips"
  n_Workings_rules : NoAttr K a.Workings "_rules"
  n_Workings_web : NoAttr K a.Workings "_web"
  n_Workings_table : NoAttr K a.Workings "_table"
  n_Workings_net : NoAttr K a.Workings "_net"
  n_Workings_routes : NoAttr K a.Workings "_routes"
  n_Workings_parts : NoAttr K a.Workings "_parts"
  n_Workings_lots : NoAttr K a.Workings "_lots"
  m_Workings : Mk K a.Workings a.Workings___init__
  c_Box : Cls K a.Box
  g_Box : mg "Box" = some (.ref a.Box)
  n_Box_strips : NoAttr K a.Box "_strips"
  n_Box_rules : NoAttr K a.Box "_rules"
  n_Box_workings : NoAttr K a.Box "_workings"
  m_Box : Mk K a.Box a.Box___init__
  p_Box_strips : PropOf K a.Box "strips" a.p_Box_strips a.Box_strips
  p_Box_rules : PropOf K a.Box "rules" a.p_Box_rules a.Box_rules
  sf_Box : PySem.W.selfFirst K a.Box = true
  kl_Box : PySem.W.findIn K (.ref a.Box) "__class__" = some (some (.builtin "object.__class__"))
  ob_Box : PySem.W.mroIn K a.Box (.type "object") = some true
  ki_Box : PySem.W.kitOne K (.ref a.Box) (.ref a.Box) = some true
  spO : PySem.W.specialIn K (.builtin "object.__class__") "__get__" = some (some (.builtin "getset_descriptor.__get__"))
  tkO : PySem.W.takesIn K (.builtin "object.__class__") = some true
  no_Box_Desk : PySem.W.kitOne K (.ref a.Desk) (.ref a.Box) = some false
  nf_Box_Desk : PySem.W.notFirst K a.Box (.ref a.Desk) = true
  o_Box___eq__ : PySem.W.findIn K (.ref a.Box) "__eq__" = some (some (.ref a.Box___eq__))
  of_Box___eq__ : PySem.W.isFn K (.ref a.Box___eq__) = true
  c_Desk : Cls K a.Desk
  g_Desk : mg "Desk" = some (.ref a.Desk)
  n_Desk_box : NoAttr K a.Desk "_box"
  n_Desk_films : NoAttr K a.Desk "_films"
  n_Desk_trees : NoAttr K a.Desk "_trees"
  n_Desk_numbers : NoAttr K a.Desk "_numbers"
  n_Desk_calls : NoAttr K a.Desk "_calls"
  m_Desk : Mk K a.Desk a.Desk___init__
  h_Desk__put : Meth K a.Desk "_put" a.Desk__put
  h_Desk__splice : Meth K a.Desk "_splice" a.Desk__splice
  h_Desk__check_number : Meth K a.Desk "_check_number" a.Desk__check_number
  h_Desk_films : Meth K a.Desk "films" a.Desk_films
  h_Desk_undo : Meth K a.Desk "undo" a.Desk_undo
  l_Desk : PySem.W.findIn K (.ref a.Desk) "__len__" = some (some (.ref a.Desk___len__))
  lf_Desk : PySem.W.isFn K (.ref a.Desk___len__) = true
  sf_Desk : PySem.W.selfFirst K a.Desk = true
  kl_Desk : PySem.W.findIn K (.ref a.Desk) "__class__" = some (some (.builtin "object.__class__"))
  ob_Desk : PySem.W.mroIn K a.Desk (.type "object") = some true
  ki_Desk : PySem.W.kitOne K (.ref a.Desk) (.ref a.Desk) = some true
  no_Desk_list : PySem.W.kitOne K (.type "list") (.ref a.Desk) = some false
  nf_Desk_list : PySem.W.notFirst K a.Desk (.type "list") = true
  no_Desk_int : PySem.W.kitOne K (.type "int") (.ref a.Desk) = some false
  nf_Desk_int : PySem.W.notFirst K a.Desk (.type "int") = true
  no_Desk_Box : PySem.W.kitOne K (.ref a.Box) (.ref a.Desk) = some false
  nf_Desk_Box : PySem.W.notFirst K a.Desk (.ref a.Box) = true
  co_Desk : CallO K a.Desk a.Desk___call__
  o_Desk___call__ : PySem.W.findIn K (.ref a.Desk) "__call__" = some (some (.ref a.Desk___call__))
  of_Desk___call__ : PySem.W.isFn K (.ref a.Desk___call__) = true
  o_Desk___eq__ : PySem.W.findIn K (.ref a.Desk) "__eq__" = some (some (.ref a.Desk___eq__))
  of_Desk___eq__ : PySem.W.isFn K (.ref a.Desk___eq__) = true
theorem Txt.err {K : PySem.W.Frag} {mg : Str → Option Value} {a : Ad} (T : Txt K mg a) : ∀ i, ErrC K (a.err i) a.init
  | 0 => T.e_FilmError | 1 => T.e_InvalidFilm | 2 => T.e_InvalidPiece | 3 => T.e_InvalidRule | 4 => T.e_UnknownStrip | 5 => T.e_UnknownRule | 6 => T.e_NoSplice | _ + 7 => T.e_NothingToUndo
section
variable {K : PySem.W.Frag} {mg : Str → Option Value} {a : Ad}
theorem Txt.isE (T : Txt K mg a) (i j : Nat) (h : i ≤ 7) (h1 : 1 ≤ j) (h2 : j ≤ 7) : PySem.W.kitOne K (.ref (a.err i)) (.ref (a.err j)) = some (decide (i = j)) := by
  have s := T.subs i j h h2
  rw [decide_eq_false (show ¬ j = 0 by omega), Bool.or_false] at s
  refine kit_one (T.cls j h2) (T.err j).oe.tyC s fun e => ?_
  -- a class stands under itself
  have s2 := T.subs j i h2 h
  by_cases z : i = j
  · exact decide_eq_true z
  · rw [e, T.subs j j h2 h2, decide_eq_true rfl, Bool.true_or, decide_eq_false z] at s
    cases s
theorem Txt.isF (T : Txt K mg a) (i : Nat) (h : i ≤ 7) : PySem.W.exmOne K (.ref (a.err i)) (.ref a.FilmError) = some true := by
  have s := T.subs i 0 h (by decide)
  rw [decide_eq_true (show 0 = 0 from rfl), Bool.or_true] at s
  exact kit_exm T.e_FilmError.oe.exC (T.cls 0 (by decide)) T.e_FilmError.oe.tyC s
end
section
variable {P : Program} {w : World} {K : PySem.W.Frag} {mg : Str → Option Value} {base : Heap} {a : Ad}
abbrev s_FilmError___init__ : Stmt := inClass (top 2) 0
theorem sc_FilmError___init__ : FnScope ["self", "value"] ["self", "value"] (defScope s_FilmError___init__) := ⟨rfl, rfl, rfl, by decide +kernel, rfl, by decide +kernel, by decide +kernel⟩
theorem ok_init {f : Addr} {fd : FuncData} (F : Fun K "__init__" "FilmError.__init__" s_FilmError___init__ f fd) : FnOk P w K mg base CX0 1 f fd ["self", "value"] (spErrInit K) := by
  refine F.ok sc_FilmError___init__ (fun vs H Q E h => by obtain ⟨a, C, v, rfl, _⟩ := h; rfl) (fun cdv A outer s H vs Q E hr h => ?_)
  refine ⟨_, (pss_one (ps_ost (pv 0) (pv 1))), ?_⟩
  obtain ⟨a, C, v, rfl, ha, oe, no, k⟩ := h
  exact ⟨_, rfl, _, rfl, a, C, rfl, oe, no, .inl ⟨ha, k⟩⟩
abbrev s_is_piece : Stmt := top 12
theorem sc_is_piece : FnScope ["text"] ["text"] (defScope s_is_piece) := ⟨rfl, rfl, rfl, by decide +kernel, rfl, by decide +kernel, by decide +kernel⟩
/-- is_piece(text) -/
def spPiece : Sp := fun vs H Q _ => ∃ (x : Str), vs = [.str x] ∧ Tx 5000 x ∧ ∀ H', Same H H' → Q (.bl (plain x)) H'
theorem ok_is_piece {f : Addr} {fd : FuncData} (F : Fun K "is_piece" "is_piece" s_is_piece f fd) (T : Txt K mg a) : FnOk P w K mg base CX0 1 f fd ["text"] spPiece := by
  refine F.ok sc_is_piece (fun vs H Q E h => by obtain ⟨x, rfl, _⟩ := h; rfl) (fun cdv A outer s H vs Q E hr h => ?_)
  refine ⟨_, (pss_one (ps_ret (pe_cmpR op_eq (pe_bm PySem.F.plainAttrs_str PySem.F.slot_str_strip PySem.F.type_str_strip mt_stripChars (pv 0) (pa_cons (pe_glob (v := .str abcS) rfl T.g_PICTURES ⟨_, rfl⟩) pa_nil)) pe_str (nomark _)))), ?_⟩
  obtain ⟨x, rfl, hx, k⟩ := h
  rw [← strip_plain] at k
  exact ⟨_, rfl, rfl, _, abcS, rfl, rfl, hx.line (by decide), rfl, k H (Same.refl _)⟩
abbrev s_is_film : Stmt := top 13
theorem sc_is_film : FnScope ["text"] ["text"] (defScope s_is_film) := ⟨rfl, rfl, rfl, by decide +kernel, rfl, by decide +kernel, by decide +kernel⟩
def spFilm : Sp := fun vs H Q _ => ∃ (x : Str), vs = [.str x] ∧ Tx 5000 x ∧ ∀ H', Same H H' → Q (.bl (!eS x && plain x)) H'
theorem ok_is_film {f : Addr} {fd fd1 : FuncData} (F : Fun K "is_film" "is_film" s_is_film f fd) (T : Txt K mg a) (c_is_piece : Cal P w K mg base 1 a.is_piece fd1 ["text"] spPiece) : FnOk P w K mg base CX0 2 f fd ["text"] spFilm := by
  refine F.ok sc_is_film (fun vs H Q E h => by obtain ⟨x, rfl, _⟩ := h; rfl) (fun cdv A outer s H vs Q E hr h => ?_)
  have hr_is_piece := hr
  refine ⟨_, (pss_one (ps_ret (pe_and (pe_cmpR op_gt (pe_callB call_len_str (by rfl) T.b_len PySem.boot_len (pa_cons (pv 0) pa_nil)) pe_int (nomark _)) (pe_one (pe_call c_is_piece.ok hr_is_piece rfl T.g_is_piece T.k_is_piece c_is_piece.binds .nil pass0 (pa_cons (pv 0) pa_nil)))))), ?_⟩
  obtain ⟨x, rfl, hx, k⟩ := h
  refine ⟨_, rfl, x, rfl, hx.line (by decide), ?_⟩
  refine ⟨_, _, rfl, rfl, _, rfl, ?_⟩
  have e : decide ((0 : Int) < (x.length : Nat)) = !eS x := by
    cases q : eS x with
    | true => rw [eS_iff.mp q]; rfl
    | false =>
      have : x.length ≠ 0 := fun z => by rw [eS_iff.mpr z] at q; cases q
      exact decide_eq_true (by omega)
  rw [e]
  refine ite2 (fun c => ?_) (fun c => ?_)
  · refine ⟨_, rfl, x, rfl, hx, fun H' sH => ?_⟩
    have q := k H' sH
    rw [c] at q
    exact q
  · have q := k H (Same.refl _)
    rw [b_f c] at q
    exact q
/-- a fault is raised: an error of its class, its value kept -/
def Raised (a : Ad) (j : Addr) (H : Hp) (E : XK) (f : Ft) : Prop := ∀ H' d, Same H H' → H' d = none → E (.ref (a.err f.ix)) (some d) (upd H' d (.xd [(("value" : Str), f.val j)]))
theorem raised_mono {j : Addr} {H H' : Hp} {E : XK} {f : Ft} (r : Raised a j H E f) (s : Same H H') : Raised a j H' E f := fun H2 d s2 hd => r H2 d (s.trans s2) hd
abbrev s_check_film : Stmt := top 14
theorem sc_check_film : FnScope ["film"] ["film"] (defScope s_check_film) := ⟨rfl, rfl, rfl, by decide +kernel, rfl, by decide +kernel, by decide +kernel⟩
def spChkFilm (a : Ad) : Sp := fun vs H Q E => ∃ (x : Str), vs = [.str x] ∧ Tx 5000 x ∧ (filmFt x = none → ∀ H', Same H H' → Q .non H') ∧ ∀ f, filmFt x = some f → Raised a 0 H E f
theorem ok_check_film {f : Addr} {fd fd1 fdI : FuncData} (F : Fun K "check_film" "check_film" s_check_film f fd) (T : Txt K mg a) (c_init : Cal P w K mg base 1 a.init fdI ["self", "value"] (spErrInit K)) (c_is_film : Cal P w K mg base 2 a.is_film fd1 ["text"] spFilm) :
    FnOk P w K mg base (L2.CX P w) 3 f fd ["film"] (spChkFilm a) := by
  refine F.okX sc_check_film (fun vs H Q E h => by obtain ⟨x, rfl, _⟩ := h; rfl) (fun cdv A outer s H vs Q E hr0 h => ?_)
  have hr : (Room 2 (A.deeper (envOfC "check_film" (defScope s_check_film) s.heap.objs.size f cdv))) := hr0
  have hr_is_film := hr
  refine ⟨_, (pss_one (ps_if (pt_not (pt_val (pe_call c_is_film.ok hr_is_film rfl T.g_is_film T.k_is_film c_is_film.binds .nil pass0 (pa_cons (pv 0) pa_nil)))) (pss_one (ps_raise rfl (takes_of rfl rfl rfl rfl) (pmk_oex T.e_InvalidFilm.oe T.e_InvalidFilm.iC T.e_InvalidFilm.tI c_init.ok hr c_init.binds .nil pass0 rfl T.g_InvalidFilm (pa_cons (pv 0) pa_nil)))) pss_nil)), ?_⟩
  obtain ⟨x, rfl, hx, k, e⟩ := h
  refine ⟨_, rfl, x, rfl, hx, fun H' sH => ?_⟩
  refine ⟨_, rfl, ?_⟩
  have ft : filmFt x = if !eS x && plain x then none else some (.film x) := rfl
  refine ite2 (fun c => ?_) (fun c => ?_)
  · have c' : (!eS x && plain x) = false := bn_t c
    rw [c', if_neg Bool.false_ne_true] at ft
    exact ⟨_, rfl, by show 1 ≤ 1000; decide, err_made T.e_InvalidFilm fun d hd => e _ ft H' d sH hd⟩
  · have c' : (!eS x && plain x) = true := bn_f c
    rw [c', if_pos rfl] at ft
    exact k ft H' sH
abbrev s_check_piece : Stmt := top 15
theorem sc_check_piece : FnScope ["piece"] ["piece"] (defScope s_check_piece) := ⟨rfl, rfl, rfl, by decide +kernel, rfl, by decide +kernel, by decide +kernel⟩
def spChkPiece (a : Ad) : Sp := fun vs H Q E => ∃ (x : Str), vs = [.str x] ∧ Tx 5000 x ∧ (plain x = true → ∀ H', Same H H' → Q .non H') ∧ (plain x = false → Raised a 0 H E (.piece x))
theorem ok_check_piece {f : Addr} {fd fd1 fdI : FuncData} (F : Fun K "check_piece" "check_piece" s_check_piece f fd) (T : Txt K mg a) (c_init : Cal P w K mg base 1 a.init fdI ["self", "value"] (spErrInit K)) (c_is_piece : Cal P w K mg base 1 a.is_piece fd1 ["text"] spPiece) :
    FnOk P w K mg base (L2.CX P w) 3 f fd ["piece"] (spChkPiece a) := by
  refine F.okX sc_check_piece (fun vs H Q E h => by obtain ⟨x, rfl, _⟩ := h; rfl) (fun cdv A outer s H vs Q E hr0 h => ?_)
  have hr : (Room 2 (A.deeper (envOfC "check_piece" (defScope s_check_piece) s.heap.objs.size f cdv))) := hr0
  have hr_is_piece := hr.mono (show 1 ≤ 2 by decide)
  refine ⟨_, (pss_one (ps_if (pt_not (pt_val (pe_call c_is_piece.ok hr_is_piece rfl T.g_is_piece T.k_is_piece c_is_piece.binds .nil pass0 (pa_cons (pv 0) pa_nil)))) (pss_one (ps_raise rfl (takes_of rfl rfl rfl rfl) (pmk_oex T.e_InvalidPiece.oe T.e_InvalidPiece.iC T.e_InvalidPiece.tI c_init.ok hr c_init.binds .nil pass0 rfl T.g_InvalidPiece (pa_cons (pv 0) pa_nil)))) pss_nil)), ?_⟩
  obtain ⟨x, rfl, hx, k, e⟩ := h
  refine ⟨_, rfl, x, rfl, hx, fun H' sH => ⟨_, rfl, ?_⟩⟩
  refine ite2 (fun c => ?_) (fun c => ?_)
  · have c' : plain x = false := bn_t c
    exact ⟨_, rfl, by show 1 ≤ 1000; decide, err_made T.e_InvalidPiece fun d hd => e c' H' d sH hd⟩
  · have c' : plain x = true := bn_f c
    exact k c' H' sH
abbrev s_check_rule : Stmt := top 16
theorem sc_check_rule : FnScope ["rule", "piece"] ["rule"] (defScope s_check_rule) := ⟨rfl, rfl, rfl, by decide +kernel, rfl, by decide +kernel, by decide +kernel⟩
def spChkRule (K : PySem.W.Frag) (a : Ad) : Sp := fun vs H Q E => ∃ (j : Addr) (xs : List Str), vs = [.ref j] ∧ SqT K H j (xs.map V.str) ∧ (∀ x ∈ xs, Tx 5000 x) ∧ (ruleFt xs = none → ∀ H', Same H H' → Q .non H') ∧ ∀ f, ruleFt xs = some f → Raised a j H E f
theorem ok_check_rule {f : Addr} {fd fd1 fdI : FuncData} (F : Fun K "check_rule" "check_rule" s_check_rule f fd) (T : Txt K mg a) (c_init : Cal P w K mg base 1 a.init fdI ["self", "value"] (spErrInit K)) (c_check_piece : CalX P w K mg base 3 a.check_piece fd1 ["piece"] (spChkPiece a)) :
    FnOk P w K mg base (L2.CX P w) 4 f fd ["rule"] (spChkRule K a) := by
  refine F.okX sc_check_rule (fun vs H Q E h => by obtain ⟨j, xs, rfl, _⟩ := h; rfl) (fun cdv A outer s H vs Q E hr0 h => ?_)
  have hr : (Room 2 (A.deeper (envOfC "check_rule" (defScope s_check_rule) s.heap.objs.size f cdv))) := hr0.mono (by decide)
  have hr_check_piece : (Room 3 (A.deeper (envOfC "check_rule" (defScope s_check_rule) s.heap.objs.size f cdv))) := hr0
  refine ⟨_, (pss_cons (ps_if (pt_cmpR op_ne (pe_callB call_len_seq (by rfl) T.b_len PySem.boot_len (pa_cons (pv 0) pa_nil)) pe_int (nomark _)) (pss_one (ps_raise rfl (takes_of rfl rfl rfl rfl) (pmk_oex T.e_InvalidRule.oe T.e_InvalidRule.iC T.e_InvalidRule.tI c_init.ok hr c_init.binds .nil pass0 rfl T.g_InvalidRule (pa_cons (pv 0) pa_nil)))) pss_nil)
      (pss_cons (ps_for (passes_of rfl) rfl (pi_tup (pv 0)) (pg_name (i := 1) sc_check_rule.nd rfl (Or.inl rfl))
      (pss_one (ps_expr (pe_callS c_check_piece.ok hr_check_piece rfl T.g_check_piece T.k_check_piece c_check_piece.binds (fun σ => passAt (takes_of rfl rfl rfl rfl) σ) (pa_cons (pv 1) pa_nil)))))
      (pss_one (ps_if (PW.pt (pw_or (pt_cmpR op_eq (pe_ix ix_tup (pv 0) pe_int (fun _ _ => rfl)) pe_str (nomark _)) (pw_or1 (pt_cmpR op_eq (pe_ix ix_tup (pv 0) pe_int (fun _ _ => rfl)) pe_str (nomark _))))) (pss_one (ps_raise rfl (takes_of rfl rfl rfl rfl) (pmk_oex T.e_InvalidRule.oe T.e_InvalidRule.iC T.e_InvalidRule.tI c_init.ok hr c_init.binds .nil pass0 rfl T.g_InvalidRule (pa_cons (pv 0) pa_nil)))) pss_nil)))), ?_⟩
  obtain ⟨j, xs, rfl, hj, hx, k, e⟩ := h
  refine ⟨_, rfl, j, _, rfl, .inr hj, rfl, _, rfl, ?_⟩
  rw [List.length_map]
  refine ite2 (fun c => ?_) (fun c => ?_)
  · have n4 : ¬ xs.length = 4 := fun z => by rw [z] at c; exact absurd c (by decide)
    exact ⟨_, rfl, by show 1 ≤ 1000; decide, err_made T.e_InvalidRule fun d hd => e .rule (by unfold ruleFt; rw [if_neg n4]) H d (Same.refl _) hd⟩
  · have n4 : xs.length = 4 := by
      by_cases z : xs.length = 4
      · exact z
      · exfalso
        apply c
        rw [decide_eq_false (fun y => z (by injection y with y; omega))]
        rfl
    refine ⟨_, rfl, j, rfl, ⟨_, hj⟩, for_tup (xs := xs.map V.str) (fun i σ H' => ∃ x1, σ = [some (.ref j), x1] ∧ Same H H' ∧ ∀ m v, m < i → xs[m]? = some v → (!plain v) = false) ⟨_, rfl, Same.refl _, fun m v z => absurd z (Nat.not_lt_zero _)⟩ (fun i σ H' _ q => by obtain ⟨_, _, s1, _⟩ := q; exact sameT s1 hj) ?_ ?_⟩
    · rintro i v σ H1 hv ⟨x1, rfl, s1, pl⟩
      obtain ⟨x, ex, rfl⟩ := map_at hv
      refine ⟨_, rfl, x, rfl, hx x (List.mem_of_getElem? ex), fun px H2 s2 => ?_, fun px H2 d s2 hd => ?_⟩
      · refine ⟨_, rfl, s1.trans s2, fun m v hm hw => ?_⟩
        rcases Nat.lt_succ_iff_lt_or_eq.mp hm with z | z
        · exact pl m v z hw
        · subst z
          rw [ex] at hw
          cases hw
          rw [px]
          rfl
      · have q := find_at (xs := xs) (p := fun p => !plain p) pl ex (by rw [px]; rfl)
        exact e (.piece x) (by unfold ruleFt; rw [if_pos n4, q]) H2 d (s1.trans s2) hd
    · rintro σ H1 ⟨x1, rfl, s1, pl⟩
      have q := find_no (p := fun p => !plain p) (ys := xs) fun m v hm hv => pl m v (by rw [List.length_map]; exact hm) hv
      have ft : ruleFt xs = if eS (xs.getD 0 "") || eS (xs.getD 3 "") then some .rule else none := by unfold ruleFt; rw [if_pos n4, q]
      obtain ⟨y0, y1, y2, y3, rfl⟩ := of_four n4
      have hj1 := sameT s1 hj
      refine ⟨_, rfl, j, _, 0, _, rfl, rfl, hj1, atI_nat (j := 0) rfl, rfl, _, rfl, ?_⟩
      have bad : (eS y0 || eS y3) = true → tMkO a.InvalidRule (spErrInit K) [] (tCons (tVar 0) tNil) [some (.ref j), x1] H1 fun cls d H' => E cls d H' := fun b =>
        ⟨_, rfl, by show 1 ≤ 1000; decide, err_made T.e_InvalidRule fun d hd => e .rule (by rw [ft]; exact if_pos b) H1 d s1 hd⟩
      refine ite2 (fun c => ?_) (fun c => ?_)
      · exact bad (by rw [show eS y0 = true from c]; rfl)
      · refine ⟨_, rfl, j, _, 3, _, rfl, rfl, hj1, atI_nat (j := 3) rfl, rfl, _, rfl, ?_⟩
        refine ite2 (fun c3 => ?_) (fun c3 => ?_)
        · exact bad (by rw [show eS y3 = true from c3, Bool.or_true])
        · refine k ?_ H1 s1
          rw [ft]
          refine if_neg fun z => ?_
          rcases Bool.or_eq_true _ _ ▸ z with b | b
          · exact c b
          · exact c3 b
abbrev s_stand_at : Stmt := top 22
theorem sc_stand_at : FnScope ["left", "right", "film", "cut"] ["left", "right", "film", "cut"] (defScope s_stand_at) := ⟨rfl, rfl, rfl, by decide +kernel, rfl, by decide +kernel, by decide +kernel⟩
def spStand : Sp := fun vs H Q _ => ∃ (l r x : Str) (c : Int), vs = [.str l, .str r, .str x, .int c] ∧ Tx 5000 x ∧ Q (.bl (stZ l r x c)) H
theorem ok_stand_at {f : Addr} {fd : FuncData} (F : Fun K "_stand_at" "_stand_at" s_stand_at f fd) (T : Txt K mg a) : FnOk P w K mg base CX0 1 f fd ["left", "right", "film", "cut"] spStand := by
  refine F.ok sc_stand_at (fun vs H Q E h => by obtain ⟨l, r, x, c, rfl, _⟩ := h; rfl) (fun cdv A outer s H vs Q E hr h => ?_)
  refine ⟨_, (pss_cons (ps_if (pt_not (pt_chain op_le op_le pe_int (pv 3) (pe_callB call_len_str (by rfl) T.b_len PySem.boot_len (pa_cons (pv 2) pa_nil)))) (pss_one (ps_ret pe_bl)) pss_nil)
      (pss_one (ps_ret (pe_and (pe_bm PySem.F.plainAttrs_str PySem.F.slot_str_endswith PySem.F.type_str_endswith mt_endsIn (pv 2) (pa_cons (pv 0) (pa_cons pe_int (pa_cons (pv 3) pa_nil)))) (pe_one (pe_bm PySem.F.plainAttrs_str PySem.F.slot_str_startswith PySem.F.type_str_startswith mt_startswith3 (pv 2) (pa_cons (pv 1) (pa_cons (pv 3) pa_nil)))))))), ?_⟩
  obtain ⟨l, r, x, c, rfl, hx, k⟩ := h
  refine ⟨_, rfl, _, _, rfl, rfl, _, rfl, ?_⟩
  refine ite2 (fun c1 => ?_) (fun c1 => ?_)
  · have h0 : 0 ≤ c := of_decide_eq_true c1
    refine ⟨_, rfl, x, rfl, hx.line (by decide), _, _, rfl, rfl, _, rfl, ?_⟩
    refine ite2 (fun c2 => ?_) (fun c2 => ?_)
    · have h1 : ¬ c ≤ x.length := of_decide_eq_false (bn_t c2)
      have e : stZ l r x c = false := by unfold stZ; rw [if_neg fun z => h1 z.2]
      rw [e] at k
      exact k
    · have h1 : c ≤ x.length := of_decide_eq_true (bn_f c2)
      rw [← stZ_in h0 h1] at k
      refine ⟨_, rfl, rfl, _, rfl, _, rfl, _, _, _, _, rfl, rfl, _, rfl, ?_⟩
      refine ite2 (fun c3 => ?_) (fun c3 => ?_)
      · rw [c3, Bool.true_and] at k
        exact ⟨_, rfl, rfl, _, rfl, _, rfl, _, _, _, rfl, rfl, k⟩
      · rw [b_f c3, Bool.false_and] at k
        exact k
  · have e : stZ l r x c = false := by unfold stZ; rw [if_neg fun z => c1 (decide_eq_true z.1)]
    rw [e] at k
    refine ⟨_, rfl, ?_⟩
    exact k
abbrev s_splice_of_films : Stmt := top 21
theorem sc_splice_of_films : FnScope ["rule", "film", "cut", "other", "place"] ["rule", "film", "cut", "other", "place"] (defScope s_splice_of_films) := ⟨rfl, rfl, rfl, by decide +kernel, rfl, by decide +kernel, by decide +kernel⟩
/-- a splice of what is right; xs: the rule -/
def spSpOf (K : PySem.W.Frag) (a : Ad) : Sp := fun vs H Q E => ∃ (j : Addr) (y0 y1 y2 y3 x y : Str) (c p : Int), vs = [.ref j, .str x, .int c, .str y, .int p] ∧ SqT K H j ([y0, y1, y2, y3].map V.str) ∧ Tx 2000 x ∧ Tx 2000 y ∧
  (∀ f, orFt (cutFt (stZ y0 y1 x c) c) (cutFt (stZ y2 y3 y p) p) = some f → Raised a j H E f) ∧ (orFt (cutFt (stZ y0 y1 x c) c) (cutFt (stZ y2 y3 y p) p) = none → Q (.str (splice x c y p)) H)
theorem ok_splice_of {f : Addr} {fd fd3 fdI : FuncData} (F : Fun K "splice_of_films" "splice_of_films" s_splice_of_films f fd) (T : Txt K mg a) (c_init : Cal P w K mg base 1 a.init fdI ["self", "value"] (spErrInit K))
    (c_stand_at : Cal P w K mg base 1 a.stand_at fd3 ["left", "right", "film", "cut"] spStand) : FnOk P w K mg base (L2.CX P w) 4 f fd ["rule", "film", "cut", "other", "place"] (spSpOf K a) := by
  refine F.okX sc_splice_of_films (fun vs H Q E h => by obtain ⟨j, y0, y1, y2, y3, x, y, c, p, rfl, _⟩ := h; rfl) (fun cdv A outer s H vs Q E hr0 h => ?_)
  have hr3 : (Room 3 (A.deeper (envOfC "splice_of_films" (defScope s_splice_of_films) s.heap.objs.size f cdv))) := hr0
  have hr := hr3.mono (show 2 ≤ 3 by decide)
  have hr_stand_at := hr3.mono (show 1 ≤ 3 by decide)
  refine ⟨_, (pss_cons (ps_if (pt_not (pt_val (pe_call c_stand_at.ok hr_stand_at rfl T.g_stand_at T.k_stand_at c_stand_at.binds .nil pass0 (pa_cons (pe_ix ix_tup (pv 0) pe_int (fun _ _ => rfl)) (pa_cons (pe_ix ix_tup (pv 0) pe_int (fun _ _ => rfl)) (pa_cons (pv 1) (pa_cons (pv 2) pa_nil))))))) (pss_one (ps_raise rfl (takes_of rfl rfl rfl rfl) (pmk_oex T.e_NoSplice.oe T.e_NoSplice.iC T.e_NoSplice.tI c_init.ok hr c_init.binds .nil pass0 rfl T.g_NoSplice (pa_cons (pv 2) pa_nil)))) pss_nil)
      (pss_cons (ps_if (pt_not (pt_val (pe_call c_stand_at.ok hr_stand_at rfl T.g_stand_at T.k_stand_at c_stand_at.binds .nil pass0 (pa_cons (pe_ix ix_tup (pv 0) pe_int (fun _ _ => rfl)) (pa_cons (pe_ix ix_tup (pv 0) pe_int (fun _ _ => rfl)) (pa_cons (pv 3) (pa_cons (pv 4) pa_nil))))))) (pss_one (ps_raise rfl (takes_of rfl rfl rfl rfl) (pmk_oex T.e_NoSplice.oe T.e_NoSplice.iC T.e_NoSplice.tI c_init.ok hr c_init.binds .nil pass0 rfl T.g_NoSplice (pa_cons (pv 4) pa_nil)))) pss_nil)
      (pss_one (ps_ret (pe_op op_add_str (pe_slice sl_str (pv 1) po_none (po_some (pv 2))) (pe_slice sl_str (pv 3) (po_some (pv 4)) po_none)))))), ?_⟩
  obtain ⟨j, y0, y1, y2, y3, x, y, c, p, rfl, hj3, hx, hy, er, k⟩ := h
  have hx5 := hx.mono (show 2000 ≤ 5000 by decide)
  have hy5 := hy.mono (show 2000 ≤ 5000 by decide)
  refine ⟨_, rfl, j, _, 0, _, rfl, rfl, hj3, atI_nat (j := 0) rfl, _, rfl, j, _, 1, _, rfl, rfl, hj3, atI_nat (j := 1) rfl, _, rfl, _, rfl, y0, y1, x, c, rfl, hx5, _, rfl, ?_⟩
  refine ite2 (fun c1 => ?_) (fun c1 => ?_)
  · have e1 : cutFt (stZ y0 y1 x c) c = some (.num 6 c) := by rw [bn_t c1]; rfl
    rw [e1, or_some] at er
    exact ⟨_, rfl, by show 1 ≤ 1000; decide, err_made T.e_NoSplice fun d hd => er _ rfl H d (Same.refl _) hd⟩
  · have e1 : cutFt (stZ y0 y1 x c) c = none := by rw [bn_f c1]; rfl
    rw [e1, or_none] at er k
    refine ⟨_, rfl, j, _, 2, _, rfl, rfl, hj3, atI_nat (j := 2) rfl, _, rfl, j, _, 3, _, rfl, rfl, hj3, atI_nat (j := 3) rfl, _, rfl, _, rfl, y2, y3, y, p, rfl, hy5, _, rfl, ?_⟩
    refine ite2 (fun c2 => ?_) (fun c2 => ?_)
    · have e2 : cutFt (stZ y2 y3 y p) p = some (.num 6 p) := by rw [bn_t c2]; rfl
      exact ⟨_, rfl, by show 1 ≤ 1000; decide, err_made T.e_NoSplice fun d hd => er _ e2 H d (Same.refl _) hd⟩
    · have e2 : cutFt (stZ y2 y3 y p) p = none := by rw [bn_f c2]; rfl
      have l1 := cutS_length x none (some c)
      have l2 := cutS_length y (some p) none
      have xl := hx.len
      have yl := hy.len
      exact ⟨_, rfl, _, rfl, _, rfl, x, rfl, hx.line (by decide), _, rfl, _, rfl, _, rfl, y, rfl, hy.line (by decide), _, _, rfl, rfl, small_line (by omega), k e2⟩
abbrev s_Workings___init__ : Stmt := inClass (top 18) 0
theorem sc_Workings___init__ : FnScope ["self", "strips", "rules"] ["self", "strips", "rules"] (defScope s_Workings___init__) := ⟨rfl, rfl, rfl, by decide +kernel, rfl, by decide +kernel, by decide +kernel⟩
/-- Workings(strips, rules) fills the new object at m: nothing is worked out yet -/
def spWkInit (K : PySem.W.Frag) (a : Ad) : Sp := fun vs H Q _ => ∃ (m dx : Addr) (x y : V), vs = [.ref m, x, y] ∧ H m = some (.ins a.Workings dx []) ∧ Q .non (upd H m (.ins a.Workings dx (wkF x y)))
theorem ok_wk_init {f : Addr} {fd : FuncData} (F : Fun K "__init__" "Workings.__init__" s_Workings___init__ f fd) (T : Txt K mg a) : FnOk P w K mg base CX0 1 f fd ["self", "strips", "rules"] (spWkInit K a) := by
  refine F.ok sc_Workings___init__ (fun vs H Q E h => by obtain ⟨m, dx, x, y, rfl, _⟩ := h; rfl) (fun cdv A outer s H vs Q E hr h => ?_)
  refine ⟨_, (pss_cons (ps_fld (pv 0) (pv 1) rfl)
      (pss_cons (ps_fld (pv 0) (pv 2) rfl)
      (pss_cons (ps_fld (pv 0) pe_non rfl)
      (pss_cons (ps_fld (pv 0) pe_non rfl)
      (pss_cons (ps_fld (pv 0) pe_non rfl)
      (pss_cons (ps_fld (pv 0) pe_non rfl)
      (pss_cons (ps_fld (pv 0) pe_non rfl)
      (pss_one (ps_fld (pv 0) pe_non rfl))))))))), ?_⟩
  obtain ⟨m, dx, x, y, rfl, hm, k⟩ := h
  refine ⟨_, rfl, _, rfl, m, a.Workings, dx, _, rfl, hm, T.c_Workings, T.n_Workings_strips, by decide, ?_⟩
  refine ⟨_, rfl, _, rfl, m, a.Workings, dx, _, rfl, upd_same, T.c_Workings, T.n_Workings_rules, (by show (1 : Nat) < 1000; decide), ?_⟩
  refine ⟨_, rfl, m, a.Workings, dx, _, rfl, upd_same, T.c_Workings, T.n_Workings_web, (by show (2 : Nat) < 1000; decide), ?_⟩
  refine ⟨_, rfl, m, a.Workings, dx, _, rfl, upd_same, T.c_Workings, T.n_Workings_table, (by show (3 : Nat) < 1000; decide), ?_⟩
  refine ⟨_, rfl, m, a.Workings, dx, _, rfl, upd_same, T.c_Workings, T.n_Workings_net, (by show (4 : Nat) < 1000; decide), ?_⟩
  refine ⟨_, rfl, m, a.Workings, dx, _, rfl, upd_same, T.c_Workings, T.n_Workings_routes, (by show (5 : Nat) < 1000; decide), ?_⟩
  refine ⟨_, rfl, m, a.Workings, dx, _, rfl, upd_same, T.c_Workings, T.n_Workings_parts, (by show (6 : Nat) < 1000; decide), ?_⟩
  refine ⟨_, rfl, m, a.Workings, dx, _, rfl, upd_same, T.c_Workings, T.n_Workings_lots, (by show (7 : Nat) < 1000; decide), ?_⟩
  rw [upd_upd, upd_upd, upd_upd, upd_upd, upd_upd, upd_upd, upd_upd]
  exact k
abbrev s_Box___init__ : Stmt := inClass (top 20) 0
theorem sc_Box___init__ : FnScope ["self", "strips", "rules", "strip", "rule"] ["self", "strips", "rules"] (defScope s_Box___init__) := ⟨rfl, rfl, rfl, by decide +kernel, rfl, by decide +kernel, by decide +kernel⟩
/-- Box(strips, rules) fills the new object at m -/
def spBoxInit (K : PySem.W.Frag) (a : Ad) : Sp := fun vs H Q E => ∃ (m dx p g : Addr) (ws : List Str) (js : List (Addr × List Str)), vs = [.ref m, .ref p, .ref g] ∧ H m = some (.ins a.Box dx []) ∧ Rd H p (.lst (ws.map V.str)) ∧ (∀ x ∈ ws, Tx 5000 x) ∧ Rd H g (.lst (js.map fun j => V.ref j.1)) ∧
  (∀ j ∈ js, SqT K H j.1 (j.2.map V.str) ∧ ∀ x ∈ j.2, Tx 5000 x) ∧ (∀ j xs f, boxFt ws js = some (j, xs, f) → Raised a j H E f) ∧
  (boxFt ws js = none → ∀ H' s r k dk, H s = none → H r = none → H k = none → Kp m H H' → H' m = some (.ins a.Box dx (bxF s r k)) → H' s = some (.lst (ws.map V.str)) → H' r = some (.lst (js.map fun j => V.ref j.1)) → H' k = some (.ins a.Workings dk (wkF (.ref s) (.ref r))) → Q .non H')
theorem ok_box_init {f : Addr} {fd fd1 fd2 fd3 : FuncData} (F : Fun K "__init__" "Box.__init__" s_Box___init__ f fd) (T : Txt K mg a) (c_check_rule : CalX P w K mg base 4 a.check_rule fd1 ["rule"] (spChkRule K a)) (c_check_film : CalX P w K mg base 3 a.check_film fd2 ["film"] (spChkFilm a)) (c_Workings___init__ : Cal P w K mg base 1 a.Workings___init__ fd3 ["self", "strips", "rules"] (spWkInit K a)) :
    FnOk P w K mg base (L2.CX P w) 5 f fd ["self", "strips", "rules"] (spBoxInit K a) := by
  refine F.okX sc_Box___init__ (fun vs H Q E h => by obtain ⟨m, dx, p, g, ws, js, rfl, _⟩ := h; rfl) (fun cdv A outer s H vs Q E hr0 h => ?_)
  have hr_check_rule : (Room 4 (A.deeper (envOfC "Box.__init__" (defScope s_Box___init__) s.heap.objs.size f cdv))) := hr0
  have hr_check_film := hr_check_rule.mono (show 3 ≤ 4 by decide)
  have hr_Workings___init__ := hr_check_rule.mono (show 2 ≤ 4 by decide)
  refine ⟨_, (pss_cons (ps_for (passes_of rfl) rfl (pi_list (pv 1)) (pg_name (i := 3) sc_Box___init__.nd rfl (Or.inl rfl))
      (pss_one (ps_expr (pe_callS c_check_film.ok hr_check_film rfl T.g_check_film T.k_check_film c_check_film.binds (fun σ => passAt (takes_of rfl rfl rfl rfl) σ) (pa_cons (pv 3) pa_nil)))))
      (pss_cons (ps_for (passes_of rfl) rfl (pi_list (pv 2)) (pg_name (i := 4) sc_Box___init__.nd rfl (Or.inl rfl))
      (pss_one (ps_expr (pe_callS c_check_rule.ok hr_check_rule rfl T.g_check_rule T.k_check_rule c_check_rule.binds (fun σ => passAt (takes_of rfl rfl rfl rfl) σ) (pa_cons (pv 4) pa_nil)))))
      (pss_cons (ps_fld (pv 0) (pe_callTy call_list_of (by rfl) T.b_list (by decide +kernel) (pa_cons (pv 1) pa_nil)) rfl)
      (pss_cons (ps_fld (pv 0) (pe_callTy call_list_of (by rfl) T.b_list (by decide +kernel) (pa_cons (pv 2) pa_nil)) rfl)
      (pss_one (ps_fld (pv 0) (pe_make T.m_Workings c_Workings___init__.ok hr_Workings___init__ rfl T.g_Workings c_Workings___init__.binds .nil pass0 (pa_cons (pe_fld (pv 0) rfl) (pa_cons (pe_fld (pv 0) rfl) pa_nil))) rfl)))))), ?_⟩
  obtain ⟨m, dx, p, g, ws, js, rfl, hm, hp, hw, hg, hj, er, k⟩ := h
  have nxt1 : ∀ i (w : Str), ws[i]? = some w → (∀ m v, m < i → ws[m]? = some v → filmFt v = none) → ∀ f, filmFt w = some f → boxFt ws js = some (0, [], f) := fun i w e pl f hf => by
    have q := some_at pl e hf
    unfold boxFt
    rw [q]
  refine ⟨_, rfl, p, rfl, ⟨_, .inl hp⟩, for_list (xs := ws.map V.str) (fun i σ H' => ∃ x3 x4, σ = [some (.ref m), some (.ref p), some (.ref g), x3, x4] ∧ Same H H' ∧ ∀ m v, m < i → ws[m]? = some v → filmFt v = none) ⟨_, _, rfl, Same.refl _, fun m v z => absurd z (Nat.not_lt_zero _)⟩ (fun i σ H' _ q => by obtain ⟨_, _, _, s1, _⟩ := q; exact sameL s1 (.inl hp)) ?_ ?_⟩
  · rintro i v σ H1 hv ⟨x3, x4, rfl, s1, pl⟩
    obtain ⟨x, ex, rfl⟩ := map_at hv
    refine ⟨_, rfl, x, rfl, hw x (List.mem_of_getElem? ex), fun px H2 s2 => ?_, fun f hf H2 d s2 hd => ?_⟩
    · refine ⟨_, _, rfl, s1.trans s2, fun m v hm hw => ?_⟩
      rcases Nat.lt_succ_iff_lt_or_eq.mp hm with z | z
      · exact pl m v z hw
      · subst z
        rw [ex] at hw
        cases hw
        exact px
    · exact er 0 [] f (nxt1 i x ex pl f hf) H2 d (s1.trans s2) hd
  · rintro σ H1 ⟨x3, x4, rfl, s1, pl⟩
    have q := some_no (p := filmFt) (ys := ws) fun m v hm hv => pl m v (by rw [List.length_map]; exact hm) hv
    have bf : boxFt ws js = js.findSome? fun j => (ruleFt j.2).map fun f => (j.1, j.2, f) := by unfold boxFt; rw [q]
    refine ⟨_, rfl, g, rfl, ⟨_, sameL s1 (.inl hg)⟩, for_list (xs := js.map fun j => V.ref j.1) (fun i σ H' => ∃ x3 x4, σ = [some (.ref m), some (.ref p), some (.ref g), x3, x4] ∧ Same H H' ∧ ∀ m v, m < i → js[m]? = some v → ((ruleFt v.2).map fun f => (v.1, v.2, f)) = none) ⟨_, _, rfl, s1, fun m v z => absurd z (Nat.not_lt_zero _)⟩ (fun i σ H' _ q => by obtain ⟨_, _, _, s1, _⟩ := q; exact sameL s1 (.inl hg)) ?_ ?_⟩
    · rintro i v σ H2 hv ⟨x5, x6, rfl, s2, pj⟩
      obtain ⟨j, ej, rfl⟩ := map_at hv
      obtain ⟨hj1, hx⟩ := hj j (List.mem_of_getElem? ej)
      refine ⟨_, rfl, j.1, j.2, rfl, sameT s2 hj1, hx, fun pr H3 s3 => ?_, fun f hf H3 d s3 hd => ?_⟩
      · refine ⟨_, _, rfl, s2.trans s3, fun m v hm hw => ?_⟩
        rcases Nat.lt_succ_iff_lt_or_eq.mp hm with z | z
        · exact pj m v z hw
        · subst z
          rw [ej] at hw
          cases hw
          rw [pr]
          rfl
      · have q2 := some_at pj ej (b := (j.1, j.2, f)) (by rw [hf]; rfl)
        exact er j.1 j.2 f (by rw [bf, q2]) H3 d (s2.trans s3) hd
    · rintro σ H2 ⟨x5, x6, rfl, s2, pj⟩
      have q2 := some_no (p := fun j : Addr × List Str => (ruleFt j.2).map fun f => (j.1, j.2, f)) (ys := js) fun m v hm hv => pj m v (by rw [List.length_map]; exact hm) hv
      rw [q2] at bf
      have hm2 : H2 m = some (.ins a.Box dx []) := s2 m _ hm
      refine ⟨_, rfl, p, _, rfl, .inl (sameL s2 (.inl hp)), fun l hl => ?_⟩
      have nl : l ≠ m := (ne_of_none hm2 hl).symm
      refine ⟨_, rfl, m, a.Box, dx, _, rfl, upd_old hm2 hl, T.c_Box, T.n_Box_strips, by decide, ?_⟩
      have hg3 : SqL K (upd (upd H2 l (.lst (ws.map V.str))) m (.ins a.Box dx (putF "_strips" (.ref l) []))) g (js.map fun j => V.ref j.1) := by
        refine .inl (rd_kp (a := m) (rd_mono (rd_mono hg s2) (same_new (Same.refl _) hl)) (fun b o nb h => by rw [upd_ne nb]; exact h) ?_)
        rintro rfl
        exact rd_ins hg hm
      refine ⟨_, rfl, g, _, rfl, .inl hg3, fun r hr1 => ?_⟩
      obtain ⟨hr2, nrm⟩ := free_old' hr1
      obtain ⟨hr3, nrl⟩ := free_old hr2
      refine ⟨_, rfl, m, a.Box, dx, _, rfl, upd_old upd_same hr1, T.c_Box, T.n_Box_rules, (by show (1 : Nat) < 1000; decide), ?_⟩
      -- the workings: a new object
      have hm5 : upd (upd (upd (upd H2 l (.lst (ws.map V.str))) m (.ins a.Box dx (putF "_strips" (.ref l) []))) r (.lst (js.map fun j => V.ref j.1))) m (.ins a.Box dx (putF "_rules" (.ref r) (putF "_strips" (.ref l) []))) m = some (.ins a.Box dx (putF "_rules" (.ref r) (putF "_strips" (.ref l) []))) := upd_same
      refine ⟨_, rfl, m, a.Box, dx, _, _, rfl, hm5, T.c_Box, T.n_Box_strips, rfl, _, rfl, m, a.Box, dx, _, _, rfl, hm5, T.c_Box, T.n_Box_rules, rfl, ?_⟩
      intro y dk hy hd nd
      obtain ⟨hy1, nym⟩ := free_old' hy
      obtain ⟨hy2, nyr⟩ := free_old hy1
      obtain ⟨hy3, _⟩ := free_old' hy2
      obtain ⟨hy4, nyl⟩ := free_old hy3
      obtain ⟨hd1, ndm⟩ := free_old' hd
      obtain ⟨hd2, ndr⟩ := free_old hd1
      obtain ⟨hd3, _⟩ := free_old' hd2
      obtain ⟨hd4, ndl⟩ := free_old hd3
      refine ⟨y, dk, _, _, rfl, upd_same, rfl, ?_⟩
      refine ⟨_, rfl, m, a.Box, dx, putF "_rules" (.ref r) (putF "_strips" (.ref l) []), rfl, ?_, T.c_Box, T.n_Box_workings, (by show (2 : Nat) < 1000; decide), ?_⟩
      · rw [upd_ne nym.symm, upd_ne nym.symm, upd_ne ndm.symm]
        exact upd_same
      refine k bf _ l r y dk (same_none s2 hl) (same_none s2 hr3) (same_none s2 hy4) ?_ upd_same ?_ ?_ ?_
      · intro b o nb h
        have h2 := s2 b o h
        rw [upd_ne nb, upd_ne (ne_of_none h2 hy4), upd_ne (ne_of_none h2 hy4), upd_ne (ne_of_none h2 hd4), upd_ne nb, upd_ne (ne_of_none h2 hr3), upd_ne nb]
        exact upd_old h2 hl
      · rw [upd_ne nl, upd_ne nyl.symm, upd_ne nyl.symm, upd_ne ndl.symm, upd_ne nl, upd_ne nrl.symm, upd_ne nl]
        exact upd_same
      · rw [upd_ne nrm, upd_ne nyr.symm, upd_ne nyr.symm, upd_ne ndr.symm, upd_ne nrm]
        exact upd_same
      · rw [upd_ne nym]
        exact upd_same
/-- the box at m, as it stands: never asked for more than it was told -/
def BoxAt (K : PySem.W.Frag) (a : Ad) (H : Hp) (m : Addr) (ws : List Str) (js : Js) : Prop := ∃ dx s r k dk, H m = some (.ins a.Box dx (bxF s r k)) ∧ H s = some (.lst (ws.map V.str)) ∧ H r = some (.lst (refs js)) ∧ JsAt K H js ∧ H k = some (.ins a.Workings dk (wkF (.ref s) (.ref r)))
theorem BoxAt.mono {G H : Hp} {m : Addr} {ws : List Str} {js : Js} (h : BoxAt K a G m ws js) (s : Same G H) : BoxAt K a H m ws js := by
  obtain ⟨dx, x, r, k, dk, h1, h2, h3, h4, h5⟩ := h
  exact ⟨dx, x, r, k, dk, s _ _ h1, s _ _ h2, s _ _ h3, h4.mono s, s _ _ h5⟩
theorem BoxAt.ins {H : Hp} {m : Addr} {ws : List Str} {js : Js} (h : BoxAt K a H m ws js) : ∃ dx fs, H m = some (.ins a.Box dx fs) := let ⟨dx, _, _, _, _, e, _⟩ := h; ⟨dx, _, e⟩
theorem BoxAt.js {H : Hp} {m : Addr} {ws : List Str} {js : Js} (h : BoxAt K a H m ws js) : JsAt K H js := let ⟨_, _, _, _, _, _, _, _, e, _⟩ := h; e
/-- a new box, or the error of the first thing that is wrong -/
theorem box_make {M : Addr → Prop} {G H : Hp} {p g : Addr} {ws : List Str} {js : Js} {R : Hp → Prop} {E : XK} {x dx : Addr} (hx : H x = none) (hd : H dx = none) (nd : dx ≠ x) (sg : Same G H) (hp : Rd H p (.lst (ws.map V.str))) (hg : Rd H g (.lst (refs js))) (hj : JsAt K G js)
    (hw : ∀ x ∈ ws, Tx 5000 x) (hjx : ∀ j ∈ js, ∀ x ∈ j.2, Tx 5000 x) (er : ∀ j xs f, boxFt ws js = some (j, xs, f) → Raised a j H E f)
    (k : boxFt ws js = none → ∀ G' H', Ext M G H G' H' → BoxAt K a G' x ws js → R H') : spBoxInit K a [.ref x, .ref p, .ref g] (upd (upd H dx (.own x)) x (.ins a.Box dx [])) (fun v H2 => v = .non ∧ R H2) E := by
  have hx' : upd H dx (.own x) x = none := by rw [upd_ne nd.symm]; exact hx
  have s1 : Same H (upd (upd H dx (.own x)) x (.ins a.Box dx [])) := same_new (same_new (Same.refl _) hd) hx'
  refine ⟨x, dx, p, g, ws, js, rfl, upd_same, rd_mono hp s1, hw, rd_mono hg s1, fun j h => ⟨sameT (sg.trans s1) (hj j h), hjx j h⟩, fun j xs f h => raised_mono (er j xs f h) s1, fun bf H' s r k' dk hs hr hk kp e1 e2 e3 e4 => ⟨rfl, ?_⟩⟩
  obtain ⟨hs1, nsx⟩ := free_old' hs
  obtain ⟨hs2, nsd⟩ := free_old hs1
  obtain ⟨hr1, nrx⟩ := free_old' hr
  obtain ⟨hr2, nrd⟩ := free_old hr1
  obtain ⟨hk1, nkx⟩ := free_old' hk
  obtain ⟨hk2, nkd⟩ := free_old hk1
  refine k bf (grow G H H') H' ?_ ⟨dx, s, r, k', dk, grow_at hx e1, grow_at hs2 e2, grow_at hr2 e3, hj.mono (grow_le sg), grow_at hk2 e4⟩
  have sh : Same H H' := fun b o h => kp b o (ne_of_none h hx) (s1 b o h)
  exact (Ext.refl sg).grown sh
/-- a new box of right strips and rules -/
theorem box_made {M : Addr → Prop} {n : Nat} {G H : Hp} {p g : Addr} {ws : List Str} {js : Js} {R : Hp → Prop} {E : XK} {x dx : Addr} (hx : H x = none) (hd : H dx = none) (nd : dx ≠ x) (sg : Same G H) (hp : Rd H p (.lst (ws.map V.str))) (hg : Rd H g (.lst (refs js))) (hj : JsAt K G js) (rt : Rt n ws js)
    (k : ∀ G' H', Ext M G H G' H' → BoxAt K a G' x ws js → R H') : spBoxInit K a [.ref x, .ref p, .ref g] (upd (upd H dx (.own x)) x (.ins a.Box dx [])) (fun v H2 => v = .non ∧ R H2) E :=
  box_make hx hd nd sg hp hg hj rt.txs (fun j h => (rt.jd j h).txs) (fun j xs f h => by rw [rt.box] at h; cases h) fun _ => k
abbrev s_Box_strips : Stmt := inClass (top 20) 1
theorem sc_Box_strips : FnScope ["self"] ["self"] (defScope s_Box_strips) := ⟨rfl, rfl, rfl, by decide +kernel, rfl, by decide +kernel, by decide +kernel⟩
def spBoxStrips (K : PySem.W.Frag) (a : Ad) : Sp := fun vs H Q _ => ∃ (m : Addr) (ws : List Str) (js : Js), vs = [.ref m] ∧ BoxAt K a H m ws js ∧ ∀ p, H p = none → Q (.ref p) (upd H p (.lst (ws.map V.str)))
theorem ok_box_strips {f : Addr} {fd : FuncData} (F : Fun K "strips" "Box.strips" s_Box_strips f fd) (T : Txt K mg a) : FnOk P w K mg base CX0 1 f fd ["self"] (spBoxStrips K a) := by
  refine F.ok sc_Box_strips (fun vs H Q E h => by obtain ⟨m, ws, js, rfl, _⟩ := h; rfl) (fun cdv A outer s H vs Q E hr h => ?_)
  refine ⟨_, (pss_one (ps_ret (pe_callTy call_list_of (by rfl) T.b_list (by decide +kernel) (pa_cons (pe_fld (pv 0) rfl) pa_nil)))), ?_⟩
  obtain ⟨m, ws, js, rfl, ⟨dx, x, r, _, _, h1, h2, h3, h4, _⟩, k⟩ := h
  exact ⟨_, rfl, m, a.Box, dx, _, _, rfl, h1, T.c_Box, T.n_Box_strips, rfl, x, _, rfl, .inl (SqL.of h2), k⟩
abbrev s_Box_rules : Stmt := inClass (top 20) 2
theorem sc_Box_rules : FnScope ["self"] ["self"] (defScope s_Box_rules) := ⟨rfl, rfl, rfl, by decide +kernel, rfl, by decide +kernel, by decide +kernel⟩
def spBoxRules (K : PySem.W.Frag) (a : Ad) : Sp := fun vs H Q _ => ∃ (m : Addr) (ws : List Str) (js : Js), vs = [.ref m] ∧ BoxAt K a H m ws js ∧ ∀ p, H p = none → Q (.ref p) (upd H p (.lst (refs js)))
theorem ok_box_rules {f : Addr} {fd : FuncData} (F : Fun K "rules" "Box.rules" s_Box_rules f fd) (T : Txt K mg a) : FnOk P w K mg base CX0 1 f fd ["self"] (spBoxRules K a) := by
  refine F.ok sc_Box_rules (fun vs H Q E h => by obtain ⟨m, ws, js, rfl, _⟩ := h; rfl) (fun cdv A outer s H vs Q E hr h => ?_)
  refine ⟨_, (pss_one (ps_ret (pe_callTy call_list_of (by rfl) T.b_list (by decide +kernel) (pa_cons (pe_fld (pv 0) rfl) pa_nil)))), ?_⟩
  obtain ⟨m, ws, js, rfl, ⟨dx, x, r, _, _, h1, h2, h3, h4, _⟩, k⟩ := h
  exact ⟨_, rfl, m, a.Box, dx, _, _, rfl, h1, T.c_Box, T.n_Box_rules, rfl, r, _, rfl, .inl (SqL.of h3), k⟩
abbrev s_Box___len__ : Stmt := inClass (top 20) 10
theorem sc_Box___len__ : FnScope ["self"] ["self"] (defScope s_Box___len__) := ⟨rfl, rfl, rfl, by decide +kernel, rfl, by decide +kernel, by decide +kernel⟩
def spBoxLen (K : PySem.W.Frag) (a : Ad) : Sp := fun vs H Q _ => ∃ (m : Addr) (ws : List Str) (js : Js), vs = [.ref m] ∧ BoxAt K a H m ws js ∧ Q (.int js.length) H
theorem ok_box_len {f : Addr} {fd : FuncData} (F : Fun K "__len__" "Box.__len__" s_Box___len__ f fd) (T : Txt K mg a) : FnOk P w K mg base CX0 1 f fd ["self"] (spBoxLen K a) := by
  refine F.ok sc_Box___len__ (fun vs H Q E h => by obtain ⟨m, ws, js, rfl, _⟩ := h; rfl) (fun cdv A outer s H vs Q E hr h => ?_)
  refine ⟨_, (pss_one (ps_ret (pe_callB call_len_seq (by rfl) T.b_len PySem.boot_len (pa_cons (pe_fld (pv 0) rfl) pa_nil)))), ?_⟩
  obtain ⟨m, ws, js, rfl, ⟨dx, x, r, _, _, h1, h2, h3, h4, _⟩, k⟩ := h
  refine ⟨_, rfl, m, a.Box, dx, _, _, rfl, h1, T.c_Box, T.n_Box_rules, rfl, r, _, rfl, .inl (SqL.of h3), ?_⟩
  have : (refs js).length = js.length := List.length_map ..
  rw [this]
  exact k
abbrev s_Box___eq__ : Stmt := inClass (top 20) 11
theorem sc_Box___eq__ : FnScope ["self", "other"] ["self", "other"] (defScope s_Box___eq__) := ⟨rfl, rfl, rfl, by decide +kernel, rfl, by decide +kernel, by decide +kernel⟩
/-- a box and anything: equal to what holds the same alone -/
def spBoxEq (K : PySem.W.Frag) (a : Ad) : Sp := fun vs H Q _ => ∃ (m : Addr) (y : V) (ws : List Str) (js : Js), vs = [.ref m, y] ∧ BoxAt K a H m ws js ∧ Any5 ws js ∧
  ((∃ (m2 : Addr) (vs2 : List Str) (ks : Js), y = .ref m2 ∧ BoxAt K a H m2 vs2 ks ∧ Any5 vs2 ks ∧ ∀ H', Same H H' → Q (.bl (eqB ws vs2 js ks)) H') ∨ (∃ t, TyX K H y t ∧ PySem.W.kitOne K t (.ref a.Box) = some false ∧ Q (.bl false) H))
theorem ok_box_eq {f : Addr} {fd : FuncData} (F : Fun K "__eq__" "Box.__eq__" s_Box___eq__ f fd) (T : Txt K mg a) : FnOk P w K mg base CX0 1 f fd ["self", "other"] (spBoxEq K a) := by
  refine F.ok sc_Box___eq__ (fun vs H Q E h => by obtain ⟨m, y, ws, js, rfl, _⟩ := h; rfl) (fun cdv A outer s H vs Q E hr h => ?_)
  refine ⟨_, (pss_one (ps_ret (pe_and (pe_callB call_isi (by rfl) T.b_isinstance (by decide +kernel) (pa_cons (pv 1) (pa_cons (pe_glob (v := .ref a.Box) rfl T.g_Box rfl) pa_nil))) (pe_and (pe_cmpR (op_eqD hr.units) (pe_fld (pv 0) rfl) (pe_fld (pv 1) rfl) (nomark _)) (pe_one (pe_cmpR (op_eqD hr.units) (pe_fld (pv 0) rfl) (pe_fld (pv 1) rfl) (nomark _))))))), ?_⟩
  obtain ⟨m, y, ws, js, rfl, bx, a5, h⟩ := h
  rcases h with ⟨m2, vs2, ks, rfl, by2, b5, k⟩ | ⟨t, ty, no, k⟩
  · obtain ⟨dx, q, r, _, _, h1, h2, h3, h4, _⟩ := bx
    obtain ⟨dy, q2, r2, _, _, g1, g2, g3, g4, _⟩ := by2
    refine ⟨_, rfl, _, _, _, _, true, rfl, .own _, .base (.ins g1 T.c_Box T.kl_Box T.spO T.tkO T.ob_Box), T.ki_Box, _, rfl, ?_⟩
    refine ite2 (fun _ => ?_) (fun z => absurd rfl z)
    refine ⟨_, rfl, m, a.Box, dx, _, _, rfl, h1, T.c_Box, T.n_Box_strips, rfl, _, rfl, m2, a.Box, dy, _, _, rfl, g1, T.c_Box, T.n_Box_strips, rfl, _, _, dp_w (SqL.of h2), dp_w (SqL.of g2), shaped_strs a5.w, shaped_strs b5.w, _, rfl, ?_⟩
    rw [eqv_w]
    refine ite2 (fun c => ?_) (fun c => ?_)
    · refine ⟨_, rfl, m, a.Box, dx, _, _, rfl, h1, T.c_Box, T.n_Box_rules, rfl, _, rfl, m2, a.Box, dy, _, _, rfl, g1, T.c_Box, T.n_Box_rules, rfl, _, _, dp_j (SqL.of h3) h4, dp_j (SqL.of g3) g4, shaped_j a5.j, shaped_j b5.j, ?_⟩
      rw [eqv_j]
      have := k H (Same.refl _)
      unfold eqB at this
      rw [c, Bool.true_and] at this
      exact this
    · have := k H (Same.refl _)
      unfold eqB at this
      rw [Bool.eq_false_iff.mpr c, Bool.false_and] at this
      exact this
  · refine ⟨_, rfl, _, _, _, _, _, rfl, .own a.Box, ty, no, _, rfl, ?_⟩
    exact iteF k
end
end K52

namespace K52
open PySem PySem.Spec PyProof.Rows L2 Sf
section
variable {P : Program} {w : World} {K : PySem.W.Frag} {mg : Str → Option Value} {base : Heap} {a : Ad}
abbrev s_coin : Stmt := top 26
theorem sc_coin : FnScope ["purse", "many", "drawn", "stirred"] ["purse", "many"] (defScope s_coin) := ⟨rfl, rfl, rfl, by decide +kernel, rfl, by decide +kernel, by decide +kernel⟩
theorem ok_coin {f : Addr} {fd : FuncData} (F : Fun K "_law_coin" "_law_coin" s_coin f fd) (T : Txt K mg a) : FnOk P w K mg base CX0 1 f fd ["purse", "many"] spCoin := by
  refine F.ok sc_coin (fun vs H Q E h => by obtain ⟨a, n, m, rfl, _⟩ := h; rfl) (fun cdv A outer s H vs Q E hr h => ?_)
  refine ⟨_, (pss_cons (ps_if (pt_cmpR op_gt (pe_ix ix_list (pv 0) pe_int (fun _ _ => rfl)) pe_int (nomark _)) (pss_cons (ps_set (i := 2) sc_coin.nd rfl (Or.inl rfl) (pe_op op_mod (pe_callTy call_int1 (by rfl) T.b_int (by decide +kernel) (pa_cons (pe_ix ix_list (pv 0) pe_int (fun _ _ => rfl)) pa_nil)) (pv 1)))
      (pss_cons (ps_asg (pe_op op_fdivW (pe_ix ix_list (pv 0) pe_int (fun _ _ => rfl)) (pv 1)) (pg_sub (pv 0) pe_int set_list))
      (pss_one (ps_ret (pv 2))))) pss_nil)
      (pss_cons (ps_asg (pe_op op_add (pe_ix ix_list (pv 0) pe_int (fun _ _ => rfl)) pe_int) (pg_sub (pv 0) pe_int set_list))
      (pss_cons (ps_set (i := 3) sc_coin.nd rfl (Or.inl rfl) (pe_op op_mod (pe_op op_powX (pe_callTy call_int1 (by rfl) T.b_int (by decide +kernel) (pa_cons (pe_op op_add (pe_ix ix_list (pv 0) pe_int (fun _ _ => rfl)) (pe_op op_mulX pe_int (pe_ix ix_list (pv 0) pe_int (fun _ _ => rfl)))) pa_nil)) pe_int) (pe_op op_add (pe_op op_powX pe_int pe_int) pe_int)))
      (pss_cons (ps_set (i := 3) sc_coin.nd rfl (Or.inl rfl) (pe_op op_mod (pe_op op_powX (pe_callTy call_int1 (by rfl) T.b_int (by decide +kernel) (pa_cons (pe_op op_add (pv 3) (pe_op op_mulX pe_int (pe_ix ix_list (pv 0) pe_int (fun _ _ => rfl)))) pa_nil)) pe_int) (pe_op op_add (pe_op op_powX pe_int pe_int) pe_int)))
      (pss_one (ps_ret (pe_op op_mod (pe_callTy call_int1 (by rfl) T.b_int (by decide +kernel) (pa_cons (pe_op op_fdivW (pv 3) pe_int) pa_nil)) (pv 1)))))))), ?_⟩
  obtain ⟨a, n, m, rfl, ⟨p, q, r, e, q0, q1, r0, r1⟩, hn, m0, m1, k⟩ := h
  have md : m.natAbs < 2 ^ 200 := by
    have e2 : ((2 ^ 200 : Nat) : Int) = 2 ^ 200 := by decide
    omega
  refine ⟨_, rfl, _, _, _, _, rfl, rfl, SqL.of e, rfl, _, _, rfl, rfl, _, rfl, ?_⟩
  refine ite2 (fun c => ?_) (fun c => ?_)
  · refine ⟨_, rfl, _, _, _, _, rfl, rfl, SqL.of e, rfl, .inl ⟨_, rfl, _, rfl, _, _, rfl, rfl, m0, ?_⟩⟩
    refine ⟨_, rfl, _, _, _, _, rfl, rfl, SqL.of e, rfl, _, rfl, _, _, rfl, rfl, wide_div m0 md (by decide) (by decide), ?_⟩
    refine ⟨_, rfl, _, _, _, _, rfl, rfl, e, rfl, ?_⟩
    refine ⟨_, rfl, ?_⟩
    exact k _ _ (Int.emod_nonneg _ (by omega)) (Int.emod_lt_of_pos _ m0) ⟨_, q, r, upd_same, q0, q1, r0, by omega⟩ (fun b o nb h => by rw [upd_ne nb]; exact h)
  · refine ⟨_, rfl, _, _, _, _, rfl, rfl, SqL.of e, rfl, _, _, rfl, rfl, ?_⟩
    refine ⟨_, rfl, _, _, _, _, rfl, rfl, e, rfl, ?_⟩
    have r31 : (r + 1).natAbs < 2 ^ 31 := by
      have e2 : (2 ^ 31 : Nat) = 2147483648 := by decide
      omega
    have br := bits_le r31
    have b1 : Builtin.Int.intBits 2038074743 ≤ 31 := bits_le (by decide)
    have b2 : Builtin.Int.intBits 982451653 ≤ 31 := bits_le (by decide)
    refine ⟨_, rfl, _, _, _, _, rfl, rfl, SqL.of upd_same, rfl, _, rfl, _, _, _, _, rfl, rfl, SqL.of upd_same, rfl, _, _, rfl, rfl, ?c1, _, _, rfl, rfl, .inl ⟨_, rfl, _, _, rfl, rfl, ?c2, ?_⟩⟩
    case c1 => show _ + _ ≤ _; omega
    case c2 => exact ⟨by decide, pow_ok (n := 91) (by omega) (by omega) (by decide) (by decide)⟩
    refine ⟨_, _, rfl, rfl, ⟨by decide, pow_ok (n := 4) (by decide) (by decide) (by decide) (by decide)⟩, _, _, rfl, rfl, _, _, rfl, rfl, (by show (0 : Int) < _; decide), ?_⟩
    have s0 := Int.emod_nonneg ((q + 2038074743 * (r + 1)) ^ (3 : Int).toNat) (b := (10 : Int) ^ (25 : Int).toNat + 13) (by decide)
    have s1 := Int.emod_lt_of_pos ((q + 2038074743 * (r + 1)) ^ (3 : Int).toNat) (b := (10 : Int) ^ (25 : Int).toNat + 13) (by decide)
    have s2 : (10 : Int) ^ (25 : Int).toNat + 13 < 2 ^ 90 := by decide
    refine ⟨_, rfl, _, rfl, _, _, _, _, rfl, rfl, SqL.of upd_same, rfl, _, _, rfl, rfl, ?c3, _, _, rfl, rfl, .inl ⟨_, rfl, _, _, rfl, rfl, ?c4, ?_⟩⟩
    case c3 => show _ + _ ≤ _; omega
    case c4 => exact ⟨by decide, pow_ok (n := 91) (by omega) (by omega) (by decide) (by decide)⟩
    refine ⟨_, _, rfl, rfl, ⟨by decide, pow_ok (n := 4) (by decide) (by decide) (by decide) (by decide)⟩, _, _, rfl, rfl, _, _, rfl, rfl, (by show (0 : Int) < _; decide), ?_⟩
    refine ⟨_, rfl, _, _, rfl, rfl, wide_div (b := 11) (by decide) (by decide) (by decide) (by decide), .inl ⟨_, rfl, _, rfl, _, _, rfl, rfl, m0, ?_⟩⟩
    refine k _ _ (Int.emod_nonneg _ (by omega)) (Int.emod_lt_of_pos _ m0) ⟨p, q, r + 1, upd_same, q0, q1, by omega, by omega⟩ (fun b o nb h => by rw [upd_ne nb]; exact h)
abbrev s_word : Stmt := top 28
theorem sc_word : FnScope ["sack", "signs", "low", "high", "picked", "turn"] ["sack", "signs", "low", "high"] (defScope s_word) := ⟨rfl, rfl, rfl, by decide +kernel, rfl, by decide +kernel, by decide +kernel⟩
/-- a drawn text of lo to hi letters out of signs -/
def spWord : Sp := fun vs H Q _ => ∃ (a : Addr) (n lo hi : Nat) (s : Str), vs = [.ref a, .str s, .int lo, .int hi] ∧ Sk n H a ∧ n ≤ 100000000 ∧ lo ≤ hi ∧ hi ≤ 400 ∧ Wd 30 s ∧ 1 ≤ s.length ∧
  ∀ x H', Sk (n + 1 + hi) H' a → Kp a H H' → Wd hi x → lo ≤ x.length → Q (.str x) H'
theorem ok_word {f : Addr} {fd fd1 : FuncData} (F : Fun K "_law_fm_word" "_law_fm_word" s_word f fd) (T : Txt K mg a) (c_coin : Cal P w K mg base 1 a.coin fd1 ["purse", "many"] spCoin) : FnOk P w K mg base CX0 2 f fd ["sack", "signs", "low", "high"] spWord := by
  refine F.ok sc_word (fun vs H Q E h => by obtain ⟨sk, n, lo, hi, s, rfl, _⟩ := h; rfl) (fun cdv A outer s H vs Q E hr h => ?_)
  have hr_coin := hr
  refine ⟨_, (pss_cons (ps_set (i := 4) sc_word.nd rfl (Or.inl rfl) pe_str)
      (pss_cons (ps_for PassesOwn.never rfl (pi_range1 rfl T.b_range (pa_cons (pe_op op_add (pv 2) (pe_call c_coin.ok hr_coin rfl T.g_coin T.k_coin c_coin.binds .nil pass0 (pa_cons (pv 0) (pa_cons (pe_op op_add (pe_op op_sub (pv 3) (pv 2)) pe_int) pa_nil)))) pa_nil)) (pg_name (i := 5) sc_word.nd rfl (Or.inl rfl))
      (pss_one (ps_set (i := 4) sc_word.nd rfl (Or.inl rfl) (pe_op op_add_str (pv 4) (pe_ix ix_str (pv 1) (pe_call c_coin.ok hr_coin rfl T.g_coin T.k_coin c_coin.binds .nil pass0 (pa_cons (pv 0) (pa_cons (pe_callB call_len_str (by rfl) T.b_len PySem.boot_len (pa_cons (pv 1) pa_nil)) pa_nil))) (fun _ _ => rfl))))))
      (pss_one (ps_ret (pv 4))))), ?_⟩
  obtain ⟨sk, n, lo, hi, s, rfl, hsk, hn, hl, hh, hs, hs1, k⟩ := h
  refine ⟨_, rfl, _, rfl, _, rfl, _, rfl, _, _, rfl, rfl, _, _, rfl, rfl, sk, n, _, rfl, hsk, by omega, by omega, ?c0, fun z H1 z0 z1 sk1 kp1 => ?_⟩
  case c0 => exact Int.lt_of_le_of_lt (b := 1000) (by omega) (by decide)
  obtain ⟨j, rfl⟩ := nat_of z0
  refine ⟨_, _, rfl, rfl, (lo : Int) + j, rfl, by omega, by omega, ?_⟩
  have et : ((lo : Int) + j).toNat = lo + j := by omega
  rw [et]
  refine for_range (n := lo + j) (fun i σ H' => ∃ x x1, σ = [some (.ref sk), some (.str s), some (.int lo), some (.int hi), some (.str x), x1] ∧ Sk (n + 1 + i) H' sk ∧ Kp sk H H' ∧ Wd i x ∧ x.length = i) ⟨"", _, rfl, sk1, kp1, ⟨Nat.le_refl _, rfl⟩, rfl⟩ ?_ ?_
  · rintro i σ H2 hi2 ⟨x, x1, rfl, sk2, kp2, wx, lx⟩
    rw [Int.zero_add]
    refine ⟨_, rfl, _, rfl, _, rfl, _, rfl, s, rfl, hs.tx.line (by decide), sk, n + 1 + i, _, rfl, sk2, by omega, by omega, ?c1, fun z H3 z0 z1 sk3 kp3 => ?_⟩
    case c1 => exact Int.lt_of_le_of_lt (b := 1000) (by have := hs.len; omega) (by decide)
    obtain ⟨m, rfl⟩ := nat_of z0
    have hm : m < s.cps.toList.length := by rw [← len_ls]; omega
    have em : s.cps.toList[m]? = some s.cps.toList[m] := List.getElem?_eq_getElem hm
    refine ⟨s, m, _, rfl, rfl, hs.tx.line (by decide), atI_nat em, x, _, rfl, rfl, ?_, ?_⟩
    · rw [lx]
      exact small_line (by show i + 1 ≤ 100000; omega)
    · have wo := Wd.one hs.pl em
      refine ⟨_, _, rfl, sk3, kp2.trans kp3, wx.append wo, ?_⟩
      rw [Str.length_append, lx]
      rfl
  · rintro σ H2 ⟨x, x1, rfl, sk2, kp2, wx, lx⟩
    exact ⟨_, rfl, k x H2 (sk2.mono (by omega)) kp2 (wx.mono (by omega)) (by omega)⟩
abbrev s_signs : Stmt := top 27
theorem sc_signs : FnScope ["sack", "high", "letters", "begin", "skip", "turn"] ["sack", "high"] (defScope s_signs) := ⟨rfl, rfl, rfl, by decide +kernel, rfl, by decide +kernel, by decide +kernel⟩
def spSigns : Sp := fun vs H Q _ => ∃ (a : Addr) (n hi : Nat), vs = [.ref a, .int hi] ∧ Sk n H a ∧ n ≤ 100000000 ∧ 1 ≤ hi ∧ hi ≤ 26 ∧ ∀ x H', Sk (n + 3) H' a → Kp a H H' → Wd hi x → 1 ≤ x.length → Q (.str x) H'
theorem ok_signs {f : Addr} {fd fd1 : FuncData} (F : Fun K "_law_fm_signs" "_law_fm_signs" s_signs f fd) (T : Txt K mg a) (c_coin : Cal P w K mg base 1 a.coin fd1 ["purse", "many"] spCoin) : FnOk P w K mg base CX0 2 f fd ["sack", "high"] spSigns := by
  refine F.ok sc_signs (fun vs H Q E h => by obtain ⟨sk, n, hi, rfl, _⟩ := h; rfl) (fun cdv A outer s H vs Q E hr h => ?_)
  have hr_coin := hr
  refine ⟨_, (pss_cons (ps_asg (pe_tup (pa_cons pe_str (pa_cons (pe_call c_coin.ok hr_coin rfl T.g_coin T.k_coin c_coin.binds .nil pass0 (pa_cons (pv 0) (pa_cons pe_int pa_nil))) pa_nil))) (pg_tup rfl (pgs_cons (pg_name (i := 2) sc_signs.nd rfl (Or.inr rfl)) (pgs_cons (pg_name (i := 3) sc_signs.nd rfl (Or.inr rfl)) pgs_nil))))
      (pss_cons (ps_set (i := 4) sc_signs.nd rfl (Or.inr rfl) (pe_ix ix_list (pe_lst (pa_cons pe_int (pa_cons pe_int (pa_cons pe_int (pa_cons pe_int pa_nil))))) (pe_call c_coin.ok hr_coin rfl T.g_coin T.k_coin c_coin.binds .nil pass0 (pa_cons (pv 0) (pa_cons pe_int pa_nil))) (fun _ _ => rfl)))
      (pss_one (ps_ret (pe_join pe_str (pe_callB cr_sortedS (by rfl) T.b_sorted (by decide +kernel) (pa_cons (pe_lc (own := [("turn", 5)]) (g := gName 5) (tt := tYes) rfl sc_signs.nd (pi_range1 rfl T.b_range (pa_cons (pe_op op_add pe_int (pe_call c_coin.ok hr_coin rfl T.g_coin T.k_coin c_coin.binds .nil pass0 (pa_cons (pv 0) (pa_cons (pv 1) pa_nil)))) pa_nil)) (blkOk_by (own := [("turn", 5)]) (N := ["sack", "high", "letters", "begin", "skip", "turn"]) (sc := defScope s_signs) (by decide +kernel)) (fun _ _ _ _ _ => pg_name (i := 5) sc_signs.nd rfl (Or.inl rfl)) (fun _ _ _ _ _ => pts_nil) (fun _ _ _ _ _ => (pe_ix ix_str (pv 2) (pe_op op_mod (pe_callTy call_int1 (by rfl) T.b_int (by decide +kernel) (pa_cons (pe_op op_add (pv 3) (pe_op op_mulX (pv 4) (pv 5))) pa_nil)) pe_int) (fun _ _ => rfl)))) pa_nil))))))), ?_⟩
  obtain ⟨sk, n, hi, rfl, hsk, hn, h1, h26, k⟩ := h
  refine ⟨_, rfl, sk, n, _, rfl, hsk, by omega, by decide, by decide, fun b H0 b0 b1 sk0 kp0 => ?_⟩
  refine ⟨by show 2 ≤ sizeLine; decide, fun tp htp => ⟨tp, _, rfl, SqT.of upd_same, rfl, _, _, rfl, _, _, rfl, rfl, ?_⟩⟩
  generalize eH1 : upd H0 tp _ = H1
  have sk1 : Sk (n + 1) H1 sk := by rw [← eH1]; exact sk0.new htp
  have kp1 : Kp sk H H1 := by rw [← eH1]; exact kp0.new htp
  refine ⟨by show 4 ≤ sizeLine; decide, fun l hl => ?_⟩
  refine ⟨_, rfl, sk, n + 1, _, rfl, sk1.new hl, by omega, by decide, by decide, fun z H2 z0 z1 sk2 kp2 => ?_⟩
  obtain ⟨m, rfl⟩ := nat_of z0
  have hm : m < 4 := by omega
  have em : ∃ q : Nat, ([V.int 1, V.int 3, V.int 7, V.int 9] : List V)[m]? = some (V.int q) ∧ q ≤ 9 := by
    have : m = 0 ∨ m = 1 ∨ m = 2 ∨ m = 3 := by omega
    rcases this with rfl | rfl | rfl | rfl
    · exact ⟨1, rfl, by decide⟩
    · exact ⟨3, rfl, by decide⟩
    · exact ⟨7, rfl, by decide⟩
    · exact ⟨9, rfl, by decide⟩
  obtain ⟨q, eq, q9⟩ := em
  refine ⟨l, _, (m : Int), _, rfl, rfl, SqL.of (kp2 l _ (sk1.ne hl) upd_same), atI_nat eq, ?_⟩
  refine ⟨⟨_, rfl⟩, _, rfl, _, rfl, sk, n + 2, _, rfl, sk2, by omega, by omega, ?c1, fun t H3 t0 t1 sk3 kp3 => ?_⟩
  case c1 => exact Int.lt_of_le_of_lt (b := 1000) (by omega) (by decide)
  obtain ⟨t, rfl⟩ := nat_of t0
  obtain ⟨b, rfl⟩ := nat_of b0
  refine ⟨_, _, rfl, rfl, (1 : Int) + t, rfl, by omega, by omega, fun D hD => ?_⟩
  have et : ((1 : Int) + t).toNat = 1 + t := by omega
  rw [et]
  have kp : Kp sk H H3 := ((kp1.new hl).trans kp2).trans kp3
  refine lc_range (n := 1 + t) (fun i H' => ∃ ys : List Str, H' = upd H3 D (.lst (ys.map V.str)) ∧ ys.length = i ∧ ∀ y ∈ ys, ∃ c ∈ abcS.cps.toList, y = ⟨#[c]⟩) ⟨[], rfl, rfl, fun y hy => nomatch hy⟩ ?_ ?_
  · rintro i H4 hi4 ⟨ys, rfl, ly, hy⟩
    rw [Int.zero_add]
    have g0 : 0 ≤ ((b : Int) + q * i) % 26 := Int.emod_nonneg _ (by decide)
    have g1 : ((b : Int) + q * i) % 26 < 26 := Int.emod_lt_of_pos _ (by decide)
    obtain ⟨g, eg⟩ := nat_of g0
    have hg : g < 26 := by omega
    have hg' : g < abcS.cps.toList.length := hg
    have ec : abcS.cps.toList[g]? = some abcS.cps.toList[g] := List.getElem?_eq_getElem hg'
    have bq : Builtin.Int.intBits (q : Int) ≤ 4 := bits_in (by omega) (by omega)
    have bi : Builtin.Int.intBits (i : Int) ≤ 6 := bits_in (by omega) (by omega)
    refine ⟨rfl, _, rfl, _, rfl, _, rfl, _, rfl, _, _, rfl, rfl, (by show _ + _ ≤ _; omega), _, _, rfl, rfl, .inl ⟨_, rfl, _, _, rfl, rfl, (by show (0 : Int) < 26; decide), ?_⟩⟩
    refine ⟨abcS, (g : Int), _, rfl, congrArg V.int eg, by decide, atI_nat ec, _, upd_same, ?_, ?_⟩
    · rw [List.length_map, ly]
      exact Nat.lt_of_lt_of_le hi4 (small_line (by omega))
    · refine ⟨ys ++ [⟨#[abcS.cps.toList[g]]⟩], ?_, by rw [List.length_append, ly]; rfl, fun y hy' => ?_⟩
      · rw [upd_upd, List.map_append]
        rfl
      · rcases List.mem_append.mp hy' with z | z
        · exact hy y z
        · exact ⟨_, List.getElem_mem hg', List.mem_singleton.mp z⟩
  · rintro H4 ⟨ys, rfl, ly, hy⟩
    refine ⟨D, ys, rfl, SqL.of upd_same, by omega, fun zs p perm so hp => ?_⟩
    have hz : ∀ y ∈ zs, ∃ c ∈ abcS.cps.toList, y = ⟨#[c]⟩ := fun y hz => hy y (perm.mem_iff.mp hz)
    have wz := wd_join hz
    have lz := perm.length_eq
    refine ⟨_, p, zs, rfl, rfl, .inl (SqL.of upd_same), ?_, ?_⟩
    · have := PySem.StrLaws.sumLen_le (B := 1) zs fun y hz' => by
        obtain ⟨c, _, rfl⟩ := hz y hz'
        exact Nat.le_refl _
      have z0 : (("" : String) : Str).length = 0 := rfl
      rw [z0]
      omega
    · refine k _ _ ((sk3.new hD).new hp) ((kp.new hD).new hp) (wz.1.mono (by omega)) (by rw [wz.2]; omega)
abbrev s_pair : Stmt := top 29
theorem sc_pair : FnScope ["sack", "reels", "signs", "high", "is_first", "joined", "more", "word", "spot", "end"] ["sack", "reels", "signs", "high", "is_first"] (defScope s_pair) := ⟨rfl, rfl, rfl, by decide +kernel, rfl, by decide +kernel, by decide +kernel⟩
/-- a new pair of drawn pieces, the first one not empty -/
def spPair (K : PySem.W.Frag) : Sp := fun vs H Q _ => ∃ (a r : Addr) (n hi : Nat) (ws : List Str) (s : Str) (b : Bool), vs = [.ref a, .ref r, .str s, .int hi, .bl b] ∧ Sk n H a ∧ n ≤ 10000000 ∧ SqL K H r (ws.map V.str) ∧ r ≠ a ∧ ws.length ≤ 1000 ∧ (∀ x ∈ ws, Wd 400 x ∧ 1 ≤ x.length) ∧
  Wd 30 s ∧ 1 ≤ s.length ∧ 1 ≤ hi ∧ hi ≤ 10 ∧ ∀ x y p H', Sk (n + 40) H' a → Kp a H H' → H p = none → H' p = some (.tup [.str x, .str y]) → Wd 10 x → 1 ≤ x.length → Wd 10 y → Q (.ref p) H'
theorem ok_pair {f : Addr} {fd fd1 fd2 : FuncData} (F : Fun K "_law_fm_pair" "_law_fm_pair" s_pair f fd) (T : Txt K mg a) (c_coin : Cal P w K mg base 1 a.coin fd1 ["purse", "many"] spCoin) (c_word : Cal P w K mg base 2 a.word fd2 ["sack", "signs", "low", "high"] spWord) :
    FnOk P w K mg base CX0 3 f fd ["sack", "reels", "signs", "high", "is_first"] (spPair K) := by
  refine F.ok sc_pair (fun vs H Q E h => by obtain ⟨sk, r, n, hi, ws, s, b, rfl, _⟩ := h; rfl) (fun cdv A outer s H vs Q E hr h => ?_)
  have hr_coin := hr.mono (show 1 ≤ 2 by decide)
  have hr_word := hr
  refine ⟨_, (pss_cons (ps_par (i := 5) (j := 6) (by rfl) sc_pair.nd rfl rfl (by decide) rfl rfl (pa_cons (pe_op op_add pe_int (pe_call c_coin.ok hr_coin rfl T.g_coin T.k_coin c_coin.binds .nil pass0 (pa_cons (pv 0) (pa_cons (pv 3) pa_nil)))) (pa_cons (pe_call c_coin.ok hr_coin rfl T.g_coin T.k_coin c_coin.binds .nil pass0 (pa_cons (pv 0) (pa_cons (pe_op op_add (pv 3) pe_int) pa_nil))) pa_nil)) (by rfl))
      (pss_cons (ps_if (PW.pt (pw_or (pt_cmpR (op_eqD hr.units) (pv 1) (pe_lst pa_nil) (nomark _)) (pw_or1 (pt_cmpR op_eq (pe_call c_coin.ok hr_coin rfl T.g_coin T.k_coin c_coin.binds .nil pass0 (pa_cons (pv 0) (pa_cons pe_int pa_nil))) pe_int (nomark _))))) (pss_one (ps_ret (pe_tup (pa_cons (pe_call c_word.ok hr_word rfl T.g_word T.k_word c_word.binds .nil pass0 (pa_cons (pv 0) (pa_cons (pv 2) (pa_cons (pv 5) (pa_cons (pv 5) pa_nil))))) (pa_cons (pe_call c_word.ok hr_word rfl T.g_word T.k_word c_word.binds .nil pass0 (pa_cons (pv 0) (pa_cons (pv 2) (pa_cons (pv 6) (pa_cons (pv 6) pa_nil))))) pa_nil))))) pss_nil)
      (pss_cons (ps_set (i := 7) sc_pair.nd rfl (Or.inl rfl) (pe_ix ix_list (pv 1) (pe_call c_coin.ok hr_coin rfl T.g_coin T.k_coin c_coin.binds .nil pass0 (pa_cons (pv 0) (pa_cons (pe_callB call_len_seq (by rfl) T.b_len PySem.boot_len (pa_cons (pv 1) pa_nil)) pa_nil))) (fun _ _ => rfl)))
      (pss_cons (ps_set (i := 8) sc_pair.nd rfl (Or.inl rfl) (pe_call c_coin.ok hr_coin rfl T.g_coin T.k_coin c_coin.binds .nil pass0 (pa_cons (pv 0) (pa_cons (pe_callB call_len_str (by rfl) T.b_len PySem.boot_len (pa_cons (pv 7) pa_nil)) pa_nil))))
      (pss_cons (ps_if (pt_val (pv 4)) (pss_cons (ps_set (i := 9) sc_pair.nd rfl (Or.inl rfl) (pe_op op_add (pv 8) pe_int))
      (pss_one (ps_ret (pe_tup (pa_cons (pe_slice sl_str (pv 7) (po_some (pe_callB (call_max2 rfl) (by rfl) T.b_max (by decide +kernel) (pa_cons pe_int (pa_cons (pe_op op_sub (pv 9) (pv 5)) pa_nil)))) (po_some (pv 9))) (pa_cons (pe_slice sl_str (pv 7) (po_some (pv 9)) (po_some (pe_op op_add (pv 9) (pv 6)))) pa_nil)))))) pss_nil)
      (pss_one (ps_ret (pe_tup (pa_cons (pe_slice sl_str (pv 7) (po_some (pv 8)) (po_some (pe_op op_add (pv 8) (pv 5)))) (pa_cons (pe_slice sl_str (pv 7) (po_some (pe_callB (call_max2 rfl) (by rfl) T.b_max (by decide +kernel) (pa_cons pe_int (pa_cons (pe_op op_sub (pv 8) (pv 6)) pa_nil)))) (po_some (pv 8))) pa_nil)))))))))), ?_⟩
  obtain ⟨sk, r, n, hi, ws, s, b, rfl, hsk, hn, hR, rsk, lw, hw, hs, hs1, h1, h10, k⟩ := h
  refine ⟨_, rfl, _, rfl, sk, n, _, rfl, hsk, by omega, by omega, Int.lt_of_le_of_lt (b := 1000) (by omega) (by decide), fun z1 H1 z10 z11 sk1 kp1 => ?_⟩
  refine ⟨_, _, rfl, rfl, _, rfl, _, rfl, _, _, rfl, rfl, sk, n + 1, _, rfl, sk1, by omega, by omega, Int.lt_of_le_of_lt (b := 1000) (by omega) (by decide), fun z2 H2 z20 z21 sk2 kp2 => ?_⟩
  obtain ⟨j, rfl⟩ := nat_of z10
  obtain ⟨m, rfl⟩ := nat_of z20
  have kp12 := kp1.trans kp2
  have hR2 := seqL_kp hR rsk kp12
  have txw : ∀ x ∈ ws, Tx 5000 x := fun x hx => (hw x hx).1.tx.mono (by decide)
  refine ⟨_, _, rfl, ?_⟩
  refine ⟨_, rfl, by show 0 ≤ sizeLine; decide, fun z hz => ?_⟩
  have sk3 := sk2.new (o := .lst []) hz
  have kp3 := kp12.new (o := .lst []) hz
  have hR3 := sameL (same_new (u := .lst []) (Same.refl H2) hz) hR2
  -- two drawn words
  have drawn : ∀ (n' : Nat) (H' : Hp), Sk n' H' sk → n' ≤ n + 3 → Kp sk H H' → ∀ x1 x2 x3,
      tTup (tCons (tCall spWord [] E0 (tCons (tVar 0) (tCons (tVar 2) (tCons (tVar 5) (tCons (tVar 5) tNil))))) (tCons (tCall spWord [] E0 (tCons (tVar 0) (tCons (tVar 2) (tCons (tVar 6) (tCons (tVar 6) tNil))))) tNil))
        [some (.ref sk), some (.ref r), some (.str s), some (.int hi), some (.bl b), some (.int (1 + (j : Int))), some (.int m), x1, x2, x3] H' Q := by
    intro n' H' sk' hn' kp' x1 x2 x3
    have ej : (1 + (j : Int)) = ((j + 1 : Nat) : Int) := by omega
    rw [ej]
    refine ⟨_, rfl, _, rfl, _, rfl, _, rfl, sk, n', j + 1, j + 1, s, rfl, sk', by omega, Nat.le_refl _, by omega, hs, hs1, fun x H4 sk4 kp4 wx lx => ?_⟩
    refine ⟨_, rfl, _, rfl, _, rfl, _, rfl, sk, n' + 1 + (j + 1), m, m, s, rfl, sk4, by omega, Nat.le_refl _, by omega, hs, hs1, fun y H5 sk5 kp5 wy ly => ?_⟩
    refine ⟨by show 2 ≤ sizeLine; decide, fun p hp => ?_⟩
    have kp6 := (kp'.trans kp4).trans kp5
    exact k x y p _ ((sk5.new hp).mono (by omega)) (kp6.new hp) (sk_none kp6 sk5 hp) upd_same (wx.mono (by omega)) (by omega) (wy.mono (by omega))
  refine ⟨_, _, .lst hR3 (DpAll.strs ws), .lst (SqL.of upd_same) .nil, shaped_strs txw, shaped_nil, _, rfl, ?_⟩
  rw [eqv_nil]
  refine ite2 (fun c => ?_) (fun c => ?_)
  · exact drawn (n + 2) _ sk3 (by omega) kp3 _ _ _
  · have ws1 : 1 ≤ ws.length := by
      cases ws with
      | nil => exact absurd rfl c
      | cons x t => exact Nat.succ_pos _
    refine ⟨_, rfl, sk, n + 2, _, rfl, sk3, by omega, by decide, by decide, fun z3 H4 z30 z31 sk4 kp4 => ⟨rfl, _, rfl, ?_⟩⟩
    have kpH4 := kp3.trans kp4
    refine ite2 (fun c2 => ?_) (fun c2 => ?_)
    · exact drawn (n + 3) _ sk4 (by omega) kpH4 _ _ _
    · have hR4 := seqL_kp hR3 rsk kp4
      refine ⟨_, rfl, _, rfl, _, rfl, r, _, rfl, .inl hR4, sk, n + 3, _, rfl, sk4, by omega, by rw [List.length_map]; omega, lt200 (by rw [List.length_map]; omega), fun z4 H5 z40 z41 sk5 kp5 => ?_⟩
      rw [List.length_map] at z41
      obtain ⟨i4, rfl⟩ := nat_of z40
      have hi4 : i4 < ws.length := by omega
      have e4 : ws[i4]? = some ws[i4] := List.getElem?_eq_getElem hi4
      obtain ⟨wx, wl⟩ := hw _ (List.getElem_mem hi4)
      generalize ws[i4] = word at e4 wx wl
      have kpH5 := kpH4.trans kp5
      refine ⟨r, _, i4, .str word, rfl, rfl, seqL_kp hR4 rsk kp5, atI_nat (by rw [List.getElem?_map, e4]; rfl), ?_⟩
      have wlen := wx.len
      refine ⟨_, rfl, _, rfl, word, rfl, wx.tx.line (by decide), sk, n + 4, _, rfl, sk5, by omega, by omega, lt200 (by omega), fun z5 H6 z50 z51 sk6 kp6 => ?_⟩
      obtain ⟨i5, rfl⟩ := nat_of z50
      have hi5 : i5 < word.length := by omega
      have kpH6 := kpH5.trans kp6
      have fin : ∀ x y : Str, Wd 10 x → 1 ≤ x.length → Wd 10 y → ∀ p, H6 p = none → Q (.ref p) (upd H6 p (.tup [.str x, .str y])) := fun x y wx' lx wy p hp =>
        k x y p _ ((sk6.new hp).mono (by omega)) (kpH6.new hp) (sk_none kpH6 sk6 hp) upd_same wx' lx wy
      refine ⟨_, rfl, _, rfl, ?_⟩
      refine ite2 (fun c3 => ?_) (fun c3 => ?_)
      · refine ⟨_, rfl, _, _, rfl, rfl, ?_⟩
        refine ⟨_, rfl, _, rfl, _, rfl, _, _, rfl, rfl, _, _, rfl, _, rfl, _, rfl, _, rfl, word, rfl, wx.tx.line (by decide), ?_⟩
        refine ⟨_, rfl, _, rfl, _, rfl, _, rfl, _, rfl, _, _, rfl, rfl, _, rfl, word, rfl, wx.tx.line (by decide), by show 2 ≤ sizeLine; decide, ?_⟩
        have el : (if (i5 : Int) + 1 - (1 + j) > 0 then (i5 : Int) + 1 - (1 + j) else 0) = ((i5 + 1 - (1 + j) : Nat) : Int) := by split <;> omega
        have ee : (i5 : Int) + 1 = ((i5 + 1 : Nat) : Int) := by omega
        have em : ((i5 + 1 : Nat) : Int) + m = ((i5 + 1 + m : Nat) : Int) := by omega
        rw [el, ee, em]
        have l1 := len_cut_in (x := word) (i := i5 + 1 - (1 + j)) (j := i5 + 1) (by omega)
        have l2 := len_cut_in (x := word) (i := i5 + 1) (j := i5 + 1 + m) (by omega)
        exact fin _ _ ⟨by omega, (wx.cut _ _).pl⟩ (by omega) ⟨by omega, (wx.cut _ _).pl⟩
      · refine ⟨_, rfl, _, rfl, _, rfl, _, rfl, _, rfl, _, _, rfl, rfl, _, rfl, word, rfl, wx.tx.line (by decide), ?_⟩
        refine ⟨_, rfl, _, rfl, _, rfl, _, _, rfl, rfl, _, _, rfl, _, rfl, _, rfl, _, rfl, word, rfl, wx.tx.line (by decide), by show 2 ≤ sizeLine; decide, ?_⟩
        have el : (if (i5 : Int) - m > 0 then (i5 : Int) - m else 0) = ((i5 - m : Nat) : Int) := by split <;> omega
        have em : (i5 : Int) + (1 + j) = ((i5 + (1 + j) : Nat) : Int) := by omega
        rw [el, em]
        have l1 := len_cut_in (x := word) (i := i5) (j := i5 + (1 + j)) (by omega)
        have l2 := len_cut_in (x := word) (i := i5 - m) (j := i5) (by omega)
        exact fin _ _ ⟨by omega, (wx.cut _ _).pl⟩ (by omega) ⟨by omega, (wx.cut _ _).pl⟩
abbrev s_join : Stmt := top 30
theorem sc_join : FnScope ["sack", "reels", "signs", "high", "front", "behind", "back", "ahead"] ["sack", "reels", "signs", "high"] (defScope s_join) := ⟨rfl, rfl, rfl, by decide +kernel, rfl, by decide +kernel, by decide +kernel⟩
def spJoin (K : PySem.W.Frag) : Sp := fun vs H Q _ => ∃ (a r : Addr) (n hi : Nat) (ws : List Str) (s : Str), vs = [.ref a, .ref r, .str s, .int hi] ∧ Sk n H a ∧ n ≤ 1000000 ∧ SqL K H r (ws.map V.str) ∧ r ≠ a ∧ ws.length ≤ 1000 ∧ (∀ x ∈ ws, Wd 400 x ∧ 1 ≤ x.length) ∧
  Wd 30 s ∧ 1 ≤ s.length ∧ 1 ≤ hi ∧ hi ≤ 10 ∧ ∀ xs p H', Sk (n + 80) H' a → Kp a H H' → H p = none → H' p = some (.tup (xs.map V.str)) → Jn xs → Q (.ref p) H'
theorem ok_join {f : Addr} {fd fd1 : FuncData} (F : Fun K "_law_fm_join" "_law_fm_join" s_join f fd) (T : Txt K mg a) (c_pair : Cal P w K mg base 3 a.pair fd1 ["sack", "reels", "signs", "high", "is_first"] (spPair K)) :
    FnOk P w K mg base CX0 4 f fd ["sack", "reels", "signs", "high"] (spJoin K) := by
  refine F.ok sc_join (fun vs H Q E h => by obtain ⟨sk, r, n, hi, ws, s, rfl, _⟩ := h; rfl) (fun cdv A outer s H vs Q E hr h => ?_)
  have hr_pair := hr
  refine ⟨_, (pss_cons (ps_asg (pe_call c_pair.ok hr_pair rfl T.g_pair T.k_pair c_pair.binds .nil pass0 (pa_cons (pv 0) (pa_cons (pv 1) (pa_cons (pv 2) (pa_cons (pv 3) (pa_cons pe_bl pa_nil)))))) (pg_tup rfl (pgs_cons (pg_name (i := 4) sc_join.nd rfl (Or.inl rfl)) (pgs_cons (pg_name (i := 5) sc_join.nd rfl (Or.inl rfl)) pgs_nil))))
      (pss_cons (ps_asg (pe_call c_pair.ok hr_pair rfl T.g_pair T.k_pair c_pair.binds .nil pass0 (pa_cons (pv 0) (pa_cons (pv 1) (pa_cons (pv 2) (pa_cons (pv 3) (pa_cons pe_bl pa_nil)))))) (pg_tup rfl (pgs_cons (pg_name (i := 6) sc_join.nd rfl (Or.inl rfl)) (pgs_cons (pg_name (i := 7) sc_join.nd rfl (Or.inl rfl)) pgs_nil))))
      (pss_one (ps_ret (pe_tup (pa_cons (pv 4) (pa_cons (pv 5) (pa_cons (pv 7) (pa_cons (pv 6) pa_nil))))))))), ?_⟩
  obtain ⟨sk, r, n, hi, ws, s, rfl, hsk, hn, hR, rsk, lw, hw, hs, hs1, h1, h10, k⟩ := h
  refine ⟨_, rfl, _, rfl, _, rfl, _, rfl, sk, r, n, hi, ws, s, true, rfl, hsk, by omega, hR, rsk, lw, hw, hs, hs1, h1, h10, fun x y p H1 sk1 kp1 hp ep wx lx wy => ?_⟩
  refine ⟨p, _, rfl, SqT.of ep, rfl, _, _, rfl, _, _, rfl, rfl, ?_⟩
  refine ⟨_, rfl, _, rfl, _, rfl, _, rfl, sk, r, n + 40, hi, ws, s, false, rfl, sk1, by omega, seqL_kp hR rsk kp1, rsk, lw, hw, hs, hs1, h1, h10, fun x2 y2 p2 H2 sk2 kp2 hp2 ep2 wx2 lx2 wy2 => ?_⟩
  refine ⟨p2, _, rfl, SqT.of ep2, rfl, _, _, rfl, _, _, rfl, rfl, ?_⟩
  refine ⟨_, rfl, _, rfl, _, rfl, _, rfl, by show 4 ≤ sizeLine; decide, fun q hq => ?_⟩
  have kp := kp1.trans kp2
  refine k [x, y, y2, x2] q _ ((sk2.new hq).mono (by omega)) (kp.new hq) (sk_none kp sk2 hq) upd_same ⟨rfl, fun z hz => ?_, lx, lx2⟩
  simp only [List.mem_cons, List.not_mem_nil, or_false] at hz
  rcases hz with rfl | rfl | rfl | rfl
  · exact wx
  · exact wy
  · exact wy2
  · exact wx2
end
end K52

namespace K52
open PySem PySem.Spec PyProof.Rows L2 Sf
section
variable {P : Program} {w : World} {K : PySem.W.Frag} {mg : Str → Option Value} {base : Heap} {a : Ad}
abbrev s_plan : Stmt := top 31
theorem sc_plan : FnScope ["sack", "signs", "many", "more", "high", "count", "reels", "turn"] ["sack", "signs", "many", "more"] (defScope s_plan) := ⟨rfl, rfl, rfl, by decide +kernel, rfl, by decide +kernel, by decide +kernel⟩
/-- strips and rules drawn: new lists, which no one changes -/
def spPlan (K : PySem.W.Frag) : Sp := fun vs H Q _ => ∃ (G : Hp) (sk : Addr) (n many more : Nat) (s : Str), vs = [.ref sk, .str s, .int many, .int more] ∧ Same G H ∧ G sk = none ∧ Sk n H sk ∧ n ≤ 100000 ∧ Wd 30 s ∧ 1 ≤ s.length ∧ 1 ≤ many ∧ many ≤ 20 ∧ 1 ≤ more ∧ more ≤ 20 ∧
  ∀ p r g ws js G' H', Sk (n + 5000) H' sk → Ext (· = sk) G H G' H' → PlAt K G' p r g ws js → Rt 21 ws js → (∀ x ∈ ws, x.length ≤ 39) → H p = none → Q (.ref p) H'
theorem ok_plan {f : Addr} {fd fd1 fd2 fd3 : FuncData} (F : Fun K "_law_fm_plan" "_law_fm_plan" s_plan f fd) (T : Txt K mg a) (c_coin : Cal P w K mg base 1 a.coin fd1 ["purse", "many"] spCoin) (c_word : Cal P w K mg base 2 a.word fd2 ["sack", "signs", "low", "high"] spWord)
    (c_join : Cal P w K mg base 4 a.join fd3 ["sack", "reels", "signs", "high"] (spJoin K)) : FnOk P w K mg base CX0 5 f fd ["sack", "signs", "many", "more"] (spPlan K) := by
  refine F.ok sc_plan (fun vs H Q E h => by obtain ⟨G, sk, n, many, more, s, rfl, _⟩ := h; rfl) (fun cdv A outer s H vs Q E hr h => ?_)
  have hr_coin := hr.mono (show 1 ≤ 4 by decide)
  have hr_word := hr.mono (show 2 ≤ 4 by decide)
  have hr_join := hr
  refine ⟨_, (pss_cons (ps_set (i := 4) sc_plan.nd rfl (Or.inr rfl) (pe_ix ix_list (pe_lst (pa_cons pe_int (pa_cons pe_int (pa_cons pe_int (pa_cons pe_int pa_nil))))) (pe_call c_coin.ok hr_coin rfl T.g_coin T.k_coin c_coin.binds .nil pass0 (pa_cons (pv 0) (pa_cons pe_int pa_nil))) (fun _ _ => rfl)))
      (Evl.pss_cut (ps_set (i := 5) sc_plan.nd rfl (Or.inl rfl) (pe_ifExp (pt_cmpR op_eq (pe_call c_coin.ok hr_coin rfl T.g_coin T.k_coin c_coin.binds .nil pass0 (pa_cons (pv 0) (pa_cons pe_int pa_nil))) pe_int (nomark _)) pe_int (pe_op op_add pe_int (pe_call c_coin.ok hr_coin rfl T.g_coin T.k_coin c_coin.binds .nil pass0 (pa_cons (pv 0) (pa_cons (pv 2) pa_nil))))))
      (pss_cons (ps_set (i := 6) sc_plan.nd rfl (Or.inr rfl) (pe_lc (own := [("turn", 7)]) (g := gName 7) (tt := tYes) rfl sc_plan.nd (pi_range1 rfl T.b_range (pa_cons (pv 5) pa_nil)) (blkOk_by (own := [("turn", 7)]) (N := ["sack", "signs", "many", "more", "high", "count", "reels", "turn"]) (sc := defScope s_plan) (by decide +kernel)) (fun _ _ _ _ _ => pg_name (i := 7) sc_plan.nd rfl (Or.inl rfl)) (fun _ _ _ _ _ => pts_nil) (fun _ _ _ _ _ => (pe_call c_word.ok hr_word rfl T.g_word T.k_word c_word.binds .nil pass0 (pa_cons (pv 0) (pa_cons (pv 1) (pa_cons pe_int (pa_cons (pv 4) pa_nil))))))))
      (Evl.pss_cut (ps_if (PW.pt (pw_and (pt_cmpR op_gt (pe_callB call_len_seq (by rfl) T.b_len PySem.boot_len (pa_cons (pv 6) pa_nil)) pe_int (nomark _)) (pw_and1 (pt_cmpR op_eq (pe_call c_coin.ok hr_coin rfl T.g_coin T.k_coin c_coin.binds .nil pass0 (pa_cons (pv 0) (pa_cons pe_int pa_nil))) pe_int (nomark _))))) (pss_one (ps_asg (pe_ix ix_list (pv 6) (pe_call c_coin.ok hr_coin rfl T.g_coin T.k_coin c_coin.binds .nil pass0 (pa_cons (pv 0) (pa_cons (pv 5) pa_nil))) (fun _ _ => rfl)) (pg_sub (pv 6) (pe_call c_coin.ok hr_coin rfl T.g_coin T.k_coin c_coin.binds .nil pass0 (pa_cons (pv 0) (pa_cons (pv 5) pa_nil))) set_list))) pss_nil)
      (Evl.pss_cut (ps_set (i := 5) sc_plan.nd rfl (Or.inl rfl) (pe_ifExp (pt_cmpR op_eq (pe_call c_coin.ok hr_coin rfl T.g_coin T.k_coin c_coin.binds .nil pass0 (pa_cons (pv 0) (pa_cons pe_int pa_nil))) pe_int (nomark _)) pe_int (pe_op op_add pe_int (pe_call c_coin.ok hr_coin rfl T.g_coin T.k_coin c_coin.binds .nil pass0 (pa_cons (pv 0) (pa_cons (pv 3) pa_nil))))))
      (pss_one (ps_ret (pe_tup (pa_cons (pv 6) (pa_cons (pe_lc (own := [("turn", 7)]) (g := gName 7) (tt := tYes) rfl sc_plan.nd (pi_range1 rfl T.b_range (pa_cons (pv 5) pa_nil)) (blkOk_by (own := [("turn", 7)]) (N := ["sack", "signs", "many", "more", "high", "count", "reels", "turn"]) (sc := defScope s_plan) (by decide +kernel)) (fun _ _ _ _ _ => pg_name (i := 7) sc_plan.nd rfl (Or.inl rfl)) (fun _ _ _ _ _ => pts_nil) (fun _ _ _ _ _ => (pe_call c_join.ok hr_join rfl T.g_join T.k_join c_join.binds .nil pass0 (pa_cons (pv 0) (pa_cons (pv 6) (pa_cons (pv 1) (pa_cons pe_int pa_nil))))))) pa_nil)))))))))), ?_⟩
  obtain ⟨G, sk, n, many, more, s, rfl, sG, gk, hsk, hn, hs, hs1, m1, m20, o1, o20, k⟩ := h
  refine ⟨by show 4 ≤ sizeLine; decide, fun l hl => ?_⟩
  refine ⟨_, rfl, sk, n, _, rfl, hsk.new hl, by omega, by decide, by decide, fun z H1 z0 z1 sk1 kp1 => ?_⟩
  obtain ⟨m, rfl⟩ := nat_of z0
  obtain ⟨hi, ehi, h1, h5⟩ : ∃ q : Nat, ([V.int 2, V.int 3, V.int 5, V.int 5] : List V)[m]? = some (V.int q) ∧ 1 ≤ q ∧ q ≤ 5 := by
    have : m = 0 ∨ m = 1 ∨ m = 2 ∨ m = 3 := by omega
    rcases this with rfl | rfl | rfl | rfl
    · exact ⟨2, rfl, by decide, by decide⟩
    · exact ⟨3, rfl, by decide, by decide⟩
    · exact ⟨5, rfl, by decide, by decide⟩
    · exact ⟨5, rfl, by decide, by decide⟩
  refine ⟨l, _, (m : Int), _, rfl, rfl, SqL.of (kp1 l _ (hsk.ne hl) upd_same), atI_nat ehi, ?_⟩
  have e1 : Ext (· = sk) G H G H1 := ((Ext.refl sG).newM (o := .lst [.int 2, .int 3, .int 5, .int 5]) hl).kp kp1 gk sk1.at
  -- how many strips
  refine ⟨fun σ' H' => ∃ c : Nat, σ' = [some (.ref sk), some (.str s), some (.int many), some (.int more), some (.int hi), some (.int c), none, none] ∧ c ≤ many ∧ Sk (n + 3) H' sk ∧ Ext (· = sk) G H G H', ?_, ?_⟩
  · refine ⟨_, rfl, sk, n + 1, _, rfl, sk1, by omega, by decide, by decide, fun z H2 z0 z1 sk2 kp2 => ⟨rfl, _, rfl, ?_⟩⟩
    have e2 := e1.kp kp2 gk sk2.at
    refine ite2 (fun c => ?_) (fun c => ?_)
    · exact ⟨0, rfl, Nat.zero_le _, sk2.mono (by omega), e2⟩
    · refine ⟨_, rfl, _, rfl, sk, n + 2, _, rfl, sk2, by omega, by omega, lt200 (by omega), fun y H3 y0 y1 sk3 kp3 => ⟨_, _, rfl, rfl, ?_⟩⟩
      obtain ⟨j, rfl⟩ := nat_of y0
      refine ⟨j + 1, ?_, by omega, sk3, e2.kp kp3 gk sk3.at⟩
      rw [show (((j + 1 : Nat)) : Int) = 1 + (j : Int) by omega]
      rfl
  rintro σ' H2 ⟨c, rfl, hc, sk2, e2⟩
  refine ⟨_, rfl, (c : Int), rfl, by omega, by omega, fun D hD => ?_⟩
  rw [Int.toNat_natCast]
  have nD := sk2.ne hD
  have fD := e2.free hD
  have gD := same_none e2.gh hD
  refine lc_range (n := c) (fun i H' => ∃ ys : List Str, H' D = some (.lst (ys.map V.str)) ∧ ys.length = i ∧ (∀ y ∈ ys, Wd 39 y ∧ 1 ≤ y.length) ∧ Sk (n + 3 + 6 * i) H' sk ∧ Ext (· = sk) G H G H') ⟨[], upd_same, rfl, nofun, sk2.new hD, e2.newM hD⟩ ?_ ?_
  · rintro i H3 hi3 ⟨ys, dy, ly, hy, sk3, e3⟩
    refine ⟨rfl, _, rfl, _, rfl, _, rfl, sk, n + 3 + 6 * i, 1, hi, s, rfl, sk3, by omega, h1, by omega, hs, hs1, fun x H4 sk4 kp4 wx lx => ?_⟩
    refine ⟨_, kp4 D _ nD dy, by rw [List.length_map, ly]; exact small_lt (by omega), ys ++ [x], by rw [List.map_append]; exact upd_same, by rw [List.length_append, ly]; rfl, fun y h => ?_, (sk_mut sk4 nD).mono (by omega), (e3.kp kp4 gk sk4.at).mut fD gD⟩
    rcases List.mem_append.mp h with z | z
    · exact hy y z
    · rw [List.mem_singleton.mp z]
      exact ⟨wx.mono (by omega), lx⟩
  rintro H3 ⟨ws0, dy0, ly0, hy0, sk3, e3⟩
  -- two strips made equal
  refine ⟨fun σ' H' => ∃ ws : List Str, σ' = [some (.ref sk), some (.str s), some (.int many), some (.int more), some (.int hi), some (.int c), some (.ref D), none] ∧ H' D = some (.lst (ws.map V.str)) ∧ ws.length = c ∧ (∀ y ∈ ws, Wd 39 y ∧ 1 ≤ y.length) ∧ Sk (n + 200) H' sk ∧ Ext (· = sk) G H G H', ?_, ?_⟩
  · refine ⟨_, rfl, D, _, rfl, .inl (SqL.of dy0), _, _, rfl, rfl, _, rfl, ?_⟩
    rw [List.length_map, ly0]
    refine ite2 (fun q => ?_) (fun q => ?_)
    · have c2 : 1 < c := by have := of_decide_eq_true q; omega
      refine ⟨_, rfl, sk, n + 3 + 6 * c, _, rfl, sk3, by omega, by decide, by decide, fun z H4 z0 z1 sk4 kp4 => ⟨rfl, _, rfl, ?_⟩⟩
      have dy4 := kp4 D _ nD dy0
      have e4 := e3.kp kp4 gk sk4.at
      refine ite2 (fun q2 => ?_) (fun q2 => ?_)
      · refine ⟨_, rfl, _, rfl, _, rfl, sk, n + 3 + 6 * c + 1, _, rfl, sk4, by omega, by omega, lt200 (by omega), fun x H5 x0 x1 sk5 kp5 => ?_⟩
        obtain ⟨i5, rfl⟩ := nat_of x0
        have hi5 : i5 < ws0.length := by omega
        have e5i : ws0[i5]? = some ws0[i5] := List.getElem?_eq_getElem hi5
        have hw5 := hy0 _ (List.getElem_mem hi5)
        generalize ws0[i5] = word at e5i hw5
        have dy5 := kp5 D _ nD dy4
        refine ⟨D, _, i5, .str word, rfl, rfl, SqL.of dy5, atI_nat (by rw [List.getElem?_map, e5i]; rfl), ?_⟩
        refine ⟨_, rfl, _, rfl, _, rfl, sk, n + 3 + 6 * c + 2, _, rfl, sk5, by omega, by omega, lt200 (by omega), fun y H6 y0 y1 sk6 kp6 => ?_⟩
        obtain ⟨i6, rfl⟩ := nat_of y0
        have dy6 := kp6 D _ nD dy5
        refine ⟨D, _, i6, i6, rfl, rfl, dy6, ?_, ?_⟩
        · rw [List.length_map]
          exact ixN_nat (by omega)
        · refine ⟨ws0.set i6 word, rfl, by rw [List.map_set]; exact upd_same, by rw [List.length_set]; exact ly0, fun v hv => ?_, (sk_mut sk6 nD).mono (by omega), ((e4.kp kp5 gk sk5.at).kp kp6 gk sk6.at).mut fD gD⟩
          rcases List.mem_or_eq_of_mem_set hv with z | z
          · exact hy0 v z
          · rw [z]; exact hw5
      · exact ⟨ws0, rfl, dy4, ly0, hy0, sk4.mono (by omega), e4⟩
    · exact ⟨ws0, rfl, dy0, ly0, hy0, sk3.mono (by omega), e3⟩
  rintro σ' H4 ⟨ws, rfl, dw, lw, hw, sk4, e4⟩
  -- how many rules
  refine ⟨fun σ' H' => ∃ c1 : Nat, σ' = [some (.ref sk), some (.str s), some (.int many), some (.int more), some (.int hi), some (.int c1), some (.ref D), none] ∧ c1 ≤ more ∧ H' D = some (.lst (ws.map V.str)) ∧ Sk (n + 202) H' sk ∧ Ext (· = sk) G H G H', ?_, ?_⟩
  · refine ⟨_, rfl, sk, n + 200, _, rfl, sk4, by omega, by decide, by decide, fun z H5 z0 z1 sk5 kp5 => ⟨rfl, _, rfl, ?_⟩⟩
    have e5 := e4.kp kp5 gk sk5.at
    have d5 := kp5 D _ nD dw
    refine ite2 (fun c => ?_) (fun c => ?_)
    · exact ⟨0, rfl, Nat.zero_le _, d5, sk5.mono (by omega), e5⟩
    · refine ⟨_, rfl, _, rfl, sk, n + 201, _, rfl, sk5, by omega, by omega, lt200 (by omega), fun y H6 y0 y1 sk6 kp6 => ⟨_, _, rfl, rfl, ?_⟩⟩
      obtain ⟨j, rfl⟩ := nat_of y0
      refine ⟨j + 1, ?_, by omega, kp6 D _ nD d5, sk6, e5.kp kp6 gk sk6.at⟩
      rw [show (((j + 1 : Nat)) : Int) = 1 + (j : Int) by omega]
      rfl
  rintro σ' H5 ⟨c1, rfl, hc1, d5, sk5, e5⟩
  refine ⟨_, rfl, _, rfl, (c1 : Int), rfl, by omega, by omega, fun D2 hD2 => ?_⟩
  rw [Int.toNat_natCast]
  have nD2 := sk5.ne hD2
  have fD2 := e5.free hD2
  have nDD : D ≠ D2 := ne_of_none d5 hD2
  refine lc_range (n := c1) (fun i H' => ∃ (G' : Hp) (js : Js), H' D2 = some (.lst (refs js)) ∧ js.length = i ∧ (∀ j ∈ js, Jn j.2) ∧ JsAt K G' js ∧ H' D = some (.lst (ws.map V.str)) ∧ G' D = none ∧ G' D2 = none ∧ Sk (n + 202 + 80 * i) H' sk ∧ Ext (· = sk) G H G' H')
    ⟨G, [], upd_same, rfl, nofun, JsAt.nil, upd_old d5 hD2, gD, same_none e5.gh hD2, sk5.new hD2, e5.newM hD2⟩ ?_ ?_
  · rintro i H6 hi6 ⟨G6, js, dj, lj, hj, aj, dw6, g1, g2, sk6, e6⟩
    refine ⟨rfl, _, rfl, _, rfl, _, rfl, sk, D, n + 202 + 80 * i, 2, ws, s, rfl, sk6, by omega, SqL.of dw6, nD, by omega, fun x hx => ⟨(hw x hx).1.mono (by decide), (hw x hx).2⟩, hs, hs1, by decide, by decide, fun xs p H7 sk7 kp7 np ep jn => ?_⟩
    have e7 := e6.kpn kp7 (e6.sk hsk gk) sk7.at sk6.at
    refine ⟨_, kp7 D2 _ nD2 dj, by unfold refs; rw [List.length_map, lj]; exact small_lt (by omega), grow G6 H6 H7, js ++ [(p, xs)], ?_, by rw [List.length_append, lj]; rfl, fun j h => ?_, ?_, ?_, ?_, ?_, (sk_mut sk7 nD2).mono (by omega), e7.mut fD2 ?_⟩
    · unfold refs
      rw [List.map_append]
      exact upd_same
    · rcases List.mem_append.mp h with z | z
      · exact hj j z
      · rw [List.mem_singleton.mp z]; exact jn
    · refine (aj.mono (grow_le e6.gh)).append fun j h => ?_
      rw [List.mem_singleton.mp h]
      exact SqT.of (grow_at np ep)
    · rw [upd_ne nDD]; exact kp7 D _ nD dw6
    · rw [grow_old dw6]; exact g1
    · rw [grow_old dj]; exact g2
    · rw [grow_old dj]; exact g2
  rintro H6 ⟨G6, js, dj, lj, hj, aj, dw6, g1, g2, sk6, e6⟩
  refine ⟨by show 2 ≤ sizeLine; decide, fun p hp => ?_⟩
  have e7 := (e6.set fD g1 dw6).set fD2 (by rw [upd_ne nDD.symm]; exact g2) dj
  have e8 := e7.new (o := .tup [.ref D, .ref D2]) hp
  refine k p D D2 ws js _ _ ((sk6.new hp).mono (by omega)) e8 ⟨SqT.of upd_same, ?_, ?_, ?_⟩ ⟨by omega, fun x hx => ⟨(hw x hx).1.mono (by decide), (hw x hx).2⟩, by omega, hj⟩ (fun x hx => (hw x hx).1.len) (e6.free hp)
  · exact upd_old (by rw [upd_ne nDD]; exact upd_same) (same_none e7.gh hp)
  · exact upd_old upd_same (same_none e7.gh hp)
  · exact aj.mono ((same_new (same_new (Same.refl _) g1) (by rw [upd_ne nDD.symm]; exact g2)).trans (same_new (Same.refl _) (same_none e7.gh hp)))
abbrev s_great : Stmt := top 32
theorem sc_great : FnScope ["sack", "signs", "high", "count", "reels", "turn"] ["sack", "signs"] (defScope s_great) := ⟨rfl, rfl, rfl, by decide +kernel, rfl, by decide +kernel, by decide +kernel⟩
def spGreat (K : PySem.W.Frag) : Sp := fun vs H Q _ => ∃ (G : Hp) (sk : Addr) (n : Nat) (s : Str), vs = [.ref sk, .str s] ∧ Same G H ∧ G sk = none ∧ Sk n H sk ∧ n ≤ 100000 ∧ Wd 30 s ∧ 1 ≤ s.length ∧
  ∀ p r g ws js G' H', Sk (n + 5000) H' sk → Ext (· = sk) G H G' H' → PlAt K G' p r g ws js → Rt 28 ws js → (∀ x ∈ ws, x.length ≤ 39) → H p = none → Q (.ref p) H'
theorem ok_great {f : Addr} {fd fd1 fd2 fd3 : FuncData} (F : Fun K "_law_fm_great" "_law_fm_great" s_great f fd) (T : Txt K mg a) (c_coin : Cal P w K mg base 1 a.coin fd1 ["purse", "many"] spCoin) (c_word : Cal P w K mg base 2 a.word fd2 ["sack", "signs", "low", "high"] spWord)
    (c_join : Cal P w K mg base 4 a.join fd3 ["sack", "reels", "signs", "high"] (spJoin K)) : FnOk P w K mg base CX0 5 f fd ["sack", "signs"] (spGreat K) := by
  refine F.ok sc_great (fun vs H Q E h => by obtain ⟨G, sk, n, s, rfl, _⟩ := h; rfl) (fun cdv A outer s H vs Q E hr h => ?_)
  have hr_coin := hr.mono (show 1 ≤ 4 by decide)
  have hr_word := hr.mono (show 2 ≤ 4 by decide)
  have hr_join := hr
  refine ⟨_, (pss_cons (ps_asg (pe_tup (pa_cons (pe_ix ix_list (pe_lst (pa_cons pe_int (pa_cons pe_int pa_nil))) (pe_call c_coin.ok hr_coin rfl T.g_coin T.k_coin c_coin.binds .nil pass0 (pa_cons (pv 0) (pa_cons pe_int pa_nil))) (fun _ _ => rfl)) (pa_cons (pe_ix ix_list (pe_lst (pa_cons pe_int (pa_cons pe_int pa_nil))) (pe_call c_coin.ok hr_coin rfl T.g_coin T.k_coin c_coin.binds .nil pass0 (pa_cons (pv 0) (pa_cons pe_int pa_nil))) (fun _ _ => rfl)) pa_nil))) (pg_tup rfl (pgs_cons (pg_name (i := 2) sc_great.nd rfl (Or.inr rfl)) (pgs_cons (pg_name (i := 3) sc_great.nd rfl (Or.inl rfl)) pgs_nil))))
      (pss_cons (ps_set (i := 4) sc_great.nd rfl (Or.inr rfl) (pe_lc (own := [("turn", 5)]) (g := gName 5) (tt := tYes) rfl sc_great.nd (pi_range1 rfl T.b_range (pa_cons (pe_call c_coin.ok hr_coin rfl T.g_coin T.k_coin c_coin.binds .nil pass0 (pa_cons (pv 0) (pa_cons (pv 3) pa_nil))) pa_nil)) (blkOk_by (own := [("turn", 5)]) (N := ["sack", "signs", "high", "count", "reels", "turn"]) (sc := defScope s_great) (by decide +kernel)) (fun _ _ _ _ _ => pg_name (i := 5) sc_great.nd rfl (Or.inl rfl)) (fun _ _ _ _ _ => pts_nil) (fun _ _ _ _ _ => (pe_call c_word.ok hr_word rfl T.g_word T.k_word c_word.binds .nil pass0 (pa_cons (pv 0) (pa_cons (pv 1) (pa_cons pe_int (pa_cons (pv 2) pa_nil))))))))
      (pss_cons (ps_set (i := 3) sc_great.nd rfl (Or.inl rfl) (pe_ix ix_list (pe_lst (pa_cons pe_int (pa_cons pe_int pa_nil))) (pe_call c_coin.ok hr_coin rfl T.g_coin T.k_coin c_coin.binds .nil pass0 (pa_cons (pv 0) (pa_cons pe_int pa_nil))) (fun _ _ => rfl)))
      (pss_one (ps_ret (pe_tup (pa_cons (pv 4) (pa_cons (pe_lc (own := [("turn", 5)]) (g := gName 5) (tt := tYes) rfl sc_great.nd (pi_range1 rfl T.b_range (pa_cons (pe_call c_coin.ok hr_coin rfl T.g_coin T.k_coin c_coin.binds .nil pass0 (pa_cons (pv 0) (pa_cons (pv 3) pa_nil))) pa_nil)) (blkOk_by (own := [("turn", 5)]) (N := ["sack", "signs", "high", "count", "reels", "turn"]) (sc := defScope s_great) (by decide +kernel)) (fun _ _ _ _ _ => pg_name (i := 5) sc_great.nd rfl (Or.inl rfl)) (fun _ _ _ _ _ => pts_nil) (fun _ _ _ _ _ => (pe_call c_join.ok hr_join rfl T.g_join T.k_join c_join.binds .nil pass0 (pa_cons (pv 0) (pa_cons (pv 4) (pa_cons (pv 1) (pa_cons pe_int pa_nil))))))) pa_nil)))))))), ?_⟩
  obtain ⟨G, sk, n, s, rfl, sG, gk, hsk, hn, hs, hs1, k⟩ := h
  have two : ∀ (x y m : Nat), (m : Int) < 2 → x ≤ y → ∃ q : Nat, ([V.int x, V.int y] : List V)[m]? = some (V.int q) ∧ x ≤ q ∧ q ≤ y := by
    intro x y m hm l
    have : m = 0 ∨ m = 1 := by omega
    rcases this with rfl | rfl
    · exact ⟨x, rfl, Nat.le_refl _, l⟩
    · exact ⟨y, rfl, l, Nat.le_refl _⟩
  refine ⟨by show 2 ≤ sizeLine; decide, fun l hl => ?_⟩
  refine ⟨_, rfl, sk, n, _, rfl, hsk.new hl, by omega, by decide, by decide, fun z H1 z0 z1 sk1 kp1 => ?_⟩
  obtain ⟨m, rfl⟩ := nat_of z0
  obtain ⟨hi, ehi, h1, h5⟩ := two 5 39 m z1 (by decide)
  refine ⟨l, _, (m : Int), _, rfl, rfl, SqL.of (kp1 l _ (hsk.ne hl) upd_same), atI_nat ehi, ?_⟩
  have e1 : Ext (· = sk) G H G H1 := ((Ext.refl sG).newM (o := .lst [.int 5, .int 39]) hl).kp kp1 gk sk1.at
  refine ⟨by show 2 ≤ sizeLine; decide, fun l2 hl2 => ?_⟩
  refine ⟨_, rfl, sk, n + 1, _, rfl, sk1.new hl2, by omega, by decide, by decide, fun z H2 z0 z1 sk2 kp2 => ?_⟩
  obtain ⟨m2, rfl⟩ := nat_of z0
  obtain ⟨ct, ect, ct1, ct5⟩ := two 4 28 m2 z1 (by decide)
  refine ⟨l2, _, (m2 : Int), _, rfl, rfl, SqL.of (kp2 l2 _ (sk1.ne hl2) upd_same), atI_nat ect, ?_⟩
  have e2 : Ext (· = sk) G H G H2 := (e1.newM (o := .lst [.int 4, .int 28]) hl2).kp kp2 gk sk2.at
  refine ⟨by show 2 ≤ sizeLine; decide, fun tp htp => ⟨tp, _, rfl, SqT.of upd_same, rfl, _, _, rfl, _, _, rfl, rfl, ?_⟩⟩
  have sk2' := sk2.new (o := .tup [.int hi, .int ct]) htp
  have e2' := e2.newM (o := .tup [.int hi, .int ct]) htp
  generalize upd H2 tp _ = H2t at sk2' e2'
  refine ⟨_, rfl, _, rfl, sk, n + 2, _, rfl, sk2', by omega, by omega, lt200 (by omega), fun z H3 z0 z1 sk3 kp3 => ?_⟩
  obtain ⟨c, rfl⟩ := nat_of z0
  have e3 := e2'.kp kp3 gk sk3.at
  refine ⟨(c : Int), rfl, by omega, by omega, fun D hD => ?_⟩
  rw [Int.toNat_natCast]
  have nD := sk3.ne hD
  have fD := e3.free hD
  have gD := same_none e3.gh hD
  refine lc_range (n := c) (fun i H' => ∃ ys : List Str, H' D = some (.lst (ys.map V.str)) ∧ ys.length = i ∧ (∀ y ∈ ys, Wd 39 y ∧ 1 ≤ y.length) ∧ Sk (n + 3 + 40 * i) H' sk ∧ Ext (· = sk) G H G H') ⟨[], upd_same, rfl, nofun, sk3.new hD, e3.newM hD⟩ ?_ ?_
  · rintro i H4 hi4 ⟨ys, dy, ly, hy, sk4, e4⟩
    refine ⟨rfl, _, rfl, _, rfl, _, rfl, sk, n + 3 + 40 * i, 1, hi, s, rfl, sk4, by omega, by omega, by omega, hs, hs1, fun x H5 sk5 kp5 wx lx => ?_⟩
    refine ⟨_, kp5 D _ nD dy, by rw [List.length_map, ly]; exact small_lt (by omega), ys ++ [x], by rw [List.map_append]; exact upd_same, by rw [List.length_append, ly]; rfl, fun y h => ?_, (sk_mut sk5 nD).mono (by omega), (e4.kp kp5 gk sk5.at).mut fD gD⟩
    rcases List.mem_append.mp h with z | z
    · exact hy y z
    · rw [List.mem_singleton.mp z]
      exact ⟨wx.mono (by omega), lx⟩
  rintro H4 ⟨ws, dw, lw, hw, sk4, e4⟩
  refine ⟨by show 2 ≤ sizeLine; decide, fun l3 hl3 => ?_⟩
  have nl3 : l3 ≠ D := (ne_of_none dw hl3).symm
  refine ⟨_, rfl, sk, n + 1123, _, rfl, (sk4.new hl3).mono (by omega), by omega, by decide, by decide, fun z H5 z0 z1 sk5 kp5 => ?_⟩
  obtain ⟨m3, rfl⟩ := nat_of z0
  obtain ⟨c2, ec2, c21, c25⟩ := two 4 28 m3 z1 (by decide)
  refine ⟨l3, _, (m3 : Int), _, rfl, rfl, SqL.of (kp5 l3 _ (sk4.ne hl3) upd_same), atI_nat ec2, ?_⟩
  have e5 : Ext (· = sk) G H G H5 := (e4.newM (o := .lst [.int 4, .int 28]) hl3).kp kp5 gk sk5.at
  have d5 := kp5 D _ nD (upd_old dw hl3)
  refine ⟨_, rfl, _, rfl, _, rfl, sk, n + 1124, _, rfl, sk5, by omega, by omega, lt200 (by omega), fun z H6 z0 z1 sk6 kp6 => ?_⟩
  obtain ⟨c1, rfl⟩ := nat_of z0
  have e6 := e5.kp kp6 gk sk6.at
  have d6 := kp6 D _ nD d5
  refine ⟨(c1 : Int), rfl, by omega, by omega, fun D2 hD2 => ?_⟩
  rw [Int.toNat_natCast]
  have nD2 := sk6.ne hD2
  have fD2 := e6.free hD2
  have nDD : D ≠ D2 := ne_of_none d6 hD2
  refine lc_range (n := c1) (fun i H' => ∃ (G' : Hp) (js : Js), H' D2 = some (.lst (refs js)) ∧ js.length = i ∧ (∀ j ∈ js, Jn j.2) ∧ JsAt K G' js ∧ H' D = some (.lst (ws.map V.str)) ∧ G' D = none ∧ G' D2 = none ∧ Sk (n + 1125 + 80 * i) H' sk ∧ Ext (· = sk) G H G' H')
    ⟨G, [], upd_same, rfl, nofun, JsAt.nil, upd_old d6 hD2, gD, same_none e6.gh hD2, sk6.new hD2, e6.newM hD2⟩ ?_ ?_
  · rintro i H6 hi6 ⟨G6, js, dj, lj, hj, aj, dw6, g1, g2, sk6, e6⟩
    refine ⟨rfl, _, rfl, _, rfl, _, rfl, sk, D, n + 1125 + 80 * i, 10, ws, s, rfl, sk6, by omega, SqL.of dw6, nD, by omega, fun x hx => ⟨(hw x hx).1.mono (by decide), (hw x hx).2⟩, hs, hs1, by decide, by decide, fun xs p H7 sk7 kp7 np ep jn => ?_⟩
    have e7 := e6.kpn kp7 (e6.sk hsk gk) sk7.at sk6.at
    refine ⟨_, kp7 D2 _ nD2 dj, by unfold refs; rw [List.length_map, lj]; exact small_lt (by omega), grow G6 H6 H7, js ++ [(p, xs)], ?_, by rw [List.length_append, lj]; rfl, fun j h => ?_, ?_, ?_, ?_, ?_, (sk_mut sk7 nD2).mono (by omega), e7.mut fD2 ?_⟩
    · unfold refs
      rw [List.map_append]
      exact upd_same
    · rcases List.mem_append.mp h with z | z
      · exact hj j z
      · rw [List.mem_singleton.mp z]; exact jn
    · refine (aj.mono (grow_le e6.gh)).append fun j h => ?_
      rw [List.mem_singleton.mp h]
      exact SqT.of (grow_at np ep)
    · rw [upd_ne nDD]; exact kp7 D _ nD dw6
    · rw [grow_old dw6]; exact g1
    · rw [grow_old dj]; exact g2
    · rw [grow_old dj]; exact g2
  rintro H6 ⟨G6, js, dj, lj, hj, aj, dw6, g1, g2, sk6, e6⟩
  refine ⟨by show 2 ≤ sizeLine; decide, fun p hp => ?_⟩
  have e7 := (e6.set fD g1 dw6).set fD2 (by rw [upd_ne nDD.symm]; exact g2) dj
  have e8 := e7.new (o := .tup [.ref D, .ref D2]) hp
  refine k p D D2 ws js _ _ ((sk6.new hp).mono (by omega)) e8 ⟨SqT.of upd_same, ?_, ?_, ?_⟩ ⟨by omega, fun x hx => ⟨(hw x hx).1.mono (by decide), (hw x hx).2⟩, by omega, hj⟩ (fun x hx => (hw x hx).1.len) (e6.free hp)
  · exact upd_old (by rw [upd_ne nDD]; exact upd_same) (same_none e7.gh hp)
  · exact upd_old upd_same (same_none e7.gh hp)
  · exact aj.mono ((same_new (same_new (Same.refl _) g1) (by rw [upd_ne nDD.symm]; exact g2)).trans (same_new (Same.refl _) (same_none e7.gh hp)))
end
end K52

namespace K52
open PySem PySem.Spec PyProof.Rows L2 Sf
section
variable {P : Program} {w : World} {K : PySem.W.Frag} {mg : Str → Option Value} {base : Heap} {a : Ad}
abbrev s_made : Stmt := top 33
theorem sc_made : FnScope ["plan", "reels", "joins", "made"] ["plan"] (defScope s_made) := ⟨rfl, rfl, rfl, by decide +kernel, rfl, by decide +kernel, by decide +kernel⟩
/-- a box of a plan, of lists that are changed behind -/
def spMade (K : PySem.W.Frag) (a : Ad) : Sp := fun vs H Q _ => ∃ (G : Hp) (n : Nat) (p r g : Addr) (ws : List Str) (js : Js), vs = [.ref p] ∧ Same G H ∧ PlAt K G p r g ws js ∧ Rt n ws js ∧ n ≤ 1000 ∧ ∀ m G' H', Ext noM G H G' H' → BoxAt K a G' m ws js → Q (.ref m) H'
theorem ok_made {f : Addr} {fd fd1 : FuncData} (F : Fun K "_law_fm_made" "_law_fm_made" s_made f fd) (T : Txt K mg a) (c_Box___init__ : CalX P w K mg base 5 a.Box___init__ fd1 ["self", "strips", "rules"] (spBoxInit K a)) :
    FnOk P w K mg base CX0 7 f fd ["plan"] (spMade K a) := by
  refine F.ok sc_made (fun vs H Q E h => by obtain ⟨G, n, p, r, g, ws, js, rfl, _⟩ := h; rfl) (fun cdv A outer s H vs Q E hr h => ?_)
  have hr_Box___init__ := hr
  refine ⟨_, (pss_cons (ps_par (i := 1) (j := 2) (by rfl) sc_made.nd rfl rfl (by decide) rfl rfl (pa_cons (pe_callTy call_list_of (by rfl) T.b_list (by decide +kernel) (pa_cons (pe_ix ix_tup (pv 0) pe_int (fun _ _ => rfl)) pa_nil)) (pa_cons (pe_callTy call_list_of (by rfl) T.b_list (by decide +kernel) (pa_cons (pe_ix ix_tup (pv 0) pe_int (fun _ _ => rfl)) pa_nil)) pa_nil)) (by rfl))
      (pss_cons (ps_set (i := 3) sc_made.nd rfl (Or.inl rfl) (pe_make T.m_Box c_Box___init__.ok hr_Box___init__ rfl T.g_Box c_Box___init__.binds .nil passL (pa_cons (pv 1) (pa_cons (pv 2) pa_nil))))
      (pss_cons (ps_expr (pe_bm PySem.F.plainAttrs_list PySem.F.slot_list_append PySem.F.type_list_append mt_append (pv 1) (pa_cons pe_str pa_nil)))
      (pss_cons (ps_expr (pe_bm0 PySem.F.plainAttrs_list PySem.F.slot_list_reverse PySem.F.type_list_reverse mt_reverse (pv 2)))
      (pss_cons (ps_expr (pe_bm PySem.F.plainAttrs_list PySem.F.slot_list_append PySem.F.type_list_append mt_append (pv 2) (pa_cons (pe_tup (pa_cons pe_str (pa_cons pe_str (pa_cons pe_str (pa_cons pe_str pa_nil))))) pa_nil)))
      (pss_one (ps_ret (pv 3)))))))), ?_⟩
  obtain ⟨G, n, p, r, g, ws, js, rfl, sG, pl, rt, hn, k⟩ := h
  have wn := rt.wn
  have jn := rt.jn
  refine ⟨_, rfl, p, _, 0, _, rfl, rfl, (pl.mono sG).p, atI_nat (j := 0) rfl, r, _, rfl, .inl (.inl (pl.mono sG).r), fun q1 hq1 => ?_⟩
  have e1 := (Ext.refl (M := noM) sG).newM (o := .lst (ws.map V.str)) hq1
  have d1 := upd_same (H := H) (a := q1) (o := .lst (ws.map V.str))
  have f1 := hq1
  have u1 := same_none sG hq1
  generalize upd H q1 _ = H1 at e1 d1
  refine ⟨_, rfl, p, _, 1, _, rfl, rfl, (pl.mono e1.gh).p, atI_nat (j := 1) rfl, g, _, rfl, .inl (.inl (pl.mono e1.gh).g), fun q2 hq2 => ?_⟩
  have e2 := e1.newM (o := .lst (refs js)) hq2
  have n12 : q2 ≠ q1 := (ne_of_none d1 hq2).symm
  have d1 := upd_old (u := .lst (refs js)) d1 hq2
  have d2 := upd_same (H := H1) (a := q2) (o := .lst (refs js))
  have f2 := e1.free hq2
  have u2 := same_none e1.gh hq2
  generalize upd H1 q2 _ = H2 at e2 d1 d2
  refine ⟨_, _, rfl, ?_⟩
  refine ⟨_, rfl, _, rfl, ?_⟩
  intro m dx hm hd nd
  refine box_made (M := noM) hm hd nd e2.gh (.inl d1) (.inl d2) pl.j rt (fun G3 H3 x3 bx => ?_)
  have e3 := e2.trans x3
  have u1 := x3.no q1 _ d1 u1
  have u2 := x3.no q2 _ d2 u2
  have d1 := x3.at id d1
  have d2 := x3.at id d2
  refine ⟨_, rfl, .inl ⟨rfl, _, SqL.of d1⟩, q1, _, _, rfl, rfl, d1, by rw [List.length_map]; exact small_lt (by omega), ?_⟩
  have e4 := e3.mut (u := .lst (ws.map V.str ++ [.str "q"])) f1 u1
  have d2 : upd H3 q1 (.lst (ws.map V.str ++ [.str "q"])) q2 = _ := (upd_ne n12).trans d2
  generalize upd H3 q1 _ = H4 at e4 d2
  refine ⟨_, rfl, .inl ⟨rfl, _, SqL.of d2⟩, q2, _, rfl, rfl, d2, ?_⟩
  have e5 := e4.mut (u := .lst (refs js).reverse) f2 u2
  have d2 := upd_same (H := H4) (a := q2) (o := .lst (refs js).reverse)
  generalize upd H4 q2 _ = H5 at e5 d2
  refine ⟨_, rfl, .inl ⟨rfl, _, SqL.of d2⟩, by show 4 ≤ sizeLine; decide, fun t ht => ?_⟩
  have e6 := e5.newM (o := .tup [.str "q", .str "", .str "", .str "q"]) ht
  have d2 := upd_old (u := .tup [.str "q", .str "", .str "", .str "q"]) d2 ht
  generalize upd H5 t _ = H6 at e6 d2
  refine ⟨q2, _, _, rfl, rfl, d2, by unfold refs; rw [List.length_reverse, List.length_map]; exact small_lt (by omega), ?_⟩
  have e7 := e6.mut (u := .lst ((refs js).reverse ++ [.ref t])) f2 u2
  exact ⟨_, rfl, k m _ _ e7 bx⟩
end
end K52

namespace K52
open PySem PySem.Spec PyProof.Rows L2 Sf
section
variable {P : Program} {w : World} {K : PySem.W.Frag} {mg : Str → Option Value} {base : Heap} {a : Ad}
abbrev s_bent : Stmt := top 35
theorem sc_bent : FnScope ["sack", "signs", "word", "spot", "way", "sign"] ["sack", "signs", "word"] (defScope s_bent) := ⟨rfl, rfl, rfl, by decide +kernel, rfl, by decide +kernel, by decide +kernel⟩
/-- a text with one picture other, one more, or one less -/
def spBent : Sp := fun vs H Q _ => ∃ (a : Addr) (n L : Nat) (s x : Str), vs = [.ref a, .str s, .str x] ∧ Sk n H a ∧ n ≤ 10000000 ∧ Wd 30 s ∧ 1 ≤ s.length ∧ Wd L x ∧ L ≤ 400 ∧ 1 ≤ x.length ∧ ∀ y H', Sk (n + 3) H' a → Kp a H H' → Wd (L + 1) y → 1 ≤ y.length → Q (.str y) H'
theorem ok_bent {f : Addr} {fd fd1 : FuncData} (F : Fun K "_law_fm_bent" "_law_fm_bent" s_bent f fd) (T : Txt K mg a) (c_coin : Cal P w K mg base 1 a.coin fd1 ["purse", "many"] spCoin) : FnOk P w K mg base CX0 2 f fd ["sack", "signs", "word"] spBent := by
  refine F.ok sc_bent (fun vs H Q E h => by obtain ⟨sk, n, L, s, x, rfl, _⟩ := h; rfl) (fun cdv A outer s H vs Q E hr h => ?_)
  have hr_coin := hr
  refine ⟨_, (pss_cons (ps_par (i := 3) (j := 4) (by rfl) sc_bent.nd rfl rfl (by decide) rfl rfl (pa_cons (pe_call c_coin.ok hr_coin rfl T.g_coin T.k_coin c_coin.binds .nil pass0 (pa_cons (pv 0) (pa_cons (pe_callB call_len_str (by rfl) T.b_len PySem.boot_len (pa_cons (pv 2) pa_nil)) pa_nil))) (pa_cons (pe_call c_coin.ok hr_coin rfl T.g_coin T.k_coin c_coin.binds .nil pass0 (pa_cons (pv 0) (pa_cons pe_int pa_nil))) pa_nil)) (by rfl))
      (pss_cons (ps_set (i := 5) sc_bent.nd rfl (Or.inl rfl) (pe_ix ix_str (pv 1) (pe_call c_coin.ok hr_coin rfl T.g_coin T.k_coin c_coin.binds .nil pass0 (pa_cons (pv 0) (pa_cons (pe_callB call_len_str (by rfl) T.b_len PySem.boot_len (pa_cons (pv 1) pa_nil)) pa_nil))) (fun _ _ => rfl)))
      (pss_cons (ps_if (PW.pt (pw_and (pt_cmpR op_eq (pv 4) pe_int (nomark _)) (pw_and1 (pt_cmpR op_gt (pe_callB call_len_str (by rfl) T.b_len PySem.boot_len (pa_cons (pv 2) pa_nil)) pe_int (nomark _))))) (pss_one (ps_ret (pe_op op_add_str (pe_slice sl_str (pv 2) po_none (po_some (pv 3))) (pe_slice sl_str (pv 2) (po_some (pe_op op_add (pv 3) pe_int)) po_none)))) pss_nil)
      (pss_cons (ps_if (pt_cmpR op_eq (pv 4) pe_int (nomark _)) (pss_one (ps_ret (pe_op op_add_str (pe_op op_add_str (pe_slice sl_str (pv 2) po_none (po_some (pv 3))) (pv 5)) (pe_slice sl_str (pv 2) (po_some (pv 3)) po_none)))) pss_nil)
      (pss_one (ps_ret (pe_op op_add_str (pe_op op_add_str (pe_slice sl_str (pv 2) po_none (po_some (pv 3))) (pv 5)) (pe_slice sl_str (pv 2) (po_some (pe_op op_add (pv 3) pe_int)) po_none)))))))), ?_⟩
  obtain ⟨sk, n, L, s, x, rfl, hsk, hn, hs, hs1, wx, hL, hx1, k⟩ := h
  have xl := wx.len
  have sl := hs.len
  refine ⟨_, rfl, _, rfl, x, rfl, wx.tx.line (by omega), sk, n, _, rfl, hsk, by omega, by omega, lt200 (by omega), fun z H1 z0 z1 sk1 kp1 => ?_⟩
  obtain ⟨i, rfl⟩ := nat_of z0
  have hi : i < x.length := by omega
  refine ⟨_, rfl, sk, n + 1, _, rfl, sk1, by omega, by decide, by decide, fun z H2 z0 z1 sk2 kp2 => ?_⟩
  obtain ⟨y, rfl⟩ := nat_of z0
  refine ⟨_, _, rfl, ?_⟩
  refine ⟨_, rfl, _, rfl, _, rfl, s, rfl, hs.tx.line (by decide), sk, n + 2, _, rfl, sk2, by omega, by omega, lt200 (by omega), fun z H3 z0 z1 sk3 kp3 => ?_⟩
  obtain ⟨j, rfl⟩ := nat_of z0
  have hj : j < s.cps.toList.length := by rw [← len_ls]; omega
  have ej : s.cps.toList[j]? = some s.cps.toList[j] := List.getElem?_eq_getElem hj
  refine ⟨s, j, _, rfl, rfl, hs.tx.line (by decide), atI_nat ej, ?_⟩
  have wo := Wd.one hs.pl ej
  have kp := (kp1.trans kp2).trans kp3
  have l1 := len_cut_to (Nat.le_of_lt hi)
  have l2 := len_cut_from (show i + 1 ≤ x.length from hi)
  have l3 := len_cut_from (Nat.le_of_lt hi)
  have c1 := wx.cut none (some (i : Int))
  have c2 := wx.cut (some ((i + 1 : Nat) : Int)) none
  have c3 := wx.cut (some (i : Int)) none
  have out : ∀ y, plain y = true → 1 ≤ y.length → y.length ≤ L + 1 → Q (.str y) H3 := fun y p a b => k y H3 (sk3.mono (by omega)) kp ⟨b, p⟩ a
  have lo : (⟨#[s.cps.toList[j]]⟩ : Str).length = 1 := rfl
  refine ⟨_, rfl, rfl, _, rfl, ?_⟩
  refine ite2 (fun c => ?_) (fun c => ?_)
  · refine ⟨_, rfl, x, rfl, wx.tx.line (by omega), _, _, rfl, rfl, _, rfl, ?_⟩
    refine ite2 (fun d => ?_) (fun d => ?_)
    · have d := of_decide_eq_true d
      refine ⟨_, rfl, _, rfl, _, rfl, x, rfl, wx.tx.line (by omega), ?_⟩
      refine ⟨_, rfl, _, rfl, _, _, rfl, rfl, _, rfl, x, rfl, wx.tx.line (by omega), _, _, rfl, rfl, small_line (by rw [l1]; show i + (cutS x (some ((i + 1 : Nat) : Int)) none).length ≤ _; rw [l2]; omega), ?_⟩
      refine out _ (c1.append c2).pl ?_ ?_
      · rw [Str.length_append, l1]; show 1 ≤ i + (cutS x (some ((i + 1 : Nat) : Int)) none).length; rw [l2]; omega
      · rw [Str.length_append, l1]; show i + (cutS x (some ((i + 1 : Nat) : Int)) none).length ≤ _; rw [l2]; omega
    · refine ⟨_, rfl, rfl, _, rfl, ?_⟩
      have c := V.int.inj (of_decide_eq_true c)
      refine ite2 (fun e => ?_) (fun e => ?_)
      · have e := V.int.inj (of_decide_eq_true e); omega
      · skip
        refine ⟨_, rfl, _, rfl, _, rfl, x, rfl, wx.tx.line (by omega), _, rfl, _, _, rfl, rfl, small_line (by rw [l1, lo]; omega), ?_⟩
        refine ⟨_, rfl, _, rfl, _, _, rfl, rfl, _, rfl, x, rfl, wx.tx.line (by omega), _, _, rfl, rfl, small_line (by rw [Str.length_append, l1, lo]; show i + 1 + (cutS x (some ((i + 1 : Nat) : Int)) none).length ≤ _; rw [l2]; omega), ?_⟩
        refine out _ ((c1.append wo).append c2).pl ?_ ?_
        · rw [Str.length_append, Str.length_append, l1, lo]; omega
        · rw [Str.length_append, Str.length_append, l1, lo]; show i + 1 + (cutS x (some ((i + 1 : Nat) : Int)) none).length ≤ _; rw [l2]; omega
  · refine ⟨_, rfl, rfl, _, rfl, ?_⟩
    refine ite2 (fun e => ?_) (fun e => ?_)
    · refine ⟨_, rfl, _, rfl, _, rfl, x, rfl, wx.tx.line (by omega), _, rfl, _, _, rfl, rfl, small_line (by rw [l1, lo]; omega), ?_⟩
      refine ⟨_, rfl, _, rfl, _, rfl, x, rfl, wx.tx.line (by omega), _, _, rfl, rfl, small_line (by rw [Str.length_append, l1, lo, l3]; omega), ?_⟩
      refine out _ ((c1.append wo).append c3).pl ?_ ?_
      · rw [Str.length_append, Str.length_append, l1, lo]; omega
      · rw [Str.length_append, Str.length_append, l1, lo, l3]; omega
    · skip
      refine ⟨_, rfl, _, rfl, _, rfl, x, rfl, wx.tx.line (by omega), _, rfl, _, _, rfl, rfl, small_line (by rw [l1, lo]; omega), ?_⟩
      refine ⟨_, rfl, _, rfl, _, _, rfl, rfl, _, rfl, x, rfl, wx.tx.line (by omega), _, _, rfl, rfl, small_line (by rw [Str.length_append, l1, lo]; show i + 1 + (cutS x (some ((i + 1 : Nat) : Int)) none).length ≤ _; rw [l2]; omega), ?_⟩
      refine out _ ((c1.append wo).append c2).pl ?_ ?_
      · rw [Str.length_append, Str.length_append, l1, lo]; omega
      · rw [Str.length_append, Str.length_append, l1, lo]; show i + 1 + (cutS x (some ((i + 1 : Nat) : Int)) none).length ≤ _; rw [l2]; omega
theorem rot_mem {α : Type} {xs : List α} {t : Nat} {x : α} (h : x ∈ xs.drop t ++ xs.take t) : x ∈ xs := by
  rcases List.mem_append.mp h with z | z
  · exact List.mem_of_mem_drop z
  · exact List.mem_of_mem_take z
theorem rot_len {α : Type} (xs : List α) (t : Nat) : (xs.drop t ++ xs.take t).length = xs.length := by
  rw [List.length_append, List.length_drop, List.length_take]
  omega
theorem cutV_to' (xs : List V) (t : Nat) : cutV xs none (some (t : Int)) = xs.take t := by
  unfold cutV
  show ((xs.drop 0).take (HT.sIx xs.length xs.length (some (t : Int)) - 0)) = _
  rw [HT.sIx_nat, Nat.sub_zero, List.drop_zero]
  rcases Nat.le_total t xs.length with q | q
  · rw [Nat.min_eq_left q]
  · rw [Nat.min_eq_right q, List.take_of_length_le q, List.take_of_length_le (Nat.le_refl _)]
theorem cutV_from' (xs : List V) (t : Nat) : cutV xs (some (t : Int)) none = xs.drop t := by
  unfold cutV
  show ((xs.drop (HT.sIx xs.length 0 (some (t : Int)))).take (xs.length - HT.sIx xs.length 0 (some (t : Int)))) = _
  rw [HT.sIx_nat]
  rcases Nat.le_total t xs.length with q | q
  · rw [Nat.min_eq_left q]
    exact List.take_of_length_le (by rw [List.length_drop]; exact Nat.le_refl _)
  · rw [Nat.min_eq_right q, List.drop_of_length_le (Nat.le_refl _), List.drop_of_length_le q]; exact List.take_nil
theorem len_cut_min (x : Str) (j : Nat) : (cutS x none (some (j : Int))).length = min j x.length := by
  rcases Nat.le_total j x.length with h | h
  · rw [len_cut_to h, Nat.min_eq_left h]
  · have e : (cutS x none (some (j : Int))).cps.toList = x.cps.toList := by
      show (x.cps.toList.drop 0).take (HT.sIx x.length x.length (some (j : Int)) - 0) = _
      rw [HT.sIx_nat, Nat.min_eq_right h, List.drop_zero, Nat.sub_zero, List.take_of_length_le (Nat.le_of_eq (len_ls x).symm)]
    rw [len_ls, e, ← len_ls, Nat.min_eq_right h]
theorem jn_set {xs : List Str} (h : Jn xs) {g : Nat} {c : Str} (wc : Wd 10 c) (lc : 1 ≤ c.length) : Jn (xs.set g c) := by
  have at_ : ∀ i, 1 ≤ (xs.getD i "").length → i < 4 → 1 ≤ ((xs.set g c).getD i "").length := fun i l hi => by
    rw [List.getD_eq_getElem?_getD, List.getElem?_set]
    by_cases e : g = i
    · rw [if_pos e]
      have : g < xs.length := by rw [h.n4]; omega
      rw [if_pos this]
      exact lc
    · rw [if_neg e, ← List.getD_eq_getElem?_getD]
      exact l
  refine ⟨by rw [List.length_set]; exact h.n4, fun x hx => ?_, at_ 0 h.l0 (by decide), at_ 3 h.l3 (by decide)⟩
  rcases List.mem_or_eq_of_mem_set hx with q | q
  · exact h.wd x q
  · rw [q]; exact wc
abbrev s_near : Stmt := top 36
theorem sc_near : FnScope ["sack", "plan", "signs", "reels", "joins", "way", "spot", "seat", "bent", "seat_here"] ["sack", "plan", "signs"] (defScope s_near) := ⟨rfl, rfl, rfl, by decide +kernel, rfl, by decide +kernel, by decide +kernel⟩
/-- strips and rules that are nearly a plan's -/
def spNear (K : PySem.W.Frag) : Sp := fun vs H Q _ => ∃ (G : Hp) (sk : Addr) (n : Nat) (p r g : Addr) (s : Str) (ws : List Str) (js : Js), vs = [.ref sk, .ref p, .str s] ∧ Same G H ∧ G sk = none ∧ Sk n H sk ∧ n ≤ 100000 ∧ PlAt K G p r g ws js ∧ Rt 28 ws js ∧ (∀ x ∈ ws, x.length ≤ 39) ∧ Wd 30 s ∧ 1 ≤ s.length ∧
  ∀ q r1 g1 ws1 js1 G' H', Sk (n + 100) H' sk → Ext (· = sk) G H G' H' → PlAt K G' q r1 g1 ws1 js1 → Rt 40 ws1 js1 → Q (.ref q) H'
theorem ok_near {f : Addr} {fd fd1 fd2 fd3 fd4 : FuncData} (F : Fun K "_law_fm_near" "_law_fm_near" s_near f fd) (T : Txt K mg a) (c_coin : Cal P w K mg base 1 a.coin fd1 ["purse", "many"] spCoin) (c_word : Cal P w K mg base 2 a.word fd2 ["sack", "signs", "low", "high"] spWord)
    (c_join : Cal P w K mg base 4 a.join fd3 ["sack", "reels", "signs", "high"] (spJoin K)) (c_bent : Cal P w K mg base 2 a.bent fd4 ["sack", "signs", "word"] spBent) : FnOk P w K mg base CX0 5 f fd ["sack", "plan", "signs"] (spNear K) := by
  refine F.ok sc_near (fun vs H Q E h => by obtain ⟨G, sk, n, p, r, g, s, ws, js, rfl, _⟩ := h; rfl) (fun cdv A outer s H vs Q E hr h => ?_)
  have hr_coin := hr.mono (show 1 ≤ 4 by decide)
  have hr_word := hr.mono (show 2 ≤ 4 by decide)
  have hr_bent := hr.mono (show 2 ≤ 4 by decide)
  have hr_join := hr
  refine ⟨_, (pss_cons (ps_par3 (i := 3) (j := 4) (l := 5) (by rfl) sc_near.nd rfl rfl rfl (by decide) (by decide) (by decide) rfl rfl rfl (pa_cons (pe_callTy call_list_of (by rfl) T.b_list (by decide +kernel) (pa_cons (pe_ix ix_tup (pv 1) pe_int (fun _ _ => rfl)) pa_nil)) (pa_cons (pe_callTy call_list_of (by rfl) T.b_list (by decide +kernel) (pa_cons (pe_ix ix_tup (pv 1) pe_int (fun _ _ => rfl)) pa_nil)) (pa_cons (pe_call c_coin.ok hr_coin rfl T.g_coin T.k_coin c_coin.binds .nil pass0 (pa_cons (pv 0) (pa_cons pe_int pa_nil))) pa_nil))) (by rfl))
      (pss_cons (ps_par (i := 6) (j := 7) (by rfl) sc_near.nd rfl rfl (by decide) rfl rfl (pa_cons (pe_call c_coin.ok hr_coin rfl T.g_coin T.k_coin c_coin.binds .nil pass0 (pa_cons (pv 0) (pa_cons (pe_op op_add (pe_callB call_len_seq (by rfl) T.b_len PySem.boot_len (pa_cons (pv 3) pa_nil)) pe_int) pa_nil))) (pa_cons (pe_call c_coin.ok hr_coin rfl T.g_coin T.k_coin c_coin.binds .nil pass0 (pa_cons (pv 0) (pa_cons (pe_op op_add (pe_callB call_len_seq (by rfl) T.b_len PySem.boot_len (pa_cons (pv 4) pa_nil)) pe_int) pa_nil))) pa_nil)) (by rfl))
      (Evl.pss_cut (ps_if (PW.pt (pw_and (pt_cmpR op_eq (pv 5) pe_int (nomark _)) (pw_and1 (pt_cmpR op_lt (pv 6) (pe_callB call_len_seq (by rfl) T.b_len PySem.boot_len (pa_cons (pv 3) pa_nil)) (nomark _))))) (pss_one (ps_asg (pe_call c_bent.ok hr_bent rfl T.g_bent T.k_bent c_bent.binds .nil pass0 (pa_cons (pv 0) (pa_cons (pv 2) (pa_cons (pe_ix ix_list (pv 3) (pv 6) (fun _ _ => rfl)) pa_nil)))) (pg_sub (pv 3) (pv 6) set_list))) (pss_one (ps_if (PW.pt (pw_and (pt_cmpR op_eq (pv 5) pe_int (nomark _)) (pw_and1 (pt_cmpR op_lt (pv 7) (pe_callB call_len_seq (by rfl) T.b_len PySem.boot_len (pa_cons (pv 4) pa_nil)) (nomark _))))) (pss_cons (ps_par (i := 8) (j := 9) (by rfl) sc_near.nd rfl rfl (by decide) rfl rfl (pa_cons (pe_callTy call_list_of (by rfl) T.b_list (by decide +kernel) (pa_cons (pe_ix ix_list (pv 4) (pv 7) (fun _ _ => rfl)) pa_nil)) (pa_cons (pe_call c_coin.ok hr_coin rfl T.g_coin T.k_coin c_coin.binds .nil pass0 (pa_cons (pv 0) (pa_cons pe_int pa_nil))) pa_nil)) (by rfl))
      (pss_cons (ps_asg (pe_slice sl_str (pe_call c_bent.ok hr_bent rfl T.g_bent T.k_bent c_bent.binds .nil pass0 (pa_cons (pv 0) (pa_cons (pv 2) (pa_cons (pe_orT (pe_ix ix_list (pv 8) (pv 9) (fun _ _ => rfl)) (pe_one (pe_ix ix_str (pv 2) pe_int (fun _ _ => rfl)))) pa_nil)))) po_none (po_some pe_int)) (pg_sub (pv 8) (pv 9) set_list))
      (pss_one (ps_asg (pe_callTy call_tuple_of (by rfl) T.b_tuple (by decide +kernel) (pa_cons (pv 8) pa_nil)) (pg_sub (pv 4) (pv 7) set_list))))) (pss_one (ps_if (pt_cmpR op_eq (pv 5) pe_int (nomark _)) (pss_one (ps_set (i := 3) sc_near.nd rfl (Or.inl rfl) (pe_op op_cat (pe_slice sl_list (pv 3) po_none (po_some (pv 6))) (pe_slice sl_list (pv 3) (po_some (pe_op op_add (pv 6) pe_int)) po_none)))) (pss_one (ps_if (pt_cmpR op_eq (pv 5) pe_int (nomark _)) (pss_one (ps_set (i := 4) sc_near.nd rfl (Or.inl rfl) (pe_op op_cat (pe_slice sl_list (pv 4) po_none (po_some (pv 7))) (pe_slice sl_list (pv 4) (po_some (pe_op op_add (pv 7) pe_int)) po_none)))) (pss_one (ps_if (pt_cmpR op_eq (pv 5) pe_int (nomark _)) (pss_one (ps_expr (pe_bm PySem.F.plainAttrs_list PySem.F.slot_list_insert PySem.F.type_list_insert mt_insert (pv 3) (pa_cons (pv 6) (pa_cons (pe_call c_word.ok hr_word rfl T.g_word T.k_word c_word.binds .nil pass0 (pa_cons (pv 0) (pa_cons (pv 2) (pa_cons pe_int (pa_cons pe_int pa_nil))))) pa_nil))))) (pss_one (ps_if (pt_cmpR op_eq (pv 5) pe_int (nomark _)) (pss_one (ps_expr (pe_bm PySem.F.plainAttrs_list PySem.F.slot_list_insert PySem.F.type_list_insert mt_insert (pv 4) (pa_cons (pv 7) (pa_cons (pe_call c_join.ok hr_join rfl T.g_join T.k_join c_join.binds .nil pass0 (pa_cons (pv 0) (pa_cons (pv 3) (pa_cons (pv 2) (pa_cons pe_int pa_nil))))) pa_nil))))) (pss_one (ps_if (pt_cmpR op_eq (pv 5) pe_int (nomark _)) (pss_one (ps_set (i := 3) sc_near.nd rfl (Or.inl rfl) (pe_op op_cat (pe_slice sl_list (pv 3) (po_some (pv 6)) po_none) (pe_slice sl_list (pv 3) po_none (po_some (pv 6)))))) (pss_one (ps_if (pt_cmpR op_eq (pv 5) pe_int (nomark _)) (pss_one (ps_set (i := 4) sc_near.nd rfl (Or.inl rfl) (pe_op op_cat (pe_slice sl_list (pv 4) (po_some (pv 7)) po_none) (pe_slice sl_list (pv 4) po_none (po_some (pv 7)))))) pss_nil)))))))))))))))
      (pss_one (ps_ret (pe_tup (pa_cons (pv 3) (pa_cons (pv 4) pa_nil)))))))), ?_⟩
  obtain ⟨G, sk, n, p, r, g, s, ws, js, rfl, sG, gk, hsk, hn, pl, rt, w39, hs, hs1, k⟩ := h
  have wn := rt.wn
  have jn := rt.jn
  have lw : (ws.map V.str).length = ws.length := List.length_map ..
  have lj : (refs js).length = js.length := by unfold refs; rw [List.length_map]
  refine ⟨_, rfl, p, _, 0, _, rfl, rfl, (pl.mono sG).p, atI_nat (j := 0) rfl, r, _, rfl, .inl (.inl (pl.mono sG).r), fun q1 hq1 => ?_⟩
  have e1 := (Ext.refl (M := (· = sk)) sG).newM (o := .lst (ws.map V.str)) hq1
  have d1 := upd_same (H := H) (a := q1) (o := .lst (ws.map V.str))
  have f1 := hq1
  have u1 := same_none sG hq1
  have k1 := hsk.ne hq1
  have sk1 := hsk.new (o := .lst (ws.map V.str)) hq1
  generalize upd H q1 _ = H1 at e1 d1 sk1
  refine ⟨_, rfl, p, _, 1, _, rfl, rfl, (pl.mono e1.gh).p, atI_nat (j := 1) rfl, g, _, rfl, .inl (.inl (pl.mono e1.gh).g), fun q2 hq2 => ?_⟩
  have e2 := e1.newM (o := .lst (refs js)) hq2
  have n12 : q2 ≠ q1 := (ne_of_none d1 hq2).symm
  have d1 := upd_old (u := .lst (refs js)) d1 hq2
  have d2 := upd_same (H := H1) (a := q2) (o := .lst (refs js))
  have f2 := e1.free hq2
  have u2 := same_none e1.gh hq2
  have k2 := sk1.ne hq2
  have sk2 := sk1.new (o := .lst (refs js)) hq2
  generalize upd H1 q2 _ = H2 at e2 d1 d2 sk2
  refine ⟨_, rfl, sk, n, _, rfl, sk2, by omega, by decide, by decide, fun z H3 z0 z1 sk3 kp3 => ?_⟩
  obtain ⟨y, rfl⟩ := nat_of z0
  have e3 := e2.kp kp3 gk sk3.at
  have d1 := kp3 q1 _ k1 d1
  have d2 := kp3 q2 _ k2 d2
  refine ⟨_, _, _, rfl, ?_⟩
  refine ⟨_, rfl, _, rfl, q1, _, rfl, .inl (SqL.of d1), _, _, rfl, rfl, ?_⟩
  rw [lw]
  refine ⟨sk, n + 1, _, rfl, sk3, by omega, by omega, lt200 (by omega), fun z H4 z0 z1 sk4 kp4 => ?_⟩
  obtain ⟨t, rfl⟩ := nat_of z0
  have e4 := e3.kp kp4 gk sk4.at
  have d1 := kp4 q1 _ k1 d1
  have d2 := kp4 q2 _ k2 d2
  refine ⟨_, rfl, _, rfl, q2, _, rfl, .inl (SqL.of d2), _, _, rfl, rfl, ?_⟩
  rw [lj]
  refine ⟨sk, n + 2, _, rfl, sk4, by omega, by omega, lt200 (by omega), fun z H5 z0 z1' sk5 kp5 => ?_⟩
  obtain ⟨t2, rfl⟩ := nat_of z0
  have e5 := e4.kp kp5 gk sk5.at
  have d1 := kp5 q1 _ k1 d1
  have d2 := kp5 q2 _ k2 d2
  have ht : t ≤ ws.length := by omega
  have ht2 : t2 ≤ js.length := by omega
  refine ⟨_, _, rfl, ?_⟩
  refine ⟨fun σ' H' => ∃ (r1 g1 : Addr) (ws0 : List Str) (js0 : Js) (G' : Hp) (x8 x9 : Option V), σ' = [some (.ref sk), some (.ref p), some (.str s), some (.ref r1), some (.ref g1), some (.int y), some (.int t), some (.int t2), x8, x9] ∧ H' r1 = some (.lst (ws0.map V.str)) ∧ H' g1 = some (.lst (refs js0)) ∧
    JsAt K G' js0 ∧ G' r1 = none ∧ G' g1 = none ∧ H r1 = none ∧ H g1 = none ∧ r1 ≠ g1 ∧ Rt 40 ws0 js0 ∧ Sk (n + 90) H' sk ∧ Ext (· = sk) G H G' H', ?_, ?_⟩
  · refine ⟨_, rfl, rfl, _, rfl, ?_⟩
    refine ite2 (fun c => ?_) (fun c => ?_)
    · have c := V.int.inj (of_decide_eq_true c)
      refine ⟨_, rfl, _, rfl, q1, _, rfl, .inl (SqL.of d1), _, _, rfl, rfl, _, rfl, ?_⟩
      rw [lw]
      refine ite2 (fun c2 => ?_) (fun c2 => ?_)
      · -- a strip bent
        have c2 : t < ws.length := by have := of_decide_eq_true c2; omega
        have ex : ws[t]? = some ws[t] := List.getElem?_eq_getElem c2
        have mx := List.getElem_mem c2
        generalize ws[t] = x at ex mx
        obtain ⟨wx, lx⟩ := rt.wd x mx
        refine ⟨_, rfl, _, rfl, _, rfl, _, rfl, q1, _, (t : Int), .str x, rfl, rfl, SqL.of d1, atI_nat (by rw [List.getElem?_map, ex]; rfl), sk, n + 3, 39, s, x, rfl, sk5, by omega, hs, hs1, ⟨w39 x mx, wx.pl⟩, by decide, lx, fun y' H6 sk6 kp6 wy ly => ?_⟩
        have e6 := e5.kp kp6 gk sk6.at
        have d1 := kp6 q1 _ k1 d1
        have d2 := kp6 q2 _ k2 d2
        refine ⟨_, rfl, _, rfl, q1, _, _, t, rfl, rfl, d1, by rw [lw]; exact ixN_nat c2, ?_⟩
        refine ⟨q1, q2, ws.set t y', js, G, none, none, rfl, by rw [List.map_set]; exact upd_same, (upd_ne n12).trans d2, pl.j, u1, u2, f1, f2, n12.symm, ⟨by rw [List.length_set]; omega, fun z hz => ?_, Nat.le_trans rt.jn (by decide), rt.jd⟩, (sk_mut sk6 k1).mono (by omega), e6.mut f1 u1⟩
        rcases List.mem_or_eq_of_mem_set hz with q | q
        · exact rt.wd z q
        · rw [q]; exact ⟨wy, ly⟩
      · skip
        refine ⟨_, rfl, rfl, _, rfl, ?_⟩
        refine ite2 (fun c => absurd (V.int.inj (of_decide_eq_true c)) (by omega)) (fun _ => ?_)
        refine ⟨_, rfl, rfl, _, rfl, ?_⟩
        refine ite2 (fun c => absurd (V.int.inj (of_decide_eq_true c)) (by omega)) (fun _ => ?_)
        refine ⟨_, rfl, rfl, _, rfl, ?_⟩
        refine ite2 (fun c => absurd (V.int.inj (of_decide_eq_true c)) (by omega)) (fun _ => ?_)
        refine ⟨_, rfl, rfl, _, rfl, ?_⟩
        refine ite2 (fun c => absurd (V.int.inj (of_decide_eq_true c)) (by omega)) (fun _ => ?_)
        refine ⟨_, rfl, rfl, _, rfl, ?_⟩
        refine ite2 (fun c => absurd (V.int.inj (of_decide_eq_true c)) (by omega)) (fun _ => ?_)
        refine ⟨_, rfl, rfl, _, rfl, ?_⟩
        refine ite2 (fun c => absurd (V.int.inj (of_decide_eq_true c)) (by omega)) (fun _ => ?_)
        refine ⟨_, rfl, rfl, _, rfl, ?_⟩
        refine ite2 (fun c => absurd (V.int.inj (of_decide_eq_true c)) (by omega)) (fun _ => ?_)
        exact ⟨q1, q2, ws, js, G, none, none, rfl, d1, d2, pl.j, u1, u2, f1, f2, n12.symm, rt.mono (by decide), sk5.mono (by omega), e5⟩
    have c : ¬ (y : Int) = 0 := fun z => c (decide_eq_true (congrArg V.int z))
    refine ⟨_, rfl, rfl, _, rfl, ?_⟩
    refine ite2 (fun c1 => ?_) (fun c1 => ?_)
    · have c1 := V.int.inj (of_decide_eq_true c1)
      refine ⟨_, rfl, _, rfl, q2, _, rfl, .inl (SqL.of d2), _, _, rfl, rfl, _, rfl, ?_⟩
      rw [lj]
      refine ite2 (fun c2 => ?_) (fun c2 => ?_)
      · -- a rule bent
        have c2 : t2 < js.length := by have := of_decide_eq_true c2; omega
        have ex : js[t2]? = some js[t2] := List.getElem?_eq_getElem c2
        have mx := List.getElem_mem c2
        generalize js[t2] = jj at ex mx
        have jx := rt.jd jj mx
        refine ⟨_, rfl, _, rfl, q2, _, (t2 : Int), .ref jj.1, rfl, rfl, SqL.of d2, atI_nat (by unfold refs; rw [List.getElem?_map, ex]; rfl), jj.1, _, rfl, .inr (sameT e5.gh (pl.j jj mx)), fun b hb => ?_⟩
        have e6 := e5.newM (o := .lst (jj.2.map V.str)) hb
        have nb1 : q1 ≠ b := ne_of_none d1 hb
        have nb2 : q2 ≠ b := ne_of_none d2 hb
        have d1 := upd_old (u := .lst (jj.2.map V.str)) d1 hb
        have d2 := upd_old (u := .lst (jj.2.map V.str)) d2 hb
        have db := upd_same (H := H5) (a := b) (o := .lst (jj.2.map V.str))
        have kb := sk5.ne hb
        have fb := e5.free hb
        have ub := same_none e5.gh hb
        have sk6 := sk5.new (o := .lst (jj.2.map V.str)) hb
        generalize upd H5 b _ = H6 at e6 d1 d2 db sk6
        refine ⟨_, rfl, sk, n + 3, _, rfl, sk6, by omega, by decide, by decide, fun z H7 z0 z1 sk7 kp7 => ?_⟩
        obtain ⟨g9, rfl⟩ := nat_of z0
        have e7 := e6.kp kp7 gk sk7.at
        have d1 := kp7 q1 _ k1 d1
        have d2 := kp7 q2 _ k2 d2
        have db := kp7 b _ kb db
        refine ⟨_, _, rfl, ?_⟩
        have h9 : g9 < jj.2.length := by rw [jx.n4]; omega
        have e9 : jj.2[g9]? = some jj.2[g9] := List.getElem?_eq_getElem h9
        have m9 := List.getElem_mem h9
        generalize jj.2[g9] = x at e9 m9
        have wx := jx.wd x m9
        have lb : (jj.2.map V.str).length = jj.2.length := List.length_map ..
        have h0 : 0 < s.cps.toList.length := by rw [← len_ls]; omega
        have e0 : s.cps.toList[0]? = some s.cps.toList[0] := List.getElem?_eq_getElem h0
        have w0 := Wd.one hs.pl e0
        refine ⟨_, rfl, _, rfl, _, rfl, _, rfl, b, _, (g9 : Int), .str x, rfl, rfl, SqL.of db, atI_nat (by rw [List.getElem?_map, e9]; rfl), (x.length : Int) != 0, ⟨wx.tx.line (by decide), rfl⟩, ?_⟩
        refine ite2 (fun c9 => ?_) (fun c9 => ?_)
        · have l9 : 1 ≤ x.length := by
            have : ((x.length : Int) != 0) = true := c9
            rw [bne_iff_ne] at this
            omega
          refine ⟨sk, n + 4, 10, s, _, rfl, sk7, by omega, hs, hs1, wx, by decide, l9, fun y' H8 sk8 kp8 wy ly => ?_⟩
          have e8 := e7.kp kp8 gk sk8.at
          have d1 := kp8 q1 _ k1 d1
          have d2 := kp8 q2 _ k2 d2
          have db := kp8 b _ kb db
          have lc := len_cut_min y' 10
          have wc : Wd 10 (cutS y' none (some ((10 : Nat) : Int))) := ⟨by rw [lc]; exact Nat.min_le_left _ _, (wy.cut _ _).pl⟩
          have lc1 : 1 ≤ (cutS y' none (some ((10 : Nat) : Int))).length := by rw [lc]; omega
          refine ⟨_, rfl, y', rfl, wy.tx.line (by decide), ?_⟩
          refine ⟨_, rfl, _, rfl, b, _, _, g9, rfl, rfl, db, by rw [lb]; exact ixN_nat h9, ?_⟩
          have eb : (jj.2.map V.str).set g9 (V.str (cutS y' none (some ((10 : Nat) : Int)))) = (jj.2.set g9 (cutS y' none (some ((10 : Nat) : Int)))).map V.str := by rw [List.map_set]
          have db9 : upd H8 b (.lst ((jj.2.map V.str).set g9 (V.str (cutS y' none (some ((10 : Nat) : Int)))))) b = some (.lst ((jj.2.set g9 (cutS y' none (some ((10 : Nat) : Int)))).map V.str)) := by rw [upd_same, eb]
          have e9' := e8.mut (u := .lst ((jj.2.map V.str).set g9 (V.str (cutS y' none (some ((10 : Nat) : Int)))))) fb ub
          have d1 := (upd_ne (o := .lst ((jj.2.map V.str).set g9 (V.str (cutS y' none (some ((10 : Nat) : Int)))))) (H := H8) nb1).trans d1
          have d2 := (upd_ne (o := .lst ((jj.2.map V.str).set g9 (V.str (cutS y' none (some ((10 : Nat) : Int)))))) (H := H8) nb2).trans d2
          have sk9 := sk_mut (u := .lst ((jj.2.map V.str).set g9 (V.str (cutS y' none (some ((10 : Nat) : Int)))))) sk8 kb
          refine ⟨_, rfl, b, _, rfl, .inl ⟨SqL.of db9, fun tp htp => ?_⟩⟩
          have e10 := e9'.new (o := .tup ((jj.2.set g9 (cutS y' none (some ((10 : Nat) : Int)))).map V.str)) htp
          have nt2 : q2 ≠ tp := ne_of_none d2 htp
          have nt1 : q1 ≠ tp := ne_of_none d1 htp
          have ut := same_none e9'.gh htp
          have d1 := upd_old (u := .tup ((jj.2.set g9 (cutS y' none (some ((10 : Nat) : Int)))).map V.str)) d1 htp
          have d2 := upd_old (u := .tup ((jj.2.set g9 (cutS y' none (some ((10 : Nat) : Int)))).map V.str)) d2 htp
          refine ⟨_, rfl, _, rfl, q2, _, _, t2, rfl, rfl, d2, by rw [lj]; exact ixN_nat c2, ?_⟩
          refine ⟨q1, q2, ws, js.set t2 (tp, jj.2.set g9 (cutS y' none (some ((10 : Nat) : Int)))), _, _, _, rfl, (upd_ne n12.symm).trans d1, ?_, ?_, (upd_ne nt1).trans u1, (upd_ne nt2).trans u2, f1, f2, n12.symm, ⟨Nat.le_trans rt.wn (by decide), rt.wd, by rw [List.length_set]; omega, fun z hz => ?_⟩, (sk_mut (sk9.new htp) k2).mono (by omega), e10.mut f2 ((upd_ne nt2).trans u2)⟩
          · unfold refs
            rw [upd_same, List.map_set]
          · intro z hz
            rcases List.mem_or_eq_of_mem_set hz with q | q
            · exact sameT (same_new (Same.refl _) ut) (pl.j z q)
            · rw [q]; exact SqT.of upd_same
          · rcases List.mem_or_eq_of_mem_set hz with q | q
            · exact rt.jd z q
            · rw [q]; exact jn_set jx wc lc1
        · refine ⟨_, rfl, s, 0, _, rfl, rfl, hs.tx.line (by decide), atI_nat (j := 0) e0, ?_⟩
          refine ⟨sk, n + 4, 10, s, _, rfl, sk7, by omega, hs, hs1, (w0.mono (by decide)), by decide, (Nat.le_refl _), fun y' H8 sk8 kp8 wy ly => ?_⟩
          have e8 := e7.kp kp8 gk sk8.at
          have d1 := kp8 q1 _ k1 d1
          have d2 := kp8 q2 _ k2 d2
          have db := kp8 b _ kb db
          have lc := len_cut_min y' 10
          have wc : Wd 10 (cutS y' none (some ((10 : Nat) : Int))) := ⟨by rw [lc]; exact Nat.min_le_left _ _, (wy.cut _ _).pl⟩
          have lc1 : 1 ≤ (cutS y' none (some ((10 : Nat) : Int))).length := by rw [lc]; omega
          refine ⟨_, rfl, y', rfl, wy.tx.line (by decide), ?_⟩
          refine ⟨_, rfl, _, rfl, b, _, _, g9, rfl, rfl, db, by rw [lb]; exact ixN_nat h9, ?_⟩
          have eb : (jj.2.map V.str).set g9 (V.str (cutS y' none (some ((10 : Nat) : Int)))) = (jj.2.set g9 (cutS y' none (some ((10 : Nat) : Int)))).map V.str := by rw [List.map_set]
          have db9 : upd H8 b (.lst ((jj.2.map V.str).set g9 (V.str (cutS y' none (some ((10 : Nat) : Int)))))) b = some (.lst ((jj.2.set g9 (cutS y' none (some ((10 : Nat) : Int)))).map V.str)) := by rw [upd_same, eb]
          have e9' := e8.mut (u := .lst ((jj.2.map V.str).set g9 (V.str (cutS y' none (some ((10 : Nat) : Int)))))) fb ub
          have d1 := (upd_ne (o := .lst ((jj.2.map V.str).set g9 (V.str (cutS y' none (some ((10 : Nat) : Int)))))) (H := H8) nb1).trans d1
          have d2 := (upd_ne (o := .lst ((jj.2.map V.str).set g9 (V.str (cutS y' none (some ((10 : Nat) : Int)))))) (H := H8) nb2).trans d2
          have sk9 := sk_mut (u := .lst ((jj.2.map V.str).set g9 (V.str (cutS y' none (some ((10 : Nat) : Int)))))) sk8 kb
          refine ⟨_, rfl, b, _, rfl, .inl ⟨SqL.of db9, fun tp htp => ?_⟩⟩
          have e10 := e9'.new (o := .tup ((jj.2.set g9 (cutS y' none (some ((10 : Nat) : Int)))).map V.str)) htp
          have nt2 : q2 ≠ tp := ne_of_none d2 htp
          have nt1 : q1 ≠ tp := ne_of_none d1 htp
          have ut := same_none e9'.gh htp
          have d1 := upd_old (u := .tup ((jj.2.set g9 (cutS y' none (some ((10 : Nat) : Int)))).map V.str)) d1 htp
          have d2 := upd_old (u := .tup ((jj.2.set g9 (cutS y' none (some ((10 : Nat) : Int)))).map V.str)) d2 htp
          refine ⟨_, rfl, _, rfl, q2, _, _, t2, rfl, rfl, d2, by rw [lj]; exact ixN_nat c2, ?_⟩
          refine ⟨q1, q2, ws, js.set t2 (tp, jj.2.set g9 (cutS y' none (some ((10 : Nat) : Int)))), _, _, _, rfl, (upd_ne n12.symm).trans d1, ?_, ?_, (upd_ne nt1).trans u1, (upd_ne nt2).trans u2, f1, f2, n12.symm, ⟨Nat.le_trans rt.wn (by decide), rt.wd, by rw [List.length_set]; omega, fun z hz => ?_⟩, (sk_mut (sk9.new htp) k2).mono (by omega), e10.mut f2 ((upd_ne nt2).trans u2)⟩
          · unfold refs
            rw [upd_same, List.map_set]
          · intro z hz
            rcases List.mem_or_eq_of_mem_set hz with q | q
            · exact sameT (same_new (Same.refl _) ut) (pl.j z q)
            · rw [q]; exact SqT.of upd_same
          · rcases List.mem_or_eq_of_mem_set hz with q | q
            · exact rt.jd z q
            · rw [q]; exact jn_set jx wc lc1
      · skip
        refine ⟨_, rfl, rfl, _, rfl, ?_⟩
        refine ite2 (fun c => absurd (V.int.inj (of_decide_eq_true c)) (by omega)) (fun _ => ?_)
        refine ⟨_, rfl, rfl, _, rfl, ?_⟩
        refine ite2 (fun c => absurd (V.int.inj (of_decide_eq_true c)) (by omega)) (fun _ => ?_)
        refine ⟨_, rfl, rfl, _, rfl, ?_⟩
        refine ite2 (fun c => absurd (V.int.inj (of_decide_eq_true c)) (by omega)) (fun _ => ?_)
        refine ⟨_, rfl, rfl, _, rfl, ?_⟩
        refine ite2 (fun c => absurd (V.int.inj (of_decide_eq_true c)) (by omega)) (fun _ => ?_)
        refine ⟨_, rfl, rfl, _, rfl, ?_⟩
        refine ite2 (fun c => absurd (V.int.inj (of_decide_eq_true c)) (by omega)) (fun _ => ?_)
        refine ⟨_, rfl, rfl, _, rfl, ?_⟩
        refine ite2 (fun c => absurd (V.int.inj (of_decide_eq_true c)) (by omega)) (fun _ => ?_)
        exact ⟨q1, q2, ws, js, G, none, none, rfl, d1, d2, pl.j, u1, u2, f1, f2, n12.symm, rt.mono (by decide), sk5.mono (by omega), e5⟩
    have c1 : ¬ (y : Int) = 1 := fun z => c1 (decide_eq_true (congrArg V.int z))
    refine ⟨_, rfl, rfl, _, rfl, ?_⟩
    refine ite2 (fun c2 => ?_) (fun c2 => ?_)
    · -- a strip fewer
      refine ⟨_, rfl, _, rfl, _, rfl, q1, _, rfl, SqL.of d1, fun l1 hl1 => ?_⟩
      have e6 := e5.newM (o := .lst (cutV (ws.map V.str) none (some (t : Int)))) hl1
      have g1 := upd_same (H := H5) (a := l1) (o := .lst (cutV (ws.map V.str) none (some (t : Int))))
      have d1 := upd_old (u := .lst (cutV (ws.map V.str) none (some (t : Int)))) d1 hl1
      have d2 := upd_old (u := .lst (cutV (ws.map V.str) none (some (t : Int)))) d2 hl1
      have sk6 := sk5.new (o := .lst (cutV (ws.map V.str) none (some (t : Int)))) hl1
      generalize upd H5 l1 _ = H6 at e6 g1 d1 d2 sk6
      refine ⟨_, rfl, _, rfl, _, _, rfl, rfl, _, rfl, q1, _, rfl, SqL.of d1, fun l2 hl2 => ?_⟩
      have e7 := e6.newM (o := .lst (cutV (ws.map V.str) (some ((t : Int) + 1)) none)) hl2
      have g1 := upd_old (u := .lst (cutV (ws.map V.str) (some ((t : Int) + 1)) none)) g1 hl2
      have g2 := upd_same (H := H6) (a := l2) (o := .lst (cutV (ws.map V.str) (some ((t : Int) + 1)) none))
      have d2 := upd_old (u := .lst (cutV (ws.map V.str) (some ((t : Int) + 1)) none)) d2 hl2
      have sk7 := sk6.new (o := .lst (cutV (ws.map V.str) (some ((t : Int) + 1)) none)) hl2
      generalize upd H6 l2 _ = H7 at e7 g1 g2 d2 sk7
      have et : (t : Int) + 1 = ((t + 1 : Nat) : Int) := by omega
      rw [cutV_to', ← List.map_take] at g1
      rw [et, cutV_from', ← List.map_drop] at g2
      refine ⟨l1, l2, _, _, rfl, rfl, g1, g2, ?_, fun p1 hp1 => ?_⟩
      · rw [List.length_map, List.length_map, List.length_take, List.length_drop]; exact small_line (by omega)
      exact ⟨p1, q2, cutO ws t, js, G, none, none, rfl, by rw [upd_same, ← List.map_append]; rfl, upd_old d2 hp1, pl.j, same_none e7.gh hp1, u2, e7.free hp1, f2, (ne_of_none d2 hp1).symm, (rt.mono (by decide)).cutW t, (sk7.new hp1).mono (by omega), e7.newM hp1⟩
    have c2 : ¬ (y : Int) = 2 := fun z => c2 (decide_eq_true (congrArg V.int z))
    refine ⟨_, rfl, rfl, _, rfl, ?_⟩
    refine ite2 (fun c3 => ?_) (fun c3 => ?_)
    · -- a rule fewer
      refine ⟨_, rfl, _, rfl, _, rfl, q2, _, rfl, SqL.of d2, fun l1 hl1 => ?_⟩
      have e6 := e5.newM (o := .lst (cutV (refs js) none (some (t2 : Int)))) hl1
      have g1 := upd_same (H := H5) (a := l1) (o := .lst (cutV (refs js) none (some (t2 : Int))))
      have d1 := upd_old (u := .lst (cutV (refs js) none (some (t2 : Int)))) d1 hl1
      have d2 := upd_old (u := .lst (cutV (refs js) none (some (t2 : Int)))) d2 hl1
      have sk6 := sk5.new (o := .lst (cutV (refs js) none (some (t2 : Int)))) hl1
      generalize upd H5 l1 _ = H6 at e6 g1 d1 d2 sk6
      refine ⟨_, rfl, _, rfl, _, _, rfl, rfl, _, rfl, q2, _, rfl, SqL.of d2, fun l2 hl2 => ?_⟩
      have e7 := e6.newM (o := .lst (cutV (refs js) (some ((t2 : Int) + 1)) none)) hl2
      have g1 := upd_old (u := .lst (cutV (refs js) (some ((t2 : Int) + 1)) none)) g1 hl2
      have g2 := upd_same (H := H6) (a := l2) (o := .lst (cutV (refs js) (some ((t2 : Int) + 1)) none))
      have d1 := upd_old (u := .lst (cutV (refs js) (some ((t2 : Int) + 1)) none)) d1 hl2
      have sk7 := sk6.new (o := .lst (cutV (refs js) (some ((t2 : Int) + 1)) none)) hl2
      generalize upd H6 l2 _ = H7 at e7 g1 g2 d1 sk7
      have et : (t2 : Int) + 1 = ((t2 + 1 : Nat) : Int) := by omega
      rw [cutV_to'] at g1
      rw [et, cutV_from'] at g2
      refine ⟨l1, l2, _, _, rfl, rfl, g1, g2, ?_, fun p1 hp1 => ?_⟩
      · rw [List.length_take, List.length_drop, lj]; exact small_line (by omega)
      exact ⟨q1, p1, ws, cutO js t2, G, none, none, rfl, upd_old d1 hp1, by rw [upd_same]; unfold refs cutO; rw [List.map_append, List.map_take, List.map_drop], pl.j.sub fun y hy => cutO_mem hy, u1, same_none e7.gh hp1, f1, e7.free hp1, ne_of_none d1 hp1, (rt.mono (by decide)).cutJ t2, (sk7.new hp1).mono (by omega), e7.newM hp1⟩
    have c3 : ¬ (y : Int) = 3 := fun z => c3 (decide_eq_true (congrArg V.int z))
    refine ⟨_, rfl, rfl, _, rfl, ?_⟩
    refine ite2 (fun c4 => ?_) (fun c4 => ?_)
    · -- a strip more
      refine ⟨_, rfl, .inl ⟨rfl, _, SqL.of d1⟩, _, rfl, _, rfl, _, rfl, sk, n + 3, 1, 5, s, rfl, sk5, by omega, by decide, by decide, hs, hs1, fun x H6 sk6 kp6 wx lx => ?_⟩
      have e6 := e5.kp kp6 gk sk6.at
      have d1 := kp6 q1 _ k1 d1
      have d2 := kp6 q2 _ k2 d2
      refine ⟨q1, _, (t : Int), _, rfl, rfl, d1, by rw [lw]; exact small_lt (by omega), by omega, by omega, ?_⟩
      rw [Int.toNat_natCast]
      refine ⟨q1, q2, ws.take t ++ [x] ++ ws.drop t, js, G, none, none, rfl, ?_, (upd_ne n12).trans d2, pl.j, u1, u2, f1, f2, n12.symm, ⟨?_, fun y hy => ?_, Nat.le_trans rt.jn (by decide), rt.jd⟩, (sk_mut sk6 k1).mono (by omega), e6.mut f1 u1⟩
      · rw [upd_same, List.map_append, List.map_append, List.map_take, List.map_drop]; rfl
      · rw [List.length_append, List.length_append, List.length_take, List.length_drop]; show min t ws.length + 1 + _ ≤ _; omega
      · rcases List.mem_append.mp hy with z | z
        · rcases List.mem_append.mp z with z | z
          · exact rt.wd y (List.mem_of_mem_take z)
          · rw [List.mem_singleton.mp z]; exact ⟨wx.mono (by decide), lx⟩
        · exact rt.wd y (List.mem_of_mem_drop z)
    have c4 : ¬ (y : Int) = 4 := fun z => c4 (decide_eq_true (congrArg V.int z))
    refine ⟨_, rfl, rfl, _, rfl, ?_⟩
    refine ite2 (fun c5 => ?_) (fun c5 => ?_)
    · -- a rule more
      refine ⟨_, rfl, .inl ⟨rfl, _, SqL.of d2⟩, _, rfl, _, rfl, _, rfl, _, rfl, sk, q1, n + 3, 2, ws, s, rfl, sk5.mono (by omega), by omega, SqL.of d1, k1, by omega, fun x hx => ⟨(rt.wd x hx).1.mono (by decide), (rt.wd x hx).2⟩, hs, hs1, by decide, by decide, fun xs q H6 sk6 kp6 nq eq jx => ?_⟩
      have e6 := e5.kpn kp6 gk sk6.at sk5.at
      have gq : grow G H5 H6 q = some _ := grow_at nq eq
      have gl := grow_le (H' := H6) e5.gh
      have u1 : grow G H5 H6 q1 = none := by rw [grow_old d1]; exact u1
      have u2 : grow G H5 H6 q2 = none := by rw [grow_old d2]; exact u2
      have d1 := kp6 q1 _ k1 d1
      have d2 := kp6 q2 _ k2 d2
      generalize grow G H5 H6 = G6 at e6 gq gl u1 u2
      refine ⟨q2, _, (t2 : Int), _, rfl, rfl, d2, by rw [lj]; exact small_lt (by omega), by omega, by omega, ?_⟩
      rw [Int.toNat_natCast]
      refine ⟨q1, q2, ws, js.take t2 ++ [(q, xs)] ++ js.drop t2, G6, none, none, rfl, (upd_ne n12.symm).trans d1, ?_, ?_, u1, u2, f1, f2, n12.symm, ⟨Nat.le_trans rt.wn (by decide), rt.wd, ?_, fun y hy => ?_⟩, (sk_mut sk6 k2).mono (by omega), e6.mut f2 u2⟩
      · unfold refs
        rw [upd_same, List.map_append, List.map_append, List.map_take, List.map_drop]; rfl
      · refine JsAt.append (JsAt.append ((pl.j.mono gl).sub fun y hy => List.mem_of_mem_take hy) fun y hy => ?_) ((pl.j.mono gl).sub fun y hy => List.mem_of_mem_drop hy)
        rw [List.mem_singleton.mp hy]
        exact SqT.of gq
      · rw [List.length_append, List.length_append, List.length_take, List.length_drop]; show min t2 js.length + 1 + _ ≤ _; omega
      · rcases List.mem_append.mp hy with z | z
        · rcases List.mem_append.mp z with z | z
          · exact rt.jd y (List.mem_of_mem_take z)
          · rw [List.mem_singleton.mp z]; exact jx
        · exact rt.jd y (List.mem_of_mem_drop z)
    have c5 : ¬ (y : Int) = 5 := fun z => c5 (decide_eq_true (congrArg V.int z))
    refine ⟨_, rfl, rfl, _, rfl, ?_⟩
    refine ite2 (fun c6 => ?_) (fun c6 => ?_)
    · -- the strips turned
      refine ⟨_, rfl, _, rfl, _, rfl, q1, _, rfl, SqL.of d1, fun l1 hl1 => ?_⟩
      have e6 := e5.newM (o := .lst (cutV (ws.map V.str) (some (t : Int)) none)) hl1
      have g1 := upd_same (H := H5) (a := l1) (o := .lst (cutV (ws.map V.str) (some (t : Int)) none))
      have d1 := upd_old (u := .lst (cutV (ws.map V.str) (some (t : Int)) none)) d1 hl1
      have d2 := upd_old (u := .lst (cutV (ws.map V.str) (some (t : Int)) none)) d2 hl1
      have sk6 := sk5.new (o := .lst (cutV (ws.map V.str) (some (t : Int)) none)) hl1
      generalize upd H5 l1 _ = H6 at e6 g1 d1 d2 sk6
      refine ⟨_, rfl, _, rfl, _, rfl, q1, _, rfl, SqL.of d1, fun l2 hl2 => ?_⟩
      have e7 := e6.newM (o := .lst (cutV (ws.map V.str) none (some (t : Int)))) hl2
      have g1 := upd_old (u := .lst (cutV (ws.map V.str) none (some (t : Int)))) g1 hl2
      have g2 := upd_same (H := H6) (a := l2) (o := .lst (cutV (ws.map V.str) none (some (t : Int))))
      have d2 := upd_old (u := .lst (cutV (ws.map V.str) none (some (t : Int)))) d2 hl2
      have sk7 := sk6.new (o := .lst (cutV (ws.map V.str) none (some (t : Int)))) hl2
      generalize upd H6 l2 _ = H7 at e7 g1 g2 d2 sk7
      rw [cutV_from', ← List.map_drop] at g1
      rw [cutV_to', ← List.map_take] at g2
      refine ⟨l1, l2, _, _, rfl, rfl, g1, g2, ?_, fun p1 hp1 => ?_⟩
      · rw [List.length_map, List.length_map, List.length_take, List.length_drop]; exact small_line (by omega)
      exact ⟨p1, q2, ws.drop t ++ ws.take t, js, G, none, none, rfl, by rw [upd_same, ← List.map_append], upd_old d2 hp1, pl.j, same_none e7.gh hp1, u2, e7.free hp1, f2, (ne_of_none d2 hp1).symm, ⟨by rw [rot_len]; omega, fun y hy => rt.wd y (rot_mem hy), Nat.le_trans rt.jn (by decide), rt.jd⟩, (sk7.new hp1).mono (by omega), e7.newM hp1⟩
    have c6 : ¬ (y : Int) = 6 := fun z => c6 (decide_eq_true (congrArg V.int z))
    refine ⟨_, rfl, rfl, _, rfl, ?_⟩
    refine ite2 (fun c7 => ?_) (fun c7 => ?_)
    · -- the rules turned
      refine ⟨_, rfl, _, rfl, _, rfl, q2, _, rfl, SqL.of d2, fun l1 hl1 => ?_⟩
      have e6 := e5.newM (o := .lst (cutV (refs js) (some (t2 : Int)) none)) hl1
      have g1 := upd_same (H := H5) (a := l1) (o := .lst (cutV (refs js) (some (t2 : Int)) none))
      have d1 := upd_old (u := .lst (cutV (refs js) (some (t2 : Int)) none)) d1 hl1
      have d2 := upd_old (u := .lst (cutV (refs js) (some (t2 : Int)) none)) d2 hl1
      have sk6 := sk5.new (o := .lst (cutV (refs js) (some (t2 : Int)) none)) hl1
      generalize upd H5 l1 _ = H6 at e6 g1 d1 d2 sk6
      refine ⟨_, rfl, _, rfl, _, rfl, q2, _, rfl, SqL.of d2, fun l2 hl2 => ?_⟩
      have e7 := e6.newM (o := .lst (cutV (refs js) none (some (t2 : Int)))) hl2
      have g1 := upd_old (u := .lst (cutV (refs js) none (some (t2 : Int)))) g1 hl2
      have g2 := upd_same (H := H6) (a := l2) (o := .lst (cutV (refs js) none (some (t2 : Int))))
      have d1 := upd_old (u := .lst (cutV (refs js) none (some (t2 : Int)))) d1 hl2
      have sk7 := sk6.new (o := .lst (cutV (refs js) none (some (t2 : Int)))) hl2
      generalize upd H6 l2 _ = H7 at e7 g1 g2 d1 sk7
      rw [cutV_from'] at g1
      rw [cutV_to'] at g2
      refine ⟨l1, l2, _, _, rfl, rfl, g1, g2, ?_, fun p1 hp1 => ?_⟩
      · rw [List.length_take, List.length_drop, lj]; exact small_line (by omega)
      exact ⟨q1, p1, ws, js.drop t2 ++ js.take t2, G, none, none, rfl, upd_old d1 hp1, by rw [upd_same]; unfold refs; rw [List.map_append, List.map_take, List.map_drop], pl.j.sub fun y hy => rot_mem hy, u1, same_none e7.gh hp1, f1, e7.free hp1, ne_of_none d1 hp1, ⟨Nat.le_trans rt.wn (by decide), rt.wd, by rw [rot_len]; omega, fun y hy => rt.jd y (rot_mem hy)⟩, (sk7.new hp1).mono (by omega), e7.newM hp1⟩
    · skip
      exact ⟨q1, q2, ws, js, G, none, none, rfl, d1, d2, pl.j, u1, u2, f1, f2, n12.symm, rt.mono (by decide), sk5.mono (by omega), e5⟩
  · rintro σ' H5 ⟨r1, g1, ws0, js0, G5, x8, x9, rfl, d1, d2, aj, u1, u2, f1, f2, n12, rt0, sk5, e5⟩
    refine ⟨_, rfl, _, rfl, by show 2 ≤ sizeLine; decide, fun p0 hp0 => ?_⟩
    have e6 := (e5.set f1 u1 d1).set f2 (by rw [upd_ne n12.symm]; exact u2) d2
    have e7 := e6.new (o := .tup [.ref r1, .ref g1]) hp0
    have up := same_none e6.gh hp0
    refine k p0 r1 g1 ws0 js0 _ _ ((sk5.new hp0).mono (by omega)) e7 ⟨SqT.of upd_same, ?_, ?_, ?_⟩ rt0
    · exact upd_old (upd_old upd_same (by rw [upd_ne n12.symm]; exact u2)) up
    · exact upd_old upd_same up
    · exact aj.mono ((same_new (same_new (Same.refl _) u1) (by rw [upd_ne n12.symm]; exact u2)).trans (same_new (Same.refl _) up))
end
end K52

namespace Sf
open PySem PySem.Spec PyProof.Rows L2
/-! ### xs[:] = ys -/
theorem bounds_all (n : Nat) : sliceBounds none none none n = (0, (n : Int), 1) := by
  simp only [sliceBounds, Option.getD_none]
  rfl
section
variable {prog : Program} {w : World} {A : Around} {E : Value → Shared → Prop} {s : Shared}
theorem all_eq (its its2 : List Value) : its.toArray.extract 0 0 ++ its2.toArray ++ its.toArray.extract its.length its.toArray.size = its2.toArray := by
  apply Array.toList_inj.mp
  simp
theorem setItem_all {l b sl : Addr} {items new : Array Value} {n n2 : Nat} {Q : Unit → Shared → Prop}
    (e : s.heap.get? l = some { cls := .type "list", data := .seq items n }) (e2 : s.heap.get? b = some { cls := .type "list", data := .seq new n2 }) (hne : l ≠ b)
    (hs : s.heap.IsSliceOf sl .none .none .none) (hsz : items.size + new.size ≤ sizeLine)
    (h : Q () { s with heap := s.heap.update l (Obj.mapSeq fun xs => xs.extract 0 0 ++ new ++ xs.extract items.size xs.size) }) : wpAny (model prog w) A (setItem (.ref l) (.ref sl) (.ref b)) Q E s := by
  have hl : s.heap.IsList l items := PySem.IsL.isList e
  have hb : s.heap.IsList b new := PySem.IsL.isList e2
  obtain ⟨os, hos, hcs, hds⟩ := id hs
  have isS : s.TypeIs (.ref sl) "slice" := ⟨os, hos, hcs⟩
  have one : ¬ ((rawPart none == rawInt 0) = true) := Bool.false_ne_true
  have two : Builtin.List.listSameRef (.ref l) (.ref b) = false := by unfold Builtin.List.listSameRef; exact beq_eq_false_iff_ne.mpr hne
  have hz' : ((fun xs : Array Value => xs.extract 0 0 ++ new ++ xs.extract items.size xs.size) items).size ≤ sizeLine + 1 := by
    simp only [Array.size_append, Array.size_extract]; omega
  unfold setItem
  (try with_reducible refine wpAny_holding ?_); (first | refine wpAny_bind (wpAny_pure ?_) | skip)
  refine wpAny_bind (wpAny_sequenceKey hl.typeIs (by decide) ?_)
  apply wpAny_bind; apply wpAny_callSpecial?_slot (name := Str.ofString "__setitem__") hl.typeIs slot_list_setitem
  apply wpAny_call_entry slot_list_setitem hl.typeIs entry_list_setitem _ (args_list_setitem _ _ _)
  show wpAny _ _ (Builtin.List.listSubscript? (.ref sl) >>= _) _ _ s
  apply wpAny_bind; unfold Builtin.List.listSubscript?
  apply wpAny_bind; apply wpAny_specialOf isS slice_no_index
  (simp only [Option.isNone_none, if_true]); apply wpAny_pure
  show wpAny _ _ (typeOf (.ref sl) >>= _) _ _ s
  apply wpAny_bind; apply wpAny_typeOf isS
  (first | rw [if_neg (by decide)] | refine PySem.W.KFB.if_not (by decide) ?_); rw [listSliceParts_eq]
  refine wpAny_bind (wpAny_bind (wpAny_field hos hds (x := .none) rfl (wpAny_bind (wpAny_listPart .none ?_)))); rw [if_neg one]
  refine wpAny_bind (wpAny_field hos hds (x := .none) rfl (wpAny_bind (wpAny_listPart .none ?_)))
  refine wpAny_bind (wpAny_field hos hds (x := .none) rfl (wpAny_bind (wpAny_listPart .none (wpAny_pure ?_))))
  (first | simp only [two, Bool.false_eq_true, if_false] | refine PySem.W.KFB.if_not two ?_)
  apply wpAny_bind (m := Builtin.List.listAllItems (.ref b) "must assign iterable to extended slice"); unfold Builtin.List.listAllItems
  apply wpAny_bind; apply wpAny_typeOf hb.typeIs
  (first | refine PySem.W.KFB.if_so (by decide) ?_ | rw [if_pos (by decide)]); unfold Builtin.List.listItems
  apply wpAny_bind; apply wpAny_seqItems e2 rfl; apply wpAny_pure
  apply wpAny_bind; apply wpAny_bind; apply wpAny_seqItems e rfl; apply wpAny_pure
  apply wpAny_bind; apply wpAny_of_eq ((sliceIndices_raw none none none items.size (by simp)).trans (congrArg (pure : Int × Int × Int → Sem (Int × Int × Int)) (bounds_all items.size)))
  show wpAny _ _ (if ((1 : Int) == 1) = true then _ else _) _ _ s
  rw [if_pos (by decide)]; apply wpAny_bind; apply wpAny_rule
  (first | simp only [notLongL hsz, Bool.false_eq_true, if_false] | refine PySem.W.KFB.if_not (notLongL hsz) ?_)
  (first | refine wpAny_bind (wpAny_pure ?_) | skip)
  show wpAny _ _ (updateSeq l (fun xs => xs.extract 0 (0 : Int).toNat ++ new ++ xs.extract (max (0 : Int) (items.size : Int)).toNat xs.size) >>= _) _ _ s
  have hm : (max (0 : Int) (items.size : Int)).toNat = items.size := by omega
  rw [hm]
  apply wpAny_bind; apply wpAny_updateSeq (hz := Nat.le_trans (Nat.le_add_right _ _) hsz) (_hz' := hz') e rfl
  apply wpAny_bind; apply wpAny_letGo
  first
    | exact wpAny_bind (wpAny_pure (wpAny_pure ⟨_, rfl, wpAny_pure h⟩))
    | exact wpAny_pure ⟨_, rfl, wpAny_pure h⟩
end
section
variable {X : Cx}
theorem set_all {pins : List (Addr × Obj)} {s : Shared} {σ : L2.St} {H : Hp} {l b sl : Addr} {xs ys : List V} {Q : Unit → Shared → Prop} (I : L2.Inv X pins σ H s) (hH : H l = some (.lst xs)) (hB : H b = some (.lst ys)) (hne : l ≠ b)
    (hs : s.heap.IsSliceOf sl .none .none .none) (hz : xs.length + ys.length ≤ sizeLine) (h : ∀ s', L2.Inv X pins σ (upd H l (.lst ys)) s' → Q () s') : wpAny (model X.prog X.w) X.A (setItem (.ref l) (.ref sl) (.ref b)) Q X.xe s := by
  obtain ⟨z, its, n, r, hl, e⟩ := I.lstM hH
  obtain ⟨z2, its2, n2, r2, hl2, e2⟩ := I.lstM hB
  refine setItem_all e e2 hne hs (by rw [List.size_toArray, List.size_toArray]; omega) (h _ ?_)
  exact I.lset (its' := its2) (t' := s.toks) hH e (by rw [List.size_toArray]; exact all_eq its its2) r2 (by omega)
/-- o[:] = another list -/
def gAll (to : TE) : TG := fun v σ H Q => to σ H fun o H1 => ∃ (l b : Addr) (xs ys : List V), o = .ref l ∧ v = .ref b ∧ H1 l = some (.lst xs) ∧ H1 b = some (.lst ys) ∧ l ≠ b ∧ xs.length + ys.length ≤ sizeLine ∧ Q σ (upd H1 l (.lst ys))
theorem pg_all {o : Expr} {to : TE} {p2 pos : Pos} (ho : PE X o to)
    (ha : ∀ v, assign (.Subscript o (.Slice none none none p2) pos) X.env v = (do
      let ov ← holding [v] (eval o X.env); let iv ← holding [v, ov] (eval (.Slice none none none p2) X.env)
      standAt pos; holding [v, ov, iv] (setItem ov iv v); release [iv, v, ov] []) := by intro _; rfl) : PG X (.Subscript o (.Slice none none none p2) pos) (gAll to) := by
  constructor; intro pins s σ H v u Q I r h
  rw [ha]
  apply wpAny_bind; apply wpAny_holding; apply thn (ho.run pins s σ H _ I h)
  rintro ov s1 ⟨x, H1, I1, r1, l, b, xs, ys, rfl, rfl, e1, e2, ne, hz, q⟩
  cases r1
  cases r
  apply wpAny_bind; apply wpAny_holding; apply wpAny_Slice
  rw [evalPart_none]; apply wpAny_pure; apply wpAny_pure; apply wpAny_pure
  have I4 : L2.Inv X pins σ H1 { s1 with heap := s1.heap.push { cls := .type "slice", data := .fields #[.none, .none, .none] } } := I1.kept (t' := s1.toks) fun b ob q => Heap.get?_push_of_some _ q
  apply wpAny_bind; apply wpAny_standAt; apply wpAny_bind; apply wpAny_holding
  apply set_all I4 e1 e2 ne (Heap.IsSliceOf.new ..) hz
  intro s3 I3
  exact wpAny_release ⟨σ, _, I3, q⟩
end
end Sf

namespace Sf
open PySem PySem.Spec PyProof.Rows L2
/-! ### films in lists, a law's desk -/
theorem in_strs (x : Str) : ∀ xs : List Str, inV (.str x) (xs.map V.str) = decide (x ∈ xs)
  | [] => rfl
  | y :: r => by
    have ih := in_strs x r
    show (eqV (.str y) (.str x) || inV (.str x) (r.map V.str)) = _
    rw [ih]
    show ((y == x) || decide (x ∈ r)) = _
    by_cases e : y = x
    · subst e; simp
    · have e1 : (y == x) = false := beq_eq_false_iff_ne.mpr e
      rw [e1, Bool.false_or]
      have : (x ∈ y :: r) ↔ x ∈ r := ⟨fun z => by
        rcases List.mem_cons.mp z with z | z
        · exact absurd z.symm e
        · exact z, List.mem_cons_of_mem _⟩
      exact decide_eq_decide.mpr this.symm
theorem ixS {xs : List Str} {x : Str} (m : x ∈ xs) : (xs.map V.str)[xs.idxOf x]? = some (.str x) ∧ eqV (.str x) (.str x) = true ∧ ∀ (i : Nat) (z : V), i < xs.idxOf x → (xs.map V.str)[i]? = some z → eqV z (.str x) = false := by
  have hl : xs.idxOf x < xs.length := List.idxOf_lt_length_of_mem m
  have hx : xs[xs.idxOf x]? = some x := by
    rw [List.getElem?_eq_getElem hl, List.getElem_idxOf hl]
  refine ⟨by rw [List.getElem?_map, hx]; rfl, beq_self_eq_true x, fun i z hi hz => ?_⟩
  obtain ⟨u, eu, rfl⟩ := map_at hz
  show (u == x) = false
  refine beq_eq_false_iff_ne.mpr fun c => ?_
  subst c
  obtain ⟨hl, el⟩ := List.getElem?_eq_some_iff.mp eu
  have := List.not_of_lt_findIdx (p := (· == u)) (xs := xs) hi
  rw [el] at this
  simp at this
theorem addX_take (ws : List Str) (i : Nat) (x : Str) (h : ws[i]? = some x) : addX (addAll [] (ws.take i)) x = addAll [] (ws.take (i + 1)) := by
  have : ws.take (i + 1) = ws.take i ++ [x] := by rw [List.take_succ, h]; rfl
  rw [this]
  unfold addAll
  rw [List.foldl_append]
  rfl
theorem addAll_len : ∀ (ws xs : List Str), (addAll xs ws).length ≤ xs.length + ws.length
  | [], xs => Nat.le_refl _
  | w :: r, xs => by
    have := addAll_len r (addX xs w)
    have h2 := addX_len xs w
    show (addAll (addX xs w) r).length ≤ _
    rw [List.length_cons]
    omega
theorem addAll_mem : ∀ {ws xs : List Str} {y : Str}, y ∈ addAll xs ws → y ∈ xs ∨ y ∈ ws
  | [], xs, y, h => .inl h
  | w :: r, xs, y, h => by
    rcases addAll_mem (ws := r) (xs := addX xs w) h with z | z
    · rcases addX_mem z with z | z
      · exact .inl z
      · exact .inr (by rw [z]; exact List.mem_cons_self)
    · exact .inr (List.mem_cons_of_mem _ z)
theorem rd_some {H : Hp} {p : Addr} {o : HO} (h : Rd H p o) : ∃ u, H p = some u := by
  rcases h with h | ⟨_, h⟩
  · exact ⟨_, h⟩
  · exact ⟨_, h⟩
theorem rd_no {H : Hp} {p : Addr} {o : HO} (h : Rd H p o) (n : H p = none) : False := by
  obtain ⟨u, e⟩ := rd_some h
  rw [n] at e
  cases e
theorem But.rd {X : List Addr} {H H' : Hp} {p : Addr} {o : HO} (b : But X H H') (h : Rd H p o) (n : p ∉ X) : Rd H' p o := by
  rcases h with h | ⟨w, h⟩
  · exact .inl (b _ _ n h)
  · exact .inr ⟨w, b _ _ n h⟩
/-- a law's desk: the films at b0, their trees at b1, their numbers of splices at b2 -/
structure BS (H : Hp) (B b0 b1 b2 b3 : Addr) (xs : List Str) (zs : List Int) : Prop where
  hB : H B = some (.lst [.ref b0, .ref b1, .ref b2, .ref b3])
  h0 : H b0 = some (.lst (xs.map V.str))
  h1 : ∃ ts, H b1 = some (.lst ts) ∧ ts.length = xs.length
  h2 : H b2 = some (.lst (zs.map V.int))
  lz : zs.length = xs.length
  n01 : b0 ≠ b1
  n02 : b0 ≠ b2
  n12 : b1 ≠ b2
  nB0 : B ≠ b0
  nB1 : B ≠ b1
  nB2 : B ≠ b2
theorem BS.mono {H H' : Hp} {B b0 b1 b2 b3 : Addr} {xs : List Str} {zs : List Int} (d : BS H B b0 b1 b2 b3 xs zs) (s : ∀ b, b ∈ [B, b0, b1, b2] → ∀ o, H b = some o → H' b = some o) : BS H' B b0 b1 b2 b3 xs zs := by
  obtain ⟨ts, et, lt⟩ := d.h1
  exact ⟨s B (by simp) _ d.hB, s b0 (by simp) _ d.h0, ⟨ts, s b1 (by simp) _ et, lt⟩, s b2 (by simp) _ d.h2, d.lz, d.n01, d.n02, d.n12, d.nB0, d.nB1, d.nB2⟩
theorem BS.same {H H' : Hp} {B b0 b1 b2 b3 : Addr} {xs : List Str} {zs : List Int} (d : BS H B b0 b1 b2 b3 xs zs) (s : Same H H') : BS H' B b0 b1 b2 b3 xs zs := d.mono fun b _ o e => s b o e
theorem But.sub {X Y : List Addr} {H H' : Hp} (h : But X H H') (s : ∀ b ∈ X, b ∈ Y) : But Y H H' := fun b o n e => h b o (fun m => n (s b m)) e
theorem But.trans {X : List Addr} {H H1 H2 : Hp} (h : But X H H1) (k : But X H1 H2) : But X H H2 := fun b o n e => k b o n (h b o n e)
theorem But.ofSame {X : List Addr} {H H' : Hp} (s : Same H H') : But X H H' := fun b o _ e => s b o e
theorem But.ofKp {X : List Addr} {a : Addr} {H H' : Hp} (k : Kp a H H') (m : a ∈ X) : But X H H' := fun b o n e => k b o (fun z => n (by rw [z]; exact m)) e
theorem DS.but {H H' : Hp} {f t n c : Addr} {xs : List Str} {X : List Addr} (d : DS H f t n c xs) (s : But X H H') (hf : f ∉ X) (ht : t ∉ X) (hn : n ∉ X) (hc : c ∉ X) : DS H' f t n c xs := d.mono fun b m o e => by
  simp at m
  rcases m with rfl | rfl | rfl | rfl
  · exact s _ o hf e
  · exact s _ o ht e
  · exact s _ o hn e
  · exact s _ o hc e
theorem BS.but {H H' : Hp} {B b0 b1 b2 b3 : Addr} {xs : List Str} {zs : List Int} {X : List Addr} (d : BS H B b0 b1 b2 b3 xs zs) (s : But X H H') (hB : B ∉ X) (h0 : b0 ∉ X) (h1 : b1 ∉ X) (h2 : b2 ∉ X) : BS H' B b0 b1 b2 b3 xs zs := d.mono fun b m o e => by
  simp at m
  rcases m with rfl | rfl | rfl | rfl
  · exact s _ o hB e
  · exact s _ o h0 e
  · exact s _ o h1 e
  · exact s _ o h2 e
/-- the numbers of splices behind a film more -/
def addZ (xs : List Str) (zs : List Int) (x : Str) (z : Int) : List Int := if x ∈ xs then zs else zs ++ [z]
theorem addZ_in {xs : List Str} {zs : List Int} {x : Str} {z : Int} (h : x ∈ xs) : addZ xs zs x z = zs := if_pos h
theorem addZ_new {xs : List Str} {zs : List Int} {x : Str} {z : Int} (h : x ∉ xs) : addZ xs zs x z = zs ++ [z] := if_neg h
theorem addZ_mem {xs : List Str} {zs : List Int} {x : Str} {z y : Int} (h : y ∈ addZ xs zs x z) : y ∈ zs ∨ y = z := by
  unfold addZ at h
  split at h
  · exact .inl h
  · rcases List.mem_append.mp h with k | k
    · exact .inl k
    · exact .inr (List.mem_singleton.mp k)
theorem Same.set {G H : Hp} {p : Addr} {o : HO} (s : Same G H) (h : H p = some o) : Same (upd G p o) H := fun b u e => by
  by_cases z : b = p
  · subst z
    rw [upd_same] at e
    cases e
    exact h
  · rw [upd_ne z] at e
    exact s b u e
theorem upd_none {G : Hp} {p b : Addr} {o : HO} (n : b ≠ p) (h : G b = none) : upd G p o b = none := by rw [upd_ne n]; exact h
end Sf

namespace Sf
open PySem PySem.Spec PyProof.Rows L2
/-! ### del xs[k:] -/
theorem bounds_from {k n : Nat} (h : k ≤ n) : sliceBounds (some (k : Int)) none none n = ((k : Int), (n : Int), 1) := by
  have h1 : ¬ ((k : Int) < 0) := by omega
  simp only [sliceBounds, Option.getD_none, h1, if_false, show (1 : Int) > 0 by decide, if_true]
  congr 1
  omega
/-- what stays when all from k on is taken out -/
theorem keep_until {its : List Value} {k : Nat} (p : Nat → Bool) (hp : ∀ i, i < its.length → p i = decide (k ≤ i)) : (its.zipIdx.filterMap fun (x : Value × Nat) => if p x.2 then none else some x.1) = its.take k := by
  have key : ∀ (xs : List Value) (j : Nat), (∀ i, j ≤ i → i < j + xs.length → p i = decide (k ≤ i)) → ((xs.zipIdx j).filterMap fun (x : Value × Nat) => if p x.2 then none else some x.1) = xs.take (k - j) := by
    intro xs
    induction xs with
    | nil => intro j _; simp
    | cons x r ih =>
      intro j hj
      have h0 := hj j (Nat.le_refl _) (by rw [List.length_cons]; omega)
      have ih := ih (j + 1) (fun i h1 h2 => hj i (by omega) (by rw [List.length_cons]; omega))
      rw [List.zipIdx_cons, List.filterMap_cons]
      by_cases c : k ≤ j
      · rw [decide_eq_true c] at h0
        have e0 : k - j = 0 := by omega
        have e1 : k - (j + 1) = 0 := by omega
        rw [e1] at ih
        simp only [h0, if_true]
        rw [ih, e0]
        rfl
      · rw [decide_eq_false c] at h0
        have e0 : k - j = (k - (j + 1)) + 1 := by omega
        simp only [h0, Bool.false_eq_true, if_false]
        rw [ih, e0, List.take_succ_cons]
  have := key its 0 (fun i _ h => hp i (by omega))
  rw [Nat.sub_zero] at this
  exact this
section
variable {prog : Program} {w : World} {A : Around} {E : Value → Shared → Prop} {s : Shared}
theorem upd_step {α : Type} {l : Addr} {items new : Array Value} {n : Nat} {f : Array Value → Array Value} {rest : Sem α} {Q : α → Shared → Prop} (e : s.heap.get? l = some { cls := .type "list", data := .seq items n }) (hf : f items = new) (hz : items.size ≤ sizeLine) (hn : new.size ≤ sizeLine + 1)
    (h : wpAny (model prog w) A rest Q E { s with heap := s.heap.update l (Obj.mapSeq f) }) : wpAny (model prog w) A (Builtin.List.listUpdate (.ref l) f >>= fun _ => rest) Q E s := by
  subst hf
  apply wpAny_bind
  show wpAny _ _ (updateSeq l f) _ _ s
  exact wpAny_updateSeq (hz := hz) (_hz' := hn) e rfl h
theorem delItem_from {l sl : Addr} {items : Array Value} {n : Nat} {vl : Value} {k : Nat} {Q : Unit → Shared → Prop}
    (e : s.heap.get? l = some { cls := .type "list", data := .seq items n }) (hs : s.heap.IsSliceOf sl vl .none .none) (pl : IsPart vl (some (k : Int))) (hk : k ≤ items.size) (hsz : items.size ≤ sizeLine)
    (h : ∀ f : Array Value → Array Value, f items = (items.toList.take k).toArray → Q () { s with heap := s.heap.update l (Obj.mapSeq f) }) : wpAny (model prog w) A (delItem (.ref l) (.ref sl)) Q E s := by
  have hl : s.heap.IsList l items := PySem.IsL.isList e
  obtain ⟨os, hos, hcs, hds⟩ := id hs
  have isS : s.TypeIs (.ref sl) "slice" := ⟨os, hos, hcs⟩
  have one : ¬ ((rawPart none == rawInt 0) = true) := Bool.false_ne_true
  refine wpAny_delItem_slot hl.typeIs (by decide) F.slot_list_delitem ?_
  apply wpAny_call_entry F.slot_list_delitem hl.typeIs F.entry_list_delitem _ (F.args_list_delitem_2 _ _)
  show wpAny _ _ (Builtin.List.listSubscript? (.ref sl) >>= _) _ _ s
  apply wpAny_bind; unfold Builtin.List.listSubscript?
  apply wpAny_bind; apply wpAny_specialOf isS slice_no_index
  (simp only [Option.isNone_none, if_true]); apply wpAny_pure
  show wpAny _ _ (typeOf (.ref sl) >>= _) _ _ s
  apply wpAny_bind; apply wpAny_typeOf isS
  (first | rw [if_neg (by decide)] | refine PySem.W.KFB.if_not (by decide) ?_); rw [listSliceParts_eq]
  refine wpAny_bind (wpAny_bind (wpAny_field hos hds (x := .none) rfl (wpAny_bind (wpAny_listPart .none ?_)))); rw [if_neg one]
  refine wpAny_bind (wpAny_field hos hds (x := vl) rfl (wpAny_bind (wpAny_listPart pl ?_)))
  refine wpAny_bind (wpAny_field hos hds (x := .none) rfl (wpAny_bind (wpAny_listPart .none (wpAny_pure ?_))))
  apply wpAny_bind; unfold Builtin.List.listItems
  apply wpAny_bind; apply wpAny_seqItems e rfl; apply wpAny_pure
  apply wpAny_bind; apply wpAny_of_eq ((sliceIndices_raw (some (k : Int)) none none items.size (by simp)).trans (congrArg (pure : Int × Int × Int → Sem (Int × Int × Int)) (bounds_from hk)))
  apply wpAny_bind; apply wpAny_rule
  have sel : ∀ (xs : Array Value), xs = items → ∀ p : Nat → Bool, (∀ i, i < items.size → p i = decide (k ≤ i)) → (xs.toList.zipIdx.filterMap fun (x : Value × Nat) => if p x.2 then none else some x.1).toArray = (items.toList.take k).toArray := fun xs ex p hp => by
    subst ex
    rw [keep_until p (fun i hi => hp i (by rw [← Array.length_toList]; exact hi))]
  have hp : ∀ i, i < items.size → (decide ((k : Int) ≤ (i : Int)) && decide ((i : Int) < (items.size : Int)) && ((i : Int) - (k : Int)) % 1 == 0) = decide (k ≤ i) := fun i hi => by
    have h1 : (i : Int) < (items.size : Int) := by exact_mod_cast hi
    have h2 : ((k : Int) ≤ (i : Int)) ↔ k ≤ i := Int.ofNat_le
    rw [Int.emod_one, decide_eq_true h1, Bool.and_true]
    by_cases c : k ≤ i
    · rw [decide_eq_true c, decide_eq_true (h2.mpr c)]
      rfl
    · rw [decide_eq_false c, decide_eq_false (fun z => c (h2.mp z))]
      rfl
  refine upd_step (new := (items.toList.take k).toArray) e ?_ hsz ?_ ?_
  · exact sel items rfl _ hp
  · rw [List.size_toArray, List.length_take]
    have := Array.length_toList (xs := items)
    omega
  · refine wpAny_bind (wpAny_letGo ?_)
    first
      | refine wpAny_pure ⟨_, rfl, h _ ?_⟩
      | refine wpAny_bind (wpAny_pure (wpAny_pure ⟨_, rfl, h _ ?_⟩))
    exact sel items rfl _ hp
end
section
variable {X : Cx}
/-- del xs[k:] of a list -/
def tDelFrom (to ti : TE) : TS := fun D σ H => to σ H fun x H1 => tPart ti σ H1 fun y H2 => ∃ (l : Addr) (xs : List V) (k : Nat), x = .ref l ∧ y = some (k : Int) ∧ H2 l = some (.lst xs) ∧ k ≤ xs.length ∧ D.nx σ (upd H2 l (.lst (xs.take k)))
theorem ps_delFrom {o i : Expr} {to ti : TE} {p2 tpos pos : Pos} (ho : PE X o to) (hi : PE X i ti) : PS X (.Delete [.Subscript o (.Slice (some i) none none p2) tpos] pos) (tDelFrom to ti) := by
  constructor; intro pins s σ H D I h
  refine wpAny_Delete (wpAny_deleteEach_cons (wpAny_delete_Subscript (thn (ho.run pins s σ H _ I h) fun u s1 q => ?_)))
  obtain ⟨x, H1, I1, rx, q1⟩ := q
  refine wpAny_Slice (thn ((po_some hi).run pins s1 σ H1 _ I1 q1) fun vl s2 q => ?_)
  obtain ⟨o2, H2, I2, pl, l, xs, k, rfl, rfl, hH, hk, q2⟩ := q
  cases (show u = Value.ref l from rx)
  rw [evalPart_none]
  refine wpAny_pure ?_
  refine wpAny_pure ?_
  have I3 : Inv X pins σ H2 { s2 with heap := s2.heap.push { cls := .type "slice", data := .fields #[vl, .none, .none] } } := I2.kept (t' := s2.toks) fun b ob q => Heap.get?_push_of_some _ q
  obtain ⟨z, its, n, r, hl, e⟩ := I3.lstM hH
  refine delItem_from e (Heap.IsSliceOf.new ..) pl (by rw [List.size_toArray, ← hl]; exact hk) (by rw [List.size_toArray]; omega) fun f hf => ?_
  have I4 : Inv X pins σ (upd H2 l (.lst (xs.take k))) _ := I3.lset (its' := its.take k) (t' := s2.toks) hH e hf (r.take k) (by rw [List.length_take]; omega)
  exact wpAny_deleteEach_nil ⟨σ, _, I4, q2⟩
end
section
variable {X : Cx} {CX : CXT} {k : Nat} {f C : Addr} {fd : FuncData} {ps : List Str} {sp : Sp} {E : L2.St → XK} {o : Expr} {m : Str} {ta : TE} {pos apos : Pos}
/-- a method without arguments, whose errors pass to a try -/
theorem pe_methSE0 {pl : Sem Bool} (he : PE X o ta) (c : Cls X.K C) (hm : Meth X.K C m f) (F : FnOk X.prog X.w X.K X.mg X.base CX k f fd ps sp) (hr : Room k X.A) (hb : Binds X.K fd ps []) (hx : ∀ σ, PassesAt CX X σ (E σ))
    (ht : eval (.Call (.Attribute o m apos) [] [] pos) X.env = (do
      let ov ← eval o X.env; standAt apos.atName
      let (f, first) ← holding [ov] (getMethod ov m pl); callWith pos f first (backTo pos (starEach [] X.env)) (backToKw pos (keywordEach [] X.env))) := by rfl) :
    PE X (.Call (.Attribute o m apos) [] [] pos) (tMethS C m sp E ta tNil) := by
  constructor
  intro pins s σ H Q I h
  apply PySem.W.methodCall_KW (pl := pl) _ ht
  apply thn (he.run pins s σ H _ I h)
  rintro u s1 ⟨x, H1, I1, rx, a, dx, fs, rfl, ea, l, q⟩
  cases (show u = Value.ref a from rx)
  apply getmeth_ok I1 ea c hm l
  apply PySem.W.callWith_K0 (first := [.ref a]) I1.kIn hm.kp
  exact run_fnSD (us := [.ref a]) (vs := [.ref a]) (dvs := []) F hr hb .nil (hx σ) I1 (.cons rfl .nil) q
end
/-- repr in a try: K by its name -/
theorem call_reprK {X : Cx} {K : PySem.W.Frag} (hg : X.A.guards = some []) (hu : X.A.units + 64 < cLine) (hK : X.K = K := by rfl) : CallR X (.builtin "repr") (rRepr K) := by
  subst hK
  exact call_repr hg hu
/-- an instance of another own class -/
theorem kit_off {K : PySem.W.Frag} {C D : Addr} (c : PySem.W.isClsIn K D = true) (ty : PySem.W.typeIn K (.ref D) = some (.type "type")) (s : PySem.W.subIn K (.ref C) (.ref D) = some false) (su : PySem.W.subIn K (.ref D) (.ref D) = some true) : PySem.W.kitOne K (.ref C) (.ref D) = some false :=
  kit_one c ty s fun e => by
    subst e
    rw [su] at s
    cases s
end Sf

namespace K52
open PySem PySem.Spec PyProof.Rows L2 Sf
section
variable {P : Program} {w : World} {K : PySem.W.Frag} {mg : Str → Option Value} {base : Heap} {a : Ad}
abbrev s_Desk___len__ : Stmt := inClass (top 24) 13
theorem sc_Desk___len__ : FnScope ["self"] ["self"] (defScope s_Desk___len__) := ⟨rfl, rfl, rfl, by decide +kernel, rfl, by decide +kernel, by decide +kernel⟩
def spDLen (a : Ad) : Sp := fun vs H Q _ => ∃ (m dx b f t n c : Addr) (xs : List Str), vs = [.ref m] ∧ H m = some (.ins a.Desk dx (dkF b f t n c)) ∧ DS H f t n c xs ∧ Q (.int xs.length) H
theorem ok_dlen {f : Addr} {fd : FuncData} (F : Fun K "__len__" "Desk.__len__" s_Desk___len__ f fd) (T : Txt K mg a) : FnOk P w K mg base CX0 1 f fd ["self"] (spDLen a) := by
  refine F.ok sc_Desk___len__ (fun vs H Q E h => by obtain ⟨m, dx, b, f, t, n, c, xs, rfl, _⟩ := h; rfl) (fun cdv A outer s H vs Q E hr h => ?_)
  refine ⟨_, (pss_one (ps_ret (pe_callB call_len_seq (by rfl) T.b_len PySem.boot_len (pa_cons (pe_fld (pv 0) rfl) pa_nil)))), ?_⟩
  obtain ⟨m, dx, b, f, t, n, c, xs, rfl, hm, d, k⟩ := h
  refine ⟨_, rfl, m, a.Desk, dx, _, _, rfl, hm, T.c_Desk, T.n_Desk_films, rfl, f, _, rfl, .inl (SqL.of d.hf), ?_⟩
  rw [List.length_map]
  exact k
abbrev s_Desk_films : Stmt := inClass (top 24) 5
theorem sc_Desk_films : FnScope ["self"] ["self"] (defScope s_Desk_films) := ⟨rfl, rfl, rfl, by decide +kernel, rfl, by decide +kernel, by decide +kernel⟩
def spDFilms (a : Ad) : Sp := fun vs H Q _ => ∃ (m dx b f t n c : Addr) (xs : List Str), vs = [.ref m] ∧ H m = some (.ins a.Desk dx (dkF b f t n c)) ∧ DS H f t n c xs ∧ ∀ p, H p = none → Q (.ref p) (upd H p (.lst (xs.map V.str)))
theorem ok_dfilms {f : Addr} {fd : FuncData} (F : Fun K "films" "Desk.films" s_Desk_films f fd) (T : Txt K mg a) : FnOk P w K mg base CX0 1 f fd ["self"] (spDFilms a) := by
  refine F.ok sc_Desk_films (fun vs H Q E h => by obtain ⟨m, dx, b, f, t, n, c, xs, rfl, _⟩ := h; rfl) (fun cdv A outer s H vs Q E hr h => ?_)
  refine ⟨_, (pss_one (ps_ret (pe_callTy call_list_of (by rfl) T.b_list (by decide +kernel) (pa_cons (pe_fld (pv 0) rfl) pa_nil)))), ?_⟩
  obtain ⟨m, dx, b, f, t, n, c, xs, rfl, hm, d, k⟩ := h
  exact ⟨_, rfl, m, a.Desk, dx, _, _, rfl, hm, T.c_Desk, T.n_Desk_films, rfl, f, _, rfl, .inl (SqL.of d.hf), k⟩
abbrev s_Desk__put : Stmt := inClass (top 24) 1
theorem sc_Desk__put : FnScope ["self", "film", "told"] ["self", "film", "told"] (defScope s_Desk__put) := ⟨rfl, rfl, rfl, by decide +kernel, rfl, by decide +kernel, by decide +kernel⟩
/-- a film comes to lie, or lies there -/
def spDPut (a : Ad) : Sp := fun vs H Q _ => ∃ (m dx b f t n c : Addr) (xs : List Str) (x : Str) (y : V), vs = [.ref m, .str x, y] ∧ H m = some (.ins a.Desk dx (dkF b f t n c)) ∧ DS H f t n c xs ∧ xs.length ≤ 1000 ∧
  ∀ H', But [f, t, n] H H' → DS H' f t n c (addX xs x) → Q (.int ((addX xs x).idxOf x : Nat)) H'
theorem ok_dput {f : Addr} {fd : FuncData} (F : Fun K "_put" "Desk._put" s_Desk__put f fd) (T : Txt K mg a) : FnOk P w K mg base CX0 1 f fd ["self", "film", "told"] (spDPut a) := by
  refine F.ok sc_Desk__put (fun vs H Q E h => by obtain ⟨m, dx, b, f, t, n, c, xs, x, y, rfl, _⟩ := h; rfl) (fun cdv A outer s H vs Q E hr h => ?_)
  refine ⟨_, (pss_cons (ps_if (pt_cmp (pc_dnotin (hu1 hr.units) (pv 1) (pe_fld (pv 0) rfl))) (pss_cons (ps_dput (hu1 hr.units) (pe_fld (pv 0) rfl) (pv 1) (pe_callB call_len_seq (by rfl) T.b_len PySem.boot_len (pa_cons (pe_fld (pv 0) rfl) pa_nil)) rfl)
      (pss_cons (ps_expr (pe_bm PySem.F.plainAttrs_list PySem.F.slot_list_append PySem.F.type_list_append mt_append (pe_fld (pv 0) rfl) (pa_cons (pv 1) pa_nil)))
      (pss_one (ps_expr (pe_bm PySem.F.plainAttrs_list PySem.F.slot_list_append PySem.F.type_list_append mt_append (pe_fld (pv 0) rfl) (pa_cons (pv 2) pa_nil)))))) pss_nil)
      (pss_one (ps_ret (pe_dget (hu1 hr.units) (pe_fld (pv 0) rfl) (pv 1) (fun _ _ => rfl))))), ?_⟩
  obtain ⟨m, dx, b, f, t, n, c, xs, x, y, rfl, hm, d, l, k⟩ := h
  obtain ⟨nfn, ntn, ncn⟩ := d.nf
  obtain ⟨ts, et, lt⟩ := d.ht
  obtain ⟨cs, ec, lc⟩ := d.hc
  have nmf : m ≠ f := fun z => by rw [z, d.hf] at hm; cases hm
  have nmt : m ≠ t := fun z => by rw [z, et] at hm; cases hm
  have nmn : m ≠ n := fun z => by rw [z, d.hn] at hm; cases hm
  refine ⟨_, rfl, _, rfl, m, a.Desk, dx, _, _, rfl, hm, T.c_Desk, T.n_Desk_numbers, rfl, n, _, rfl, DGet.k (k := .inr x) d.hn, _, rfl, ?_⟩
  by_cases z : x ∈ xs
  · rw [numD_some 0 z]
    refine iteF ?_
    refine ⟨_, rfl, m, a.Desk, dx, _, _, rfl, hm, T.c_Desk, T.n_Desk_numbers, rfl, _, rfl, n, _, rfl, (by have w := DGet.k (k := .inr x) d.hn; rw [numD_some 0 z, Nat.zero_add] at w; exact w), ?_⟩
    have := k H (But.refl _ _) (by rw [addX_in z]; exact d)
    rw [addX_in z] at this
    exact this
  · rw [numD_none 0 z]
    refine iteT ?_
    refine ⟨_, rfl, m, a.Desk, dx, _, _, rfl, hm, T.c_Desk, T.n_Desk_films, rfl, f, _, rfl, .inl (SqL.of d.hf), ?_⟩
    rw [List.length_map]
    refine ⟨_, rfl, m, a.Desk, dx, _, _, rfl, hm, T.c_Desk, T.n_Desk_numbers, rfl, _, rfl, n, _, rfl, DPut.k (k := .inr x) d.hn (by rw [numD_len]; exact small_lt (by omega)), ?_⟩
    rw [numD_put z]
    have hm1 : upd H n (.dK (numD (xs ++ [x]) 0)) m = _ := (upd_ne nmn).trans hm
    have f1 : upd H n (.dK (numD (xs ++ [x]) 0)) f = _ := (upd_ne nfn).trans d.hf
    have t1 : upd H n (.dK (numD (xs ++ [x]) 0)) t = _ := (upd_ne ntn).trans et
    have c1 : upd H n (.dK (numD (xs ++ [x]) 0)) c = _ := (upd_ne ncn).trans ec
    have n1 := upd_same (H := H) (a := n) (o := .dK (numD (xs ++ [x]) 0))
    have b1 : But [f, t, n] H (upd H n (.dK (numD (xs ++ [x]) 0))) := (But.refl _ _).mut (by simp)
    generalize upd H n _ = H1 at hm1 f1 t1 c1 n1 b1
    refine ⟨_, rfl, m, a.Desk, dx, _, _, rfl, hm1, T.c_Desk, T.n_Desk_films, rfl, .inl ⟨rfl, _, SqL.of f1⟩, _, rfl, f, _, _, rfl, rfl, f1, by rw [List.length_map]; exact small_lt (by omega), ?_⟩
    have hm2 : upd H1 f (.lst (xs.map V.str ++ [.str x])) m = _ := (upd_ne nmf).trans hm1
    have t2 : upd H1 f (.lst (xs.map V.str ++ [.str x])) t = _ := (upd_ne d.ft.symm).trans t1
    have c2 : upd H1 f (.lst (xs.map V.str ++ [.str x])) c = _ := (upd_ne d.fc.symm).trans c1
    have n2 : upd H1 f (.lst (xs.map V.str ++ [.str x])) n = _ := (upd_ne nfn.symm).trans n1
    have f2 := upd_same (H := H1) (a := f) (o := .lst (xs.map V.str ++ [.str x]))
    have b2 : But [f, t, n] H (upd H1 f (.lst (xs.map V.str ++ [.str x]))) := b1.mut (by simp)
    generalize upd H1 f _ = H2 at hm2 t2 c2 n2 f2 b2
    refine ⟨_, rfl, m, a.Desk, dx, _, _, rfl, hm2, T.c_Desk, T.n_Desk_trees, rfl, .inl ⟨rfl, _, SqL.of t2⟩, _, rfl, t, _, _, rfl, rfl, t2, by rw [lt]; exact small_lt (by omega), ?_⟩
    have hm3 : upd H2 t (.lst (ts ++ [y])) m = _ := (upd_ne nmt).trans hm2
    have f3 : upd H2 t (.lst (ts ++ [y])) f = _ := (upd_ne d.ft).trans f2
    have c3 : upd H2 t (.lst (ts ++ [y])) c = _ := (upd_ne d.tc.symm).trans c2
    have n3 : upd H2 t (.lst (ts ++ [y])) n = _ := (upd_ne ntn.symm).trans n2
    have t3 := upd_same (H := H2) (a := t) (o := .lst (ts ++ [y]))
    have b3 : But [f, t, n] H (upd H2 t (.lst (ts ++ [y]))) := b2.mut (by simp)
    generalize upd H2 t _ = H3 at hm3 f3 c3 n3 t3 b3
    have has := addX_has xs x
    refine ⟨_, rfl, m, a.Desk, dx, _, _, rfl, hm3, T.c_Desk, T.n_Desk_numbers, rfl, _, rfl, n, _, rfl, (by have w := DGet.k (k := .inr x) n3; rw [← addX_new z, numD_some 0 has, Nat.zero_add] at w; exact w), ?_⟩
    refine k H3 b3 ?_
    rw [addX_new z]
    exact ⟨by rw [List.map_append]; exact f3, ⟨_, t3, by rw [List.length_append, List.length_append, lt]; rfl⟩, n3, ⟨cs, c3, lc⟩, d.ft, d.tc, d.fc⟩
/-- what is wrong with a call -/
def callFt (js : Js) (xs : List Str) (i l u o p : Int) : Option Ft :=
  if ¬ (0 ≤ i ∧ i < js.length) then some (.num 5 i) else if ¬ (0 ≤ l ∧ l < xs.length) then some (.num 4 l) else if ¬ (0 ≤ o ∧ o < xs.length) then some (.num 4 o) else
  orFt (cutFt (stZ ((((js[i.toNat]?).map (·.2)).getD []).getD 0 "") ((((js[i.toNat]?).map (·.2)).getD []).getD 1 "") (xs.getD l.toNat "") u) u)
    (cutFt (stZ ((((js[i.toNat]?).map (·.2)).getD []).getD 2 "") ((((js[i.toNat]?).map (·.2)).getD []).getD 3 "") (xs.getD o.toNat "") p) p)
abbrev s_Desk__check_number : Stmt := inClass (top 24) 4
theorem sc_Desk__check_number : FnScope ["self", "film"] ["self", "film"] (defScope s_Desk__check_number) := ⟨rfl, rfl, rfl, by decide +kernel, rfl, by decide +kernel, by decide +kernel⟩
def spDChk (a : Ad) : Sp := fun vs H Q E => ∃ (m dx b f t n c : Addr) (xs : List Str) (i : Int), vs = [.ref m, .int i] ∧ H m = some (.ins a.Desk dx (dkF b f t n c)) ∧ DS H f t n c xs ∧ (0 ≤ i ∧ i < xs.length → Q .non H) ∧ (¬ (0 ≤ i ∧ i < xs.length) → Raised a 0 H E (.num 4 i))
theorem ok_dchk {f : Addr} {fd fdI : FuncData} (F : Fun K "_check_number" "Desk._check_number" s_Desk__check_number f fd) (T : Txt K mg a) (c_init : Cal P w K mg base 1 a.init fdI ["self", "value"] (spErrInit K)) : FnOk P w K mg base (L2.CX P w) 3 f fd ["self", "film"] (spDChk a) := by
  refine F.okX sc_Desk__check_number (fun vs H Q E h => by obtain ⟨m, dx, b, f, t, n, c, xs, i, rfl, _⟩ := h; rfl) (fun cdv A outer s H vs Q E hr0 h => ?_)
  have hr : (Room 2 (A.deeper (envOfC "Desk._check_number" (defScope s_Desk__check_number) s.heap.objs.size f cdv))) := hr0
  refine ⟨_, (pss_one (ps_if (pt_not (pt_chain op_le op_lt pe_int (pv 1) (pe_callB call_len_seq (by rfl) T.b_len PySem.boot_len (pa_cons (pe_fld (pv 0) rfl) pa_nil)))) (pss_one (ps_raise rfl (takes_of rfl rfl rfl rfl) (pmk_oex T.e_UnknownStrip.oe T.e_UnknownStrip.iC T.e_UnknownStrip.tI c_init.ok hr c_init.binds .nil pass0 rfl T.g_UnknownStrip (pa_cons (pv 1) pa_nil)))) pss_nil)), ?_⟩
  obtain ⟨m, dx, b, f, t, n, c, xs, i, rfl, hm, d, k, er⟩ := h
  have bad : ¬ (0 ≤ i ∧ i < xs.length) → tMkO a.UnknownStrip (spErrInit K) [] (tCons (tVar 1) tNil) [some (.ref m), some (.int i)] H fun cls d H' => E cls d H' := fun b =>
    ⟨_, rfl, by show 1 ≤ 1000; decide, err_made T.e_UnknownStrip fun d hd => er b H d (Same.refl _) hd⟩
  refine ⟨_, rfl, _, _, rfl, rfl, _, rfl, ?_⟩
  refine ite2 (fun c1 => ?_) (fun c1 => ?_)
  · have h0 : 0 ≤ i := of_decide_eq_true c1
    refine ⟨_, rfl, m, a.Desk, dx, _, _, rfl, hm, T.c_Desk, T.n_Desk_films, rfl, f, _, rfl, .inl (SqL.of d.hf), _, _, rfl, rfl, _, rfl, ?_⟩
    rw [List.length_map]
    refine ite2 (fun c2 => ?_) (fun c2 => ?_)
    · exact bad fun z => of_decide_eq_false (bn_t c2) z.2
    · exact k ⟨h0, of_decide_eq_true (bn_f c2)⟩
  · exact ⟨_, rfl, bad fun z => c1 (decide_eq_true z.1)⟩
abbrev s_Desk__splice : Stmt := inClass (top 24) 3
theorem sc_Desk__splice : FnScope ["self", "index", "film", "cut", "other", "place", "rules", "made"] ["self", "index", "film", "cut", "other", "place"] (defScope s_Desk__splice) := ⟨rfl, rfl, rfl, by decide +kernel, rfl, by decide +kernel, by decide +kernel⟩
theorem in4 {b f t n c : Addr} (h : b ∈ [f, t, n]) : b ∈ [f, t, n, c] := List.mem_append_left [c] h
theorem or_cut {b1 b2 : Bool} {z1 z2 : Int} {f : Ft} (h : orFt (cutFt b1 z1) (cutFt b2 z2) = some f) : ∃ z, f = .num 6 z := by
  cases b1 <;> cases b2 <;> (simp [orFt, cutFt] at h) <;> exact ⟨_, h.symm⟩
/-- a splice on the desk: the number of its film -/
def spDSpl (K : PySem.W.Frag) (a : Ad) : Sp := fun vs H Q E => ∃ (m dx b f t n c : Addr) (xs ws : List Str) (js : Js) (i l u o p : Int), vs = [.ref m, .int i, .int l, .int u, .int o, .int p] ∧ H m = some (.ins a.Desk dx (dkF b f t n c)) ∧ DS H f t n c xs ∧ xs.length ≤ 1000 ∧ (∀ x ∈ xs, Tx 2000 x) ∧
  BoxAt K a H b ws js ∧ (∀ j ∈ js, j.2.length = 4) ∧ js.length ≤ 1000 ∧ (∀ f, callFt js xs i l u o p = some f → Raised a 0 H E f) ∧
  (callFt js xs i l u o p = none → ∀ H', But [f, t, n] H H' → DS H' f t n c (addX xs (splice (xs.getD l.toNat "") u (xs.getD o.toNat "") p)) → Q (.int ((addX xs (splice (xs.getD l.toNat "") u (xs.getD o.toNat "") p)).idxOf (splice (xs.getD l.toNat "") u (xs.getD o.toNat "") p) : Nat)) H')
theorem ok_dspl {f : Addr} {fd fdI fd1 fd2 fd3 fd4 : FuncData} (F : Fun K "_splice" "Desk._splice" s_Desk__splice f fd) (T : Txt K mg a) (c_init : Cal P w K mg base 1 a.init fdI ["self", "value"] (spErrInit K)) (c_Box_rules : Cal P w K mg base 1 a.Box_rules fd1 ["self"] (spBoxRules K a))
    (c_Desk__check_number : CalX P w K mg base 3 a.Desk__check_number fd2 ["self", "film"] (spDChk a)) (c_splice_of_films : CalX P w K mg base 4 a.splice_of_films fd3 ["rule", "film", "cut", "other", "place"] (spSpOf K a)) (c_Desk__put : Cal P w K mg base 1 a.Desk__put fd4 ["self", "film", "told"] (spDPut a)) :
    FnOk P w K mg base (L2.CX P w) 5 f fd ["self", "index", "film", "cut", "other", "place"] (spDSpl K a) := by
  refine F.okX sc_Desk__splice (fun vs H Q E h => by obtain ⟨m, dx, b, f, t, n, c, xs, ws, js, i, l, u, o, p, rfl, _⟩ := h; rfl) (fun cdv A outer s H vs Q E hr0 h => ?_)
  have hr4 : (Room 4 (A.deeper (envOfC "Desk._splice" (defScope s_Desk__splice) s.heap.objs.size f cdv))) := hr0
  have hr := hr4.mono (show 2 ≤ 4 by decide)
  have hr_Box_rules := hr4.mono (show 2 ≤ 4 by decide)
  have hr_Desk__check_number := hr4.mono (show 3 ≤ 4 by decide)
  have hr_splice_of_films := hr4
  have hr_Desk__put := hr4.mono (show 1 ≤ 4 by decide)
  refine ⟨_, (pss_cons (ps_set (i := 6) sc_Desk__splice.nd rfl (Or.inl rfl) (pe_prop (pe_fld (pv 0) rfl) T.c_Box T.p_Box_rules c_Box_rules.ok hr_Box_rules c_Box_rules.binds .nil pass0 rfl))
      (pss_cons (ps_if (pt_not (pt_chain op_le op_lt pe_int (pv 1) (pe_callB call_len_seq (by rfl) T.b_len PySem.boot_len (pa_cons (pv 6) pa_nil)))) (pss_one (ps_raise rfl (takes_of rfl rfl rfl rfl) (pmk_oex T.e_UnknownRule.oe T.e_UnknownRule.iC T.e_UnknownRule.tI c_init.ok hr c_init.binds .nil pass0 rfl T.g_UnknownRule (pa_cons (pv 1) pa_nil)))) pss_nil)
      (pss_cons (ps_expr (pe_methSE (pv 0) T.c_Desk T.h_Desk__check_number c_Desk__check_number.ok hr_Desk__check_number c_Desk__check_number.binds (fun σ => passAt (takes_of rfl rfl rfl rfl) σ) (pa_cons (pv 2) pa_nil)))
      (pss_cons (ps_expr (pe_methSE (pv 0) T.c_Desk T.h_Desk__check_number c_Desk__check_number.ok hr_Desk__check_number c_Desk__check_number.binds (fun σ => passAt (takes_of rfl rfl rfl rfl) σ) (pa_cons (pv 4) pa_nil)))
      (pss_cons (ps_set (i := 7) sc_Desk__splice.nd rfl (Or.inl rfl) (pe_callS c_splice_of_films.ok hr_splice_of_films rfl T.g_splice_of_films T.k_splice_of_films c_splice_of_films.binds (fun σ => passAt (takes_of rfl rfl rfl rfl) σ) (pa_cons (pe_ix ix_list (pv 6) (pv 1) (fun _ _ => rfl)) (pa_cons (pe_ix ix_list (pe_fld (pv 0) rfl) (pv 2) (fun _ _ => rfl)) (pa_cons (pv 3) (pa_cons (pe_ix ix_list (pe_fld (pv 0) rfl) (pv 4) (fun _ _ => rfl)) (pa_cons (pv 5) pa_nil)))))))
      (pss_one (ps_ret (pe_meth (pv 0) T.c_Desk T.h_Desk__put c_Desk__put.ok hr_Desk__put c_Desk__put.binds .nil pass0 (pa_cons (pv 7) (pa_cons (pe_tup (pa_cons pe_str (pa_cons (pv 1) (pa_cons (pv 3) (pa_cons (pv 5) (pa_cons (pe_ix ix_list (pe_fld (pv 0) rfl) (pv 2) (fun _ _ => rfl)) (pa_cons (pe_ix ix_list (pe_fld (pv 0) rfl) (pv 4) (fun _ _ => rfl)) pa_nil))))))) pa_nil)))))))))), ?_⟩
  obtain ⟨m, dx, b, f, t, n, c, xs, ws, js, i, l, u, o, p, rfl, hm, d, xl, hx, bx, j4, jl, er, k⟩ := h
  unfold callFt at er k
  obtain ⟨dbx, s0, r0, k0, dk0, hb, _⟩ := id bx
  refine ⟨_, rfl, m, a.Desk, dx, _, _, rfl, hm, T.c_Desk, T.n_Desk_box, rfl, b, dbx, _, rfl, hb, b, ws, js, rfl, bx, fun q hq => ?_⟩
  have s1 : Same H (upd H q (.lst (refs js))) := same_new (Same.refl _) hq
  have q1 := upd_same (H := H) (a := q) (o := .lst (refs js))
  have d1 := d.same s1
  have hm1 := s1 _ _ hm
  generalize upd H q _ = H1 at s1 q1 d1 hm1
  have lq : (refs js).length = js.length := List.length_map ..
  have bad : ¬ (0 ≤ i ∧ i < js.length) → tMkO a.UnknownRule (spErrInit K) [] (tCons (tVar 1) tNil) [some (.ref m), some (.int i), some (.int l), some (.int u), some (.int o), some (.int p), some (.ref q), none] H1 fun cls d H' => E cls d H' := fun z => by
    rw [if_pos z] at er
    exact ⟨_, rfl, by show 1 ≤ 1000; decide, err_made T.e_UnknownRule fun d hd => er _ rfl H1 d s1 hd⟩
  refine ⟨_, rfl, _, _, rfl, rfl, _, rfl, ?_⟩
  refine ite2 (fun c1 => ?_) (fun c1 => ?_)
  rotate_left
  · exact ⟨_, rfl, bad fun z => c1 (decide_eq_true z.1)⟩
  have i0 : 0 ≤ i := of_decide_eq_true c1
  refine ⟨_, rfl, q, _, rfl, .inl (SqL.of q1), _, _, rfl, rfl, _, rfl, ?_⟩
  rw [lq]
  refine ite2 (fun c2 => ?_) (fun c2 => ?_)
  · exact bad fun z => of_decide_eq_false (bn_t c2) z.2
  have i1 : i < js.length := of_decide_eq_true (bn_f c2)
  have di : ¬ ¬ (0 ≤ i ∧ i < js.length) := not_not_intro ⟨i0, i1⟩
  rw [if_neg di] at er k
  refine ⟨_, rfl, m, dx, _, rfl, hm1, rfl, _, rfl, m, dx, b, f, t, n, c, xs, l, rfl, hm1, d1, fun lb => ?_, fun z => ?_⟩
  rotate_left
  · rw [if_pos z] at er
    exact raised_mono (er _ rfl) s1
  rw [if_neg (not_not_intro lb)] at er k
  refine ⟨_, rfl, m, dx, _, rfl, hm1, rfl, _, rfl, m, dx, b, f, t, n, c, xs, o, rfl, hm1, d1, fun ob => ?_, fun z => ?_⟩
  rotate_left
  · rw [if_pos z] at er
    exact raised_mono (er _ rfl) s1
  rw [if_neg (not_not_intro ob)] at er k
  obtain ⟨ni, rfl⟩ := Int.eq_ofNat_of_zero_le i0
  obtain ⟨nl, rfl⟩ := Int.eq_ofNat_of_zero_le lb.1
  obtain ⟨no, rfl⟩ := Int.eq_ofNat_of_zero_le ob.1
  have li : ni < js.length := by exact_mod_cast i1
  have ll : nl < xs.length := by exact_mod_cast lb.2
  have lo : no < xs.length := by exact_mod_cast ob.2
  simp only [Int.toNat_natCast] at er k
  have ei : js[ni]? = some js[ni] := List.getElem?_eq_getElem li
  have el : xs[nl]? = some xs[nl] := List.getElem?_eq_getElem ll
  have eo : xs[no]? = some xs[no] := List.getElem?_eq_getElem lo
  have gl : xs.getD nl "" = xs[nl] := by rw [List.getD_eq_getElem?_getD, el]; rfl
  have go : xs.getD no "" = xs[no] := by rw [List.getD_eq_getElem?_getD, eo]; rfl
  have mj : js[ni] ∈ js := List.getElem_mem li
  have hx1 := hx _ (List.getElem_mem ll)
  have hx2 := hx _ (List.getElem_mem lo)
  rw [gl, go, ei] at er k
  have sq := sameT s1 (bx.js _ mj)
  have l4 := j4 _ mj
  generalize xs[nl] = x at el er k hx1
  generalize xs[no] = y at eo er k hx2
  have eji : (refs js)[ni]? = some (.ref js[ni].1) := by unfold refs; rw [List.getElem?_map, ei]; rfl
  generalize js[ni] = j at er k sq l4 eji
  obtain ⟨ja, jx⟩ := j
  match jx, l4 with
  | [y0, y1, y2, y3], _ =>
  have exl : (xs.map V.str)[nl]? = some (.str x) := by rw [List.getElem?_map, el]; rfl
  have exo : (xs.map V.str)[no]? = some (.str y) := by rw [List.getElem?_map, eo]; rfl
  refine ⟨_, rfl, _, rfl, q, _, (ni : Int), .ref ja, rfl, rfl, SqL.of q1, atI_nat eji, _, rfl, m, a.Desk, dx, _, _, rfl, hm1, T.c_Desk, T.n_Desk_films, rfl, _, rfl, f, _, (nl : Int), .str x, rfl, rfl, SqL.of d1.hf, atI_nat exl,
    _, rfl, _, rfl, m, a.Desk, dx, _, _, rfl, hm1, T.c_Desk, T.n_Desk_films, rfl, _, rfl, f, _, (no : Int), .str y, rfl, rfl, SqL.of d1.hf, atI_nat exo, _, rfl, ja, y0, y1, y2, y3, x, y, u, p, rfl, sq, hx1, hx2, fun f hf => ?_, fun ok => ?_⟩
  · obtain ⟨z, rfl⟩ := or_cut hf
    exact fun H2 d2 s2 h2 => er _ hf H2 d2 (s1.trans s2) h2
  obtain ⟨ts, et, lt⟩ := d1.ht
  have exl : ts[nl]? = some ts[nl] := List.getElem?_eq_getElem (by rw [lt]; exact ll)
  have exo : ts[no]? = some ts[no] := List.getElem?_eq_getElem (by rw [lt]; exact lo)
  refine ⟨_, rfl, m, dx, _, rfl, hm1, rfl, _, rfl, _, rfl, _, rfl, _, rfl, _, rfl, m, a.Desk, dx, _, _, rfl, hm1, T.c_Desk, T.n_Desk_trees, rfl, _, rfl, t, _, (nl : Int), ts[nl], rfl, rfl, SqL.of et, atI_nat exl,
    _, rfl, m, a.Desk, dx, _, _, rfl, hm1, T.c_Desk, T.n_Desk_trees, rfl, _, rfl, t, _, (no : Int), ts[no], rfl, rfl, SqL.of et, atI_nat exo, ?_⟩
  refine ⟨small_line (by show 6 ≤ 100000; decide), fun z hz => ?_⟩
  have s2 : Same H (upd H1 z (.tup [.str "splice", .int ni, .int u, .int p, ts[nl], ts[no]])) := same_new s1 hz
  refine ⟨m, dx, b, f, t, n, c, xs, splice x u y p, _, rfl, s2 _ _ hm, d.same s2, xl, fun H' bu dd => ?_⟩
  exact k ok H' (fun b o nb e => bu b o nb (s2 b o e)) dd
abbrev s_Desk___call__ : Stmt := inClass (top 24) 2
theorem sc_Desk___call__ : FnScope ["self", "index", "film", "cut", "other", "place", "lying", "number"] ["self", "index", "film", "cut", "other", "place"] (defScope s_Desk___call__) := ⟨rfl, rfl, rfl, by decide +kernel, rfl, by decide +kernel, by decide +kernel⟩
/-- a call on the desk -/
def spDCall (K : PySem.W.Frag) (a : Ad) : Sp := fun vs H Q E => ∃ (m dx b f t n c : Addr) (xs ws : List Str) (js : Js) (cs : List V) (i l u o p : Int), vs = [.ref m, .int i, .int l, .int u, .int o, .int p] ∧ H m = some (.ins a.Desk dx (dkF b f t n c)) ∧ DS H f t n c xs ∧ xs.length ≤ 1000 ∧ (∀ x ∈ xs, Tx 2000 x) ∧ H c = some (.lst cs) ∧ cs.length ≤ 900 ∧
  BoxAt K a H b ws js ∧ (∀ j ∈ js, j.2.length = 4) ∧ js.length ≤ 1000 ∧ (∀ f, callFt js xs i l u o p = some f → Raised a 0 H E f) ∧
  (callFt js xs i l u o p = none → ∀ H', But [f, t, n, c] H H' → DS H' f t n c (addX xs (splice (xs.getD l.toNat "") u (xs.getD o.toNat "") p)) → H' c = some (.lst (cs ++ [.int xs.length])) →
    Q (.int ((addX xs (splice (xs.getD l.toNat "") u (xs.getD o.toNat "") p)).idxOf (splice (xs.getD l.toNat "") u (xs.getD o.toNat "") p) : Nat)) H')
theorem ok_dcall {f : Addr} {fd fd1 : FuncData} (F : Fun K "__call__" "Desk.__call__" s_Desk___call__ f fd) (T : Txt K mg a) (c_Desk__splice : CalX P w K mg base 5 a.Desk__splice fd1 ["self", "index", "film", "cut", "other", "place"] (spDSpl K a)) :
    FnOk P w K mg base (L2.CX P w) 6 f fd ["self", "index", "film", "cut", "other", "place"] (spDCall K a) := by
  refine F.okX sc_Desk___call__ (fun vs H Q E h => by obtain ⟨m, dx, b, f, t, n, c, xs, ws, js, cs, i, l, u, o, p, rfl, _⟩ := h; rfl) (fun cdv A outer s H vs Q E hr0 h => ?_)
  have hr_Desk__splice : (Room 5 (A.deeper (envOfC "Desk.__call__" (defScope s_Desk___call__) s.heap.objs.size f cdv))) := hr0
  have hr := hr_Desk__splice.mono (show 2 ≤ 5 by decide)
  refine ⟨_, (pss_cons (ps_set (i := 6) sc_Desk___call__.nd rfl (Or.inl rfl) (pe_callB call_len_seq (by rfl) T.b_len PySem.boot_len (pa_cons (pe_fld (pv 0) rfl) pa_nil)))
      (pss_cons (ps_set (i := 7) sc_Desk___call__.nd rfl (Or.inl rfl) (pe_methSE (pv 0) T.c_Desk T.h_Desk__splice c_Desk__splice.ok hr_Desk__splice c_Desk__splice.binds (fun σ => passAt (takes_of rfl rfl rfl rfl) σ) (pa_cons (pv 1) (pa_cons (pv 2) (pa_cons (pv 3) (pa_cons (pv 4) (pa_cons (pv 5) pa_nil)))))))
      (pss_cons (ps_expr (pe_bm PySem.F.plainAttrs_list PySem.F.slot_list_append PySem.F.type_list_append mt_append (pe_fld (pv 0) rfl) (pa_cons (pv 6) pa_nil)))
      (pss_one (ps_ret (pv 7)))))), ?_⟩
  obtain ⟨m, dx, b, f, t, n, c, xs, ws, js, cs, i, l, u, o, p, rfl, hm, d, xl, hx, hc, lc, bx, j4, jl, er, k⟩ := h
  obtain ⟨nfn, ntn, ncn⟩ := d.nf
  refine ⟨_, rfl, m, a.Desk, dx, _, _, rfl, hm, T.c_Desk, T.n_Desk_films, rfl, f, _, rfl, .inl (SqL.of d.hf), ?_⟩
  rw [List.length_map]
  refine ⟨_, rfl, m, dx, _, rfl, hm, rfl, _, rfl, _, rfl, _, rfl, _, rfl, _, rfl, m, dx, b, f, t, n, c, xs, ws, js, i, l, u, o, p, rfl, hm, d, xl, hx, bx, j4, jl, er, fun ok H1 bu dd => ?_⟩
  have cx : c ∉ [f, t, n] := by simp [d.fc.symm, d.tc.symm, ncn]
  have hc1 := bu c _ cx hc
  have nm : ∀ q ∈ [f, t, n, c], m ≠ q := by
    intro q hq z
    subst z
    obtain ⟨ts, et, _⟩ := d.ht
    simp at hq
    rcases hq with rfl | rfl | rfl | rfl
    · rw [d.hf] at hm; cases hm
    · rw [et] at hm; cases hm
    · rw [d.hn] at hm; cases hm
    · rw [hc] at hm; cases hm
  have hm1 := bu m _ (fun q => nm m (in4 q) rfl) hm
  refine ⟨_, rfl, m, a.Desk, dx, _, _, rfl, hm1, T.c_Desk, T.n_Desk_calls, rfl, .inl ⟨rfl, _, SqL.of hc1⟩, _, rfl, c, _, _, rfl, rfl, hc1, small_lt (by omega), ?_⟩
  refine ⟨_, rfl, ?_⟩
  have h2 : upd H1 c (.lst (cs ++ [.int xs.length])) c = _ := upd_same
  have b2 : But [f, t, n, c] H (upd H1 c (.lst (cs ++ [.int xs.length]))) := But.mut (fun b o nb e => bu b o (fun q => nb (in4 q)) e) (by simp)
  refine k ok _ b2 ?_ h2
  obtain ⟨ts, et, lt⟩ := dd.ht
  exact ⟨(upd_ne d.fc).trans dd.hf, ⟨ts, (upd_ne d.tc).trans et, lt⟩, (upd_ne ncn.symm).trans dd.hn, ⟨_, h2, by rw [List.length_append]; exact Nat.le_trans (Nat.add_le_add_right lc 1) (by decide)⟩, d.ft, d.tc, d.fc⟩
theorem BoxAt.kp {H H' : Hp} {m b dx : Addr} {c : Addr} {ws : List Str} {js : Js} (h : BoxAt K a H b ws js) (hm : H m = some (.ins c dx [])) (k : Kp m H H') : BoxAt K a H' b ws js := by
  obtain ⟨d2, s, r, q, dk, h1, h2, h3, h4, h5⟩ := h
  have ne : ∀ {x : Addr} {o : HO}, H x = some o → o ≠ .ins c dx [] → x ≠ m := fun e n z => n (by rw [z, hm] at e; exact (Option.some.inj e).symm)
  refine ⟨d2, s, r, q, dk, k _ _ (ne h1 (by intro z; cases z)) h1, k _ _ (ne h2 (by intro z; cases z)) h2, k _ _ (ne h3 (by intro z; cases z)) h3, fun j hj => ?_, k _ _ (ne h5 (by intro z; cases z)) h5⟩
  rcases h4 j hj with (e | ⟨o, e⟩) | e
  · exact .inl (.inl (k _ _ (ne e (by intro z; cases z)) e))
  · exact .inl (.inr ⟨o, k _ _ (ne e (by intro z; cases z)) e⟩)
  · exact .inr e
theorem kp_self {m : Addr} {H H1 : Hp} {o : HO} (k : Kp m H H1) : Kp m H (upd H1 m o) := fun b u n e => by rw [upd_ne n]; exact k b u n e
abbrev s_Desk___init__ : Stmt := inClass (top 24) 0
theorem sc_Desk___init__ : FnScope ["self", "box", "index", "strip"] ["self", "box"] (defScope s_Desk___init__) := ⟨rfl, rfl, rfl, by decide +kernel, rfl, by decide +kernel, by decide +kernel⟩
/-- Desk(box) fills the new object at m -/
def spDInit (K : PySem.W.Frag) (a : Ad) : Sp := fun vs H Q _ => ∃ (m dx b : Addr) (ws : List Str) (js : Js), vs = [.ref m, .ref b] ∧ H m = some (.ins a.Desk dx []) ∧ BoxAt K a H b ws js ∧ ws.length ≤ 1000 ∧
  ∀ H' f t n c, H f = none → H t = none → H n = none → H c = none → Kp m H H' → H' m = some (.ins a.Desk dx (dkF b f t n c)) → DS H' f t n c (addAll [] ws) → H' c = some (.lst []) → Q .non H'
theorem ok_dinit {f : Addr} {fd fd1 fd2 : FuncData} (F : Fun K "__init__" "Desk.__init__" s_Desk___init__ f fd) (T : Txt K mg a) (c_Box_strips : Cal P w K mg base 1 a.Box_strips fd1 ["self"] (spBoxStrips K a)) (c_Desk__put : Cal P w K mg base 1 a.Desk__put fd2 ["self", "film", "told"] (spDPut a)) :
    FnOk P w K mg base CX0 3 f fd ["self", "box"] (spDInit K a) := by
  refine F.ok sc_Desk___init__ (fun vs H Q E h => by obtain ⟨m, dx, b, ws, js, rfl, _⟩ := h; rfl) (fun cdv A outer s H vs Q E hr0 h => ?_)
  have hr : (Room 2 (A.deeper (envOfC "Desk.__init__" (defScope s_Desk___init__) s.heap.objs.size f cdv))) := hr0
  have hr_Box_strips := hr
  have hr_Desk__put := hr.mono (show 1 ≤ 2 by decide)
  refine ⟨_, (pss_cons (ps_fld (pv 0) (pv 1) rfl)
      (pss_cons (ps_fld (pv 0) (pe_lst pa_nil) rfl)
      (pss_cons (ps_fld (pv 0) (pe_lst pa_nil) rfl)
      (pss_cons (ps_fld (pv 0) pe_dnewK rfl)
      (pss_cons (ps_fld (pv 0) (pe_lst pa_nil) rfl)
      (pss_one (ps_for PassesOwn.never rfl (pi_enum rfl T.b_enumerate (pa_cons (pe_prop (pv 1) T.c_Box T.p_Box_strips c_Box_strips.ok hr_Box_strips c_Box_strips.binds .nil pass0 rfl) pa_nil)) (pg_tup rfl (pgs_cons (pg_name (i := 2) sc_Desk___init__.nd rfl (Or.inl rfl)) (pgs_cons (pg_name (i := 3) sc_Desk___init__.nd rfl (Or.inl rfl)) pgs_nil)))
      (pss_one (ps_expr (pe_meth (pv 0) T.c_Desk T.h_Desk__put c_Desk__put.ok hr_Desk__put c_Desk__put.binds .nil pass0 (pa_cons (pv 3) (pa_cons (pe_tup (pa_cons pe_str (pa_cons (pv 2) pa_nil))) pa_nil)))))))))))), ?_⟩
  obtain ⟨m, dx, b, ws, js, rfl, hm, bx, lw, k⟩ := h
  refine ⟨_, rfl, _, rfl, m, a.Desk, dx, _, rfl, hm, T.c_Desk, T.n_Desk_box, by decide, ?_⟩
  have k1 : Kp m H (upd H m (.ins a.Desk dx (putF "_box" (.ref b) []))) := kp_self (Kp.refl _ _)
  have m1 := upd_same (H := H) (a := m) (o := .ins a.Desk dx (putF "_box" (.ref b) []))
  generalize upd H m _ = H1 at k1 m1
  refine ⟨by decide, fun f hf => ?_⟩
  have f0 := k1.none m1 hf
  refine ⟨_, rfl, m, a.Desk, dx, _, rfl, upd_old m1 hf, T.c_Desk, T.n_Desk_films, (by show (1 : Nat) < 1000; decide), ?_⟩
  have nf := (ne_of_none m1 hf).symm
  have k2 : Kp m H (upd (upd H1 f (.lst [])) m (.ins a.Desk dx (putF "_films" (.ref f) (putF "_box" (.ref b) [])))) := kp_self (k1.new hf)
  have m2 := upd_same (H := upd H1 f (.lst [])) (a := m) (o := .ins a.Desk dx (putF "_films" (.ref f) (putF "_box" (.ref b) [])))
  have ef2 : upd (upd H1 f (.lst [])) m (.ins a.Desk dx (putF "_films" (.ref f) (putF "_box" (.ref b) []))) f = _ := (upd_ne nf).trans upd_same
  generalize upd (upd H1 f (.lst [])) m _ = H2 at k2 m2 ef2
  refine ⟨by decide, fun t ht => ?_⟩
  have t0 := k2.none m2 ht
  have nt := (ne_of_none m2 ht).symm
  have ntf := (ne_of_none ef2 ht).symm
  refine ⟨_, rfl, m, a.Desk, dx, _, rfl, upd_old m2 ht, T.c_Desk, T.n_Desk_trees, (by show (2 : Nat) < 1000; decide), ?_⟩
  have k3 : Kp m H (upd (upd H2 t (.lst [])) m (.ins a.Desk dx (putF "_trees" (.ref t) (putF "_films" (.ref f) (putF "_box" (.ref b) []))))) := kp_self (k2.new ht)
  have m3 := upd_same (H := upd H2 t (.lst [])) (a := m) (o := .ins a.Desk dx (putF "_trees" (.ref t) (putF "_films" (.ref f) (putF "_box" (.ref b) []))))
  have et3 : upd (upd H2 t (.lst [])) m (.ins a.Desk dx (putF "_trees" (.ref t) (putF "_films" (.ref f) (putF "_box" (.ref b) [])))) t = _ := (upd_ne nt).trans upd_same
  have ef3 : upd (upd H2 t (.lst [])) m (.ins a.Desk dx (putF "_trees" (.ref t) (putF "_films" (.ref f) (putF "_box" (.ref b) [])))) f = _ := (upd_ne nf).trans (upd_old ef2 ht)
  generalize upd (upd H2 t (.lst [])) m _ = H3 at k3 m3 et3 ef3
  refine fun n hn => ?_
  have n0 := k3.none m3 hn
  have nn := (ne_of_none m3 hn).symm
  refine ⟨_, rfl, m, a.Desk, dx, _, rfl, upd_old m3 hn, T.c_Desk, T.n_Desk_numbers, (by show (3 : Nat) < 1000; decide), ?_⟩
  have k4 : Kp m H (upd (upd H3 n (.dK [])) m (.ins a.Desk dx (putF "_numbers" (.ref n) (putF "_trees" (.ref t) (putF "_films" (.ref f) (putF "_box" (.ref b) [])))))) := kp_self (k3.new hn)
  have m4 := upd_same (H := upd H3 n (.dK [])) (a := m) (o := .ins a.Desk dx (putF "_numbers" (.ref n) (putF "_trees" (.ref t) (putF "_films" (.ref f) (putF "_box" (.ref b) [])))))
  have en4 : upd (upd H3 n (.dK [])) m (.ins a.Desk dx (putF "_numbers" (.ref n) (putF "_trees" (.ref t) (putF "_films" (.ref f) (putF "_box" (.ref b) []))))) n = _ := (upd_ne nn).trans upd_same
  have et4 : upd (upd H3 n (.dK [])) m (.ins a.Desk dx (putF "_numbers" (.ref n) (putF "_trees" (.ref t) (putF "_films" (.ref f) (putF "_box" (.ref b) []))))) t = _ := (upd_ne nt).trans (upd_old et3 hn)
  have ef4 : upd (upd H3 n (.dK [])) m (.ins a.Desk dx (putF "_numbers" (.ref n) (putF "_trees" (.ref t) (putF "_films" (.ref f) (putF "_box" (.ref b) []))))) f = _ := (upd_ne nf).trans (upd_old ef3 hn)
  generalize upd (upd H3 n (.dK [])) m _ = H4 at k4 m4 en4 et4 ef4
  refine ⟨by decide, fun c hc => ?_⟩
  have c0 := k4.none m4 hc
  have nc := (ne_of_none m4 hc).symm
  have ncf := (ne_of_none ef4 hc).symm
  have nct := (ne_of_none et4 hc).symm
  refine ⟨_, rfl, m, a.Desk, dx, _, rfl, upd_old m4 hc, T.c_Desk, T.n_Desk_calls, (by show (4 : Nat) < 1000; decide), ?_⟩
  have k5 : Kp m H (upd (upd H4 c (.lst [])) m (.ins a.Desk dx (dkF b f t n c))) := kp_self (k4.new hc)
  have m5 := upd_same (H := upd H4 c (.lst [])) (a := m) (o := .ins a.Desk dx (dkF b f t n c))
  have ec5 : upd (upd H4 c (.lst [])) m (.ins a.Desk dx (dkF b f t n c)) c = _ := (upd_ne nc).trans upd_same
  have en5 : upd (upd H4 c (.lst [])) m (.ins a.Desk dx (dkF b f t n c)) n = _ := (upd_ne nn).trans (upd_old en4 hc)
  have et5 : upd (upd H4 c (.lst [])) m (.ins a.Desk dx (dkF b f t n c)) t = _ := (upd_ne nt).trans (upd_old et4 hc)
  have ef5 : upd (upd H4 c (.lst [])) m (.ins a.Desk dx (dkF b f t n c)) f = _ := (upd_ne nf).trans (upd_old ef4 hc)
  have hfld : (putF "_calls" (.ref c) (putF "_numbers" (.ref n) (putF "_trees" (.ref t) (putF "_films" (.ref f) (putF "_box" (.ref b) []))))) = dkF b f t n c := rfl
  rw [hfld]
  generalize upd (upd H4 c (.lst [])) m _ = H5 at k5 m5 ec5 en5 et5 ef5
  have bx5 := bx.kp hm k5
  obtain ⟨dbx, s0, r0, q0, dk0, hb5, _⟩ := id bx5
  refine ⟨_, rfl, b, dbx, _, rfl, hb5, b, ws, js, rfl, bx5, fun q hq => ?_⟩
  have e6 := upd_same (H := H5) (a := q) (o := .lst (ws.map V.str))
  have d6 : DS (upd H5 q (.lst (ws.map V.str))) f t n c (addAll [] (ws.take 0)) := ⟨upd_old ef5 hq, ⟨[], upd_old et5 hq, rfl⟩, upd_old en5 hq, ⟨[], upd_old ec5 hq, by decide⟩, ntf.symm, nct.symm, ncf.symm⟩
  have m6 := upd_old (u := .lst (ws.map V.str)) m5 hq
  have c6 := upd_old (u := .lst (ws.map V.str)) ec5 hq
  have k6 := k5.new (o := .lst (ws.map V.str)) hq
  have nq : ∀ x ∈ [f, t, n, c], q ≠ x := by
    intro x hx z
    subst z
    simp at hx
    rcases hx with rfl | rfl | rfl | rfl
    · rw [ef5] at hq; cases hq
    · rw [et5] at hq; cases hq
    · rw [en5] at hq; cases hq
    · rw [ec5] at hq; cases hq
  have nqm := (ne_of_none m5 hq).symm
  generalize upd H5 q _ = H6 at e6 d6 m6 c6 k6
  refine ⟨q, _, rfl, SqL.of e6, for_it (walk_enum (xs := ws.map V.str)) (fun i σ H' => ∃ x2 x3, σ = [some (.ref m), some (.ref b), x2, x3] ∧ But [f, t, n] H6 H' ∧ DS H' f t n c (addAll [] (ws.take i))) ⟨_, _, rfl, But.refl _ _, d6⟩ (fun i σ H' _ z => ?_) ?_ ?_⟩
  · obtain ⟨_, _, _, bu, _⟩ := z
    exact SqL.of (bu q _ (fun z => nq q (in4 z) rfl) e6)
  · rintro i v σ H7 H8 hi ⟨x2, x3, rfl, bu, d7⟩ ⟨T0, x, y, rfl, hT, rfl, ex, ey⟩
    cases ex
    obtain ⟨y, ew, rfl⟩ := map_at ey
    have m7 := bu m _ (fun z => by simp at z; rcases z with z | z | z; exact nf z.symm; exact nt z.symm; exact nn z.symm) m6
    refine ⟨T0, _, rfl, SqT.of upd_same, rfl, ?_⟩
    have m8 := upd_old (u := .tup [.int (i : Nat), .str y]) m7 hT
    have d8 := d7.same (same_new (u := .tup [.int (i : Nat), .str y]) (Same.refl _) hT)
    have bu8 : But [f, t, n] H6 (upd H7 T0 (.tup [.int (i : Nat), .str y])) := bu.new hT
    generalize upd H7 T0 _ = H8 at m8 d8 bu8
    refine ⟨_, _, rfl, _, _, rfl, rfl, ?_⟩
    refine ⟨_, rfl, m, dx, _, rfl, m8, rfl, _, rfl, _, rfl, small_line (by show 2 ≤ 100000; decide), fun z hz => ?_⟩
    have le : (addAll [] (ws.take i)).length ≤ 1000 := Nat.le_trans (addAll_len _ _) (by rw [List.length_take]; show 0 + _ ≤ _; omega)
    refine ⟨m, dx, b, f, t, n, c, _, y, _, rfl, upd_old m8 hz, d8.same (same_new (Same.refl _) hz), le, fun H' bu' dd => ?_⟩
    rw [addX_take ws i y ew] at dd
    exact ⟨_, _, rfl, fun b o nb e => bu' b o nb (upd_old (bu8 b o nb e) hz), dd⟩
  · rintro σ H' ⟨x2, x3, rfl, bu, dd⟩
    have cx : c ∉ [f, t, n] := fun z => by
      simp at z
      rcases z with z | z | z
      · exact ncf z
      · exact nct z
      · rw [z, en5] at ec5; cases ec5
    rw [List.length_map, List.take_length] at dd
    refine k H' f t n c f0 t0 n0 c0 (fun b o nb e => bu b o (fun z => ?_) (k6 b o nb e)) (bu m _ (fun z => by simp at z; rcases z with z | z | z; exact nf z.symm; exact nt z.symm; exact nn z.symm) m6) dd (bu c _ cx c6)
    simp at z
    rcases z with rfl | rfl | rfl
    · rw [f0] at e; cases e
    · rw [t0] at e; cases e
    · rw [n0] at e; cases e
/-- a desk whose films are taken back to the first k -/
theorem numD_at : ∀ (xs ys : List Str) (k : Nat), numD (xs ++ ys) k = numD xs k ++ numD ys (k + xs.length)
  | [], ys, k => rfl
  | x :: r, ys, k => by
    show _ :: numD (r ++ ys) (k + 1) = _ :: (numD r (k + 1) ++ _)
    rw [numD_at r ys (k + 1)]
    have : k + 1 + r.length = k + (x :: r).length := by rw [List.length_cons]; omega
    rw [this]
theorem drop_no : ∀ {xs : List Str} {x : Str} (k : Nat), x ∉ xs → dropK (numD xs k) (.inr x) = numD xs k
  | [], _, _, _ => rfl
  | y :: r, x, k, h => by
    have ih := drop_no (k + 1) (fun z => h (List.mem_cons_of_mem _ z) : x ∉ r)
    unfold dropK at ih ⊢
    show List.filter _ ((.inr y, V.int (k : Int)) :: numD r (k + 1)) = _
    rw [List.filter_cons_of_pos (by
      refine decide_eq_true fun z => h ?_
      rw [Sum.inr.inj z]
      exact List.mem_cons_self), ih]
    rfl
theorem drop_first {ys : List Str} {x : Str} (k : Nat) (h : x ∉ ys) : dropK (numD (x :: ys) k) (.inr x) = numD ys (k + 1) := by
  have := drop_no (k + 1) h
  unfold dropK at this ⊢
  show List.filter _ ((.inr x, V.int (k : Int)) :: numD ys (k + 1)) = _
  rw [List.filter_cons_of_neg (by simp), this]
theorem drop_app (xs ys : List (L2.Key × V)) (x : L2.Key) : dropK (xs ++ ys) x = dropK xs x ++ dropK ys x := by
  unfold dropK
  exact List.filter_append ..
theorem drop_mid {xs ys : List Str} {x : Str} (h : (xs ++ x :: ys).Nodup) (j : Nat) : dropK (numD xs 0 ++ numD (x :: ys) j) (.inr x) = numD xs 0 ++ numD ys (j + 1) := by
  rw [List.nodup_append] at h
  obtain ⟨h1, h2, h3⟩ := h
  have h4 := (List.nodup_cons.mp h2).1
  have h5 : x ∉ xs := fun m => h3 x m x List.mem_cons_self rfl
  rw [drop_app, drop_no 0 h5, drop_first j h4]
theorem has_mid {xs ys : List Str} {x : Str} (h : x ∉ xs) (j : Nat) : (valV (numD xs 0 ++ numD (x :: ys) j) (.inr x)).isSome = true := by
  have : ∀ (xs : List Str) (k : Nat), x ∉ xs → valV (numD xs k ++ numD (x :: ys) j) (.inr x) = some (.int (j : Int)) := by
    intro xs
    induction xs with
    | nil => intro k _; exact valV_pos rfl
    | cons y r ih =>
      intro k h
      show valV ((.inr y, V.int (k : Int)) :: (numD r (k + 1) ++ numD (x :: ys) j)) (.inr x) = _
      rw [valV_neg (fun z => h (by rw [Sum.inr.inj z]; exact List.mem_cons_self))]
      exact ih (k + 1) fun z => h (List.mem_cons_of_mem _ z)
  rw [this xs 0 h]
  rfl
theorem cut_from {ys : List V} {k : Nat} (h : k ≤ ys.length) : cutV ys (some (k : Int)) none = ys.drop k := by
  unfold cutV
  rw [HT.sIx_nat, HT.sIx_none, Nat.min_eq_left h]
  rw [List.take_of_length_le]
  rw [List.length_drop]
  exact Nat.le_refl _
abbrev s_Desk_undo : Stmt := inClass (top 24) 12
theorem sc_Desk_undo : FnScope ["self", "many", "film"] ["self"] (defScope s_Desk_undo) := ⟨rfl, rfl, rfl, by decide +kernel, rfl, by decide +kernel, by decide +kernel⟩
/-- the last call is taken back: k films stay -/
def spUndo (a : Ad) : Sp := fun vs H Q E => ∃ (m dx b f t n c : Addr) (xs : List Str) (ms : List Int), vs = [.ref m] ∧ H m = some (.ins a.Desk dx (dkF b f t n c)) ∧ DS H f t n c xs ∧ H c = some (.lst (ms.map V.int)) ∧ xs.Nodup ∧ xs.length ≤ 1000 ∧
  (ms = [] → Raised a 0 H E (.num 7 0)) ∧ (∀ (l : List Int) (z : Int), ms = l ++ [z] → ∃ k : Nat, z = k ∧ k ≤ xs.length ∧ ∀ H', But [f, t, n, c] H H' → DS H' f t n c (xs.take k) → H' c = some (.lst (l.map V.int)) → Q .non H')
theorem ok_undo {f : Addr} {fd fdI : FuncData} (F : Fun K "undo" "Desk.undo" s_Desk_undo f fd) (T : Txt K mg a) (c_init : Cal P w K mg base 1 a.init fdI ["self", "value"] (spErrInit K)) : FnOk P w K mg base (L2.CX P w) 3 f fd ["self"] (spUndo a) := by
  refine F.okX sc_Desk_undo (fun vs H Q E h => by obtain ⟨m, dx, b, f, t, n, c, xs, ms, rfl, _⟩ := h; rfl) (fun cdv A outer s H vs Q E hr0 h => ?_)
  have hr : (Room 2 (A.deeper (envOfC "Desk.undo" (defScope s_Desk_undo) s.heap.objs.size f cdv))) := hr0
  refine ⟨_, (pss_cons (ps_if (pt_not (pt_truth (pe_fld (pv 0) rfl) (by intro _; rfl))) (pss_one (ps_raise rfl (takes_of rfl rfl rfl rfl) (pmk_oex T.e_NothingToUndo.oe T.e_NothingToUndo.iC T.e_NothingToUndo.tI c_init.ok hr c_init.binds .nil pass0 rfl T.g_NothingToUndo (pa_cons pe_int pa_nil)))) pss_nil)
      (pss_cons (ps_set (i := 1) sc_Desk_undo.nd rfl (Or.inl rfl) (pe_bm0 PySem.F.plainAttrs_list PySem.F.slot_list_pop PySem.F.type_list_pop mt_pop (pe_fld (pv 0) rfl)))
      (pss_cons (ps_for (passes_of rfl) rfl (pi_list (pe_slice sl_list (pe_fld (pv 0) rfl) (po_some (pv 1)) po_none)) (pg_name (i := 2) sc_Desk_undo.nd rfl (Or.inl rfl))
      (pss_one (ps_ddel (pe_fld (pv 0) rfl) (pv 2))))
      (pss_cons (ps_delFrom (pe_fld (pv 0) rfl) (pv 1))
      (pss_one (ps_delFrom (pe_fld (pv 0) rfl) (pv 1))))))), ?_⟩
  obtain ⟨m, dx, b, f, t, n, c, xs, ms, rfl, hm, d, hc, nd, lx, er, k⟩ := h
  refine ⟨_, rfl, m, a.Desk, dx, _, _, rfl, hm, T.c_Desk, T.n_Desk_calls, rfl, _, .inl ⟨_, SqL.of hc, rfl⟩, ?_⟩
  rcases List.eq_nil_or_concat ms with e0 | ⟨l, z, e0⟩
  · subst e0
    refine iteT ?_
    exact ⟨by show 1 ≤ 1000; decide, err_made T.e_NothingToUndo fun d hd => er rfl H d (Same.refl _) hd⟩
  have ne : (ms.map V.int).isEmpty = false := by rw [e0]; simp
  rw [ne]
  refine iteF ?_
  have el : (ms.map V.int) = l.map V.int ++ [.int z] := by rw [e0]; simp
  have elast : (ms.map V.int)[(ms.map V.int).length - 1]? = some (.int z) := by
    rw [el, List.length_append]
    simp
  refine ⟨_, rfl, m, a.Desk, dx, _, _, rfl, hm, T.c_Desk, T.n_Desk_calls, rfl, .inl ⟨rfl, _, SqL.of hc⟩, c, _, .int z, rfl, rfl, hc, elast, ?_⟩
  obtain ⟨k0, rfl, hk, k⟩ := k l z (by rw [e0, List.concat_eq_append])
  have hd1 : (ms.map V.int).dropLast = l.map V.int := by rw [el, List.dropLast_concat]
  rw [hd1]
  obtain ⟨nfn, ntn, ncn⟩ := d.nf
  obtain ⟨ts, et, lt⟩ := d.ht
  have neM : ∀ {q : Addr} {u : HO}, H q = some u → (∀ C y fs, u ≠ .ins C y fs) → m ≠ q := fun h1 h2 z => by
    rw [← z, hm] at h1
    exact h2 _ _ _ (Option.some.inj h1).symm
  have nmc : m ≠ c := neM hc (by intro _ _ _ q; cases q)
  have nmf : m ≠ f := neM d.hf (by intro _ _ _ q; cases q)
  have nmt : m ≠ t := neM et (by intro _ _ _ q; cases q)
  have nmn : m ≠ n := neM d.hn (by intro _ _ _ q; cases q)
  have m1 : upd H c (.lst (l.map V.int)) m = _ := (upd_ne nmc).trans hm
  have f1 : upd H c (.lst (l.map V.int)) f = _ := (upd_ne d.fc).trans d.hf
  have t1 : upd H c (.lst (l.map V.int)) t = _ := (upd_ne d.tc).trans et
  have n1 : upd H c (.lst (l.map V.int)) n = _ := (upd_ne ncn.symm).trans d.hn
  have c1 := upd_same (H := H) (a := c) (o := .lst (l.map V.int))
  have b1 : But [f, t, n, c] H (upd H c (.lst (l.map V.int))) := (But.refl _ _).mut (by simp)
  generalize upd H c _ = H1 at m1 f1 t1 n1 c1 b1
  refine ⟨_, rfl, m, a.Desk, dx, _, _, rfl, m1, T.c_Desk, T.n_Desk_films, rfl, _, rfl, _, rfl, f, _, rfl, SqL.of f1, fun q hq => ?_⟩
  have lX : (xs.map V.str).length = xs.length := List.length_map ..
  rw [cut_from (by rw [lX]; exact hk), ← List.map_drop]
  have q2 := upd_same (H := H1) (a := q) (o := .lst ((xs.drop k0).map V.str))
  have m2 := upd_old (u := .lst ((xs.drop k0).map V.str)) m1 hq
  have f2 := upd_old (u := .lst ((xs.drop k0).map V.str)) f1 hq
  have t2 := upd_old (u := .lst ((xs.drop k0).map V.str)) t1 hq
  have n2 := upd_old (u := .lst ((xs.drop k0).map V.str)) n1 hq
  have c2 := upd_old (u := .lst ((xs.drop k0).map V.str)) c1 hq
  have b2 := b1.new (u := .lst ((xs.drop k0).map V.str)) hq
  have nqn : q ≠ n := (ne_of_none n1 hq).symm
  generalize upd H1 q _ = H2 at q2 m2 f2 t2 n2 c2 b2
  have split : numD xs 0 = numD (xs.take k0) 0 ++ numD (xs.drop k0) (k0 + 0) := by
    have e := numD_at (xs.take k0) (xs.drop k0) 0
    rw [List.take_append_drop, List.length_take, Nat.min_eq_left hk, Nat.zero_add] at e
    exact e
  refine ⟨q, rfl, ⟨_, SqL.of q2⟩, for_list (xs := (xs.drop k0).map V.str) (fun i σ H' => ∃ x2, σ = [some (.ref m), some (.int k0), x2] ∧ But [n] H2 H' ∧ H' n = some (.dK (numD (xs.take k0) 0 ++ numD ((xs.drop k0).drop i) (k0 + i)))) ⟨_, rfl, But.refl _ _, by rw [n2, split]; rfl⟩ (fun i σ H' _ z => ?_) ?_ ?_⟩
  · obtain ⟨_, _, bu, _⟩ := z
    exact SqL.of (bu q _ (fun z => nqn (List.mem_singleton.mp z)) q2)
  · rintro i v σ H' hv ⟨x2, rfl, bu, hn⟩
    obtain ⟨y, ey, rfl⟩ := map_at hv
    have m3 := bu m _ (fun z => nmn (List.mem_singleton.mp z)) m2
    obtain ⟨hl, ey'⟩ := List.getElem?_eq_some_iff.mp ey
    have ed : (xs.drop k0).drop i = y :: (xs.drop k0).drop (i + 1) := by rw [← ey']; exact List.drop_eq_getElem_cons hl
    have nd2 : (xs.take k0 ++ y :: (xs.drop k0).drop (i + 1)).Nodup := by
      rw [← ed]
      refine List.Sublist.nodup ?_ nd
      have s1 : List.Sublist (xs.take k0 ++ (xs.drop k0).drop i) (xs.take k0 ++ xs.drop k0) := List.Sublist.append (List.Sublist.refl _) (List.drop_sublist _ _)
      rw [List.take_append_drop] at s1
      exact s1
    rw [ed] at hn
    have no : y ∉ xs.take k0 := fun z => by
      rw [List.nodup_append] at nd2
      exact nd2.2.2 y z y List.mem_cons_self rfl
    refine ⟨_, rfl, m, a.Desk, dx, _, _, rfl, m3, T.c_Desk, T.n_Desk_numbers, rfl, _, rfl, n, _, .inr y, rfl, hn, rfl, has_mid no _, ?_⟩
    rw [drop_mid nd2]
    exact ⟨_, rfl, bu.mut (by simp), upd_same⟩
  · rintro σ H' ⟨x2, rfl, bu, hn⟩
    rw [List.length_map, List.drop_length] at hn
    have en : numD (xs.take k0) 0 ++ numD [] (k0 + (xs.drop k0).length) = numD (xs.take k0) 0 := List.append_nil _
    rw [en] at hn
    have nin : ∀ {v : Addr}, v ≠ n → v ∉ [n] := fun h z => h (List.mem_singleton.mp z)
    have m3 := bu m _ (nin nmn) m2
    have f3 := bu f _ (nin nfn) f2
    have t3 := bu t _ (nin ntn) t2
    have c3 := bu c _ (nin ncn) c2
    have b3 := b2.trans (bu.sub (Y := [f, t, n, c]) (by intro v hv; rw [List.mem_singleton.mp hv]; simp))
    refine ⟨_, rfl, m, a.Desk, dx, _, _, rfl, m3, T.c_Desk, T.n_Desk_films, rfl, _, rfl, _, rfl, f, _, k0, rfl, rfl, f3, by rw [lX]; exact hk, ?_⟩
    have m4 : upd H' f (.lst ((xs.map V.str).take k0)) m = _ := (upd_ne nmf).trans m3
    have t4 : upd H' f (.lst ((xs.map V.str).take k0)) t = _ := (upd_ne d.ft.symm).trans t3
    have n4 : upd H' f (.lst ((xs.map V.str).take k0)) n = _ := (upd_ne nfn.symm).trans hn
    have c4 : upd H' f (.lst ((xs.map V.str).take k0)) c = _ := (upd_ne d.fc.symm).trans c3
    have f4 := upd_same (H := H') (a := f) (o := .lst ((xs.map V.str).take k0))
    have b4 : But [f, t, n, c] H (upd H' f (.lst ((xs.map V.str).take k0))) := b3.mut (by simp)
    generalize upd H' f _ = H4 at m4 t4 n4 c4 f4 b4
    refine ⟨_, rfl, m, a.Desk, dx, _, _, rfl, m4, T.c_Desk, T.n_Desk_trees, rfl, _, rfl, _, rfl, t, _, k0, rfl, rfl, t4, by rw [lt]; exact hk, ?_⟩
    have c5 : upd H4 t (.lst (ts.take k0)) c = _ := (upd_ne d.tc.symm).trans c4
    refine k _ (b4.mut (by simp)) ⟨?_, ⟨_, upd_same, by rw [List.length_take, List.length_take, lt]⟩, (upd_ne ntn.symm).trans n4, ?_, d.ft, d.tc, d.fc⟩ c5
    · rw [← List.map_take] at f4
      exact (upd_ne d.ft).trans f4
    · obtain ⟨cs, ec, lc⟩ := d.hc
      rw [hc] at ec
      cases ec
      refine ⟨_, c5, ?_⟩
      rw [el, List.length_append] at lc
      omega
theorem box_ty {G : Hp} {m : Addr} {ws : List Str} {js : Js} (h : BoxAt K a G m ws js) (T : Txt K mg a) : ∃ dx fs, G m = some (.ins a.Box dx fs) ∧ TyX K G (.ref m) (.ref a.Box) := by
  obtain ⟨dx, s, r, k, dk, h1, _⟩ := h
  exact ⟨dx, _, h1, .base (.ins h1 T.c_Box T.kl_Box T.spO T.tkO T.ob_Box)⟩
abbrev s_Desk___eq__ : Stmt := inClass (top 24) 14
theorem sc_Desk___eq__ : FnScope ["self", "other"] ["self", "other"] (defScope s_Desk___eq__) := ⟨rfl, rfl, rfl, by decide +kernel, rfl, by decide +kernel, by decide +kernel⟩
/-- a desk and anything: equal to a desk with an equal box and the same films alone -/
def spDEq (K : PySem.W.Frag) (a : Ad) : Sp := fun vs H Q _ => ∃ (m dx b f t n c : Addr) (y : V) (ws : List Str) (js : Js) (xs : List Str), vs = [.ref m, y] ∧ H m = some (.ins a.Desk dx (dkF b f t n c)) ∧ DS H f t n c xs ∧ BoxAt K a H b ws js ∧ Any5 ws js ∧ (∀ x ∈ xs, Tx 5000 x) ∧
  ((∃ (m2 dy b2 f2 t2 n2 c2 : Addr) (vs2 : List Str) (ks : Js) (ys : List Str), y = .ref m2 ∧ H m2 = some (.ins a.Desk dy (dkF b2 f2 t2 n2 c2)) ∧ DS H f2 t2 n2 c2 ys ∧ BoxAt K a H b2 vs2 ks ∧ Any5 vs2 ks ∧ (∀ x ∈ ys, Tx 5000 x) ∧ ∀ H', Same H H' → Q (.bl (eqB ws vs2 js ks && decide (xs = ys))) H') ∨
    (∃ t, TyX K H y t ∧ PySem.W.kitOne K t (.ref a.Desk) = some false ∧ Q (.bl false) H))
theorem ok_desk_eq {f : Addr} {fd fd1 : FuncData} (F : Fun K "__eq__" "Desk.__eq__" s_Desk___eq__ f fd) (T : Txt K mg a) (c_Box___eq__ : Cal P w K mg base 1 a.Box___eq__ fd1 ["self", "other"] (spBoxEq K a)) : FnOk P w K mg base CX0 2 f fd ["self", "other"] (spDEq K a) := by
  refine F.ok sc_Desk___eq__ (fun vs H Q E h => by obtain ⟨m, dx, b, f, t, n, c, y, ws, js, xs, rfl, _⟩ := h; rfl) (fun cdv A outer s H vs Q E hr h => ?_)
  have hr_Box___eq__ := hr
  refine ⟨_, (pss_one (ps_ret (pe_and (pe_callB call_isi (by rfl) T.b_isinstance (by decide +kernel) (pa_cons (pv 1) (pa_cons (pe_glob (v := .ref a.Desk) rfl T.g_Desk rfl) pa_nil))) (pe_and (pe_cmpR (op_eqO (K := K) c_Box___eq__.ok hr_Box___eq__ T.o_Box___eq__ T.of_Box___eq__ c_Box___eq__.binds pass0) (pe_fld (pv 0) rfl) (pe_fld (pv 1) rfl) (nomark _)) (pe_one (pe_cmpR (op_eqD hr.units) (pe_fld (pv 0) rfl) (pe_fld (pv 1) rfl) (nomark _))))))), ?_⟩
  obtain ⟨m, dx, b, f, t, n, c, y, ws, js, xs, rfl, hm, d, bx, a5, hx, h⟩ := h
  rcases h with ⟨m2, dy, b2, f2, t2, n2, c2, vs2, ks, ys, rfl, hm2, d2, bx2, a6, hy, k⟩ | ⟨t, ty, no, k⟩
  · refine ⟨_, rfl, _, _, _, _, true, rfl, .own _, .base (.ins hm2 T.c_Desk T.kl_Desk T.spO T.tkO T.ob_Desk), T.ki_Desk, _, rfl, ?_⟩
    refine ite2 (fun _ => ?_) (fun z => absurd rfl z)
    obtain ⟨dbx, fs, hb, _⟩ := box_ty bx T
    obtain ⟨dby, fs2, hb2, tyb⟩ := box_ty bx2 T
    refine ⟨_, rfl, m, a.Desk, dx, _, _, rfl, hm, T.c_Desk, T.n_Desk_box, rfl, _, rfl, m2, a.Desk, dy, _, _, rfl, hm2, T.c_Desk, T.n_Desk_box, rfl, b, dbx, fs, _, rfl, hb, tyb, first_self, b, .ref b2, ws, js, rfl, bx, a5, .inl ⟨b2, vs2, ks, rfl, bx2, a6, fun H1 s1 => ?_⟩⟩
    refine ⟨_, rfl, ?_⟩
    refine ite2 (fun c1 => ?_) (fun c1 => ?_)
    · rw [c1] at k
      refine ⟨_, rfl, m, a.Desk, dx, _, _, rfl, s1 _ _ hm, T.c_Desk, T.n_Desk_films, rfl, _, rfl, m2, a.Desk, dy, _, _, rfl, s1 _ _ hm2, T.c_Desk, T.n_Desk_films, rfl, _, _, dp_w (SqL.of (s1 _ _ d.hf)), dp_w (SqL.of (s1 _ _ d2.hf)), shaped_strs hx, shaped_strs hy, ?_⟩
      rw [eqv_w]
      have := k H1 s1
      rw [Bool.true_and] at this
      exact this
    · rw [b_f c1] at k
      have := k H1 s1
      rw [Bool.false_and] at this
      exact this
  · refine ⟨_, rfl, _, _, _, _, _, rfl, .own a.Desk, ty, no, _, rfl, ?_⟩
    exact iteF k
end
end K52

namespace K52
open PySem PySem.Spec PyProof.Rows L2 Sf
section
variable {P : Program} {w : World} {K : PySem.W.Frag} {mg : Str → Option Value} {base : Heap} {a : Ad}
abbrev s_sites : Stmt := top 34
theorem sc_sites : FnScope ["left", "right", "word", "spots", "spot", "turn"] ["left", "right", "word"] (defScope s_sites) := ⟨rfl, rfl, rfl, by decide +kernel, rfl, by decide +kernel, by decide +kernel⟩
/-- the places of two pieces side by side, found one by one -/
def spSites : Sp := fun vs H Q _ => ∃ (l r x : Str), vs = [.str l, .str r, .str x] ∧ Tx 2000 l ∧ Tx 2000 r ∧ Tx 5000 x ∧ 1 ≤ (l ++ r).length ∧ ∀ p H', H p = none → Same H H' → H' p = some (.lst (vnats (seats l r x))) → Q (.ref p) H'
theorem ok_sites {f : Addr} {fd : FuncData} (F : Fun K "_law_fm_sites" "_law_fm_sites" s_sites f fd) (T : Txt K mg a) : FnOk P w K mg base CX0 1 f fd ["left", "right", "word"] spSites := by
  refine F.ok sc_sites (fun vs H Q E h => by obtain ⟨l, r, x, rfl, _⟩ := h; rfl) (fun cdv A outer s H vs Q E hr h => ?_)
  refine ⟨_, (pss_cons (ps_par (i := 3) (j := 4) (by rfl) sc_sites.nd rfl rfl (by decide) rfl rfl (pa_cons (pe_lst pa_nil) (pa_cons (pe_m1 PySem.F.slot_str_find PySem.F.type_str_find mt_find (pv 2) (pe_op op_add_str (pv 0) (pv 1))) pa_nil)) (by rfl))
      (pss_cons (ps_for PassesOwn.never rfl (pi_range1 rfl T.b_range (pa_cons (pe_callB call_len_str (by rfl) T.b_len PySem.boot_len (pa_cons (pv 2) pa_nil)) pa_nil)) (pg_name (i := 5) sc_sites.nd rfl (Or.inl rfl))
      (pss_cons (ps_if (pt_cmpR op_lt (pv 4) pe_int (nomark _)) (pss_one (ps_ret (pv 3))) pss_nil)
      (pss_cons (ps_expr (pe_bm PySem.F.plainAttrs_list PySem.F.slot_list_append PySem.F.type_list_append mt_append (pv 3) (pa_cons (pe_op op_add (pv 4) (pe_callB call_len_str (by rfl) T.b_len PySem.boot_len (pa_cons (pv 0) pa_nil))) pa_nil)))
      (pss_one (ps_set (i := 4) sc_sites.nd rfl (Or.inl rfl) (pe_bm PySem.F.plainAttrs_str PySem.F.slot_str_find PySem.F.type_str_find mt_find3 (pv 2) (pa_cons (pe_op op_add_str (pv 0) (pv 1)) (pa_cons (pe_op op_add (pv 4) pe_int) pa_nil))))))))
      (pss_one (ps_ret (pv 3))))), ?_⟩
  obtain ⟨l, r, x, rfl, hl, hr', hx, h1, k⟩ := h
  have ln := hl.len
  have rn := hr'.len
  have xn := hx.len
  have lr : l.length + r.length ≤ sizeLine := small_line (by omega)
  refine ⟨by show 0 ≤ sizeLine; decide, fun p hp => ?_⟩
  refine ⟨_, rfl, ⟨_, rfl⟩, _, rfl, _, rfl, l, r, rfl, rfl, lr, _, _, rfl, rfl, ?_⟩
  refine ⟨_, _, rfl, ?_⟩
  rw [find_nxt, seats_eq] at *
  have nx : ∀ i, nxt x (l ++ r) i < 0 ↔ (occs x (l ++ r)).length ≤ i := fun i => by
    unfold nxt
    cases q : (occs x (l ++ r))[i]? with
    | none => exact ⟨fun _ => List.getElem?_eq_none_iff.mp q, fun _ => by decide⟩
    | some v =>
      have := (List.getElem?_eq_some_iff.mp q).1
      exact ⟨fun z => absurd z (by show ¬ ((v : Nat) : Int) < 0; omega), fun z => by omega⟩
  have ol := occs_len (x := x) (y := l ++ r) h1
  have fin : ∀ i, (occs x (l ++ r)).length ≤ i → Q (.ref p) (upd H p (.lst (vnats (((occs x (l ++ r)).take i).map fun c => c + l.length)))) := fun i hi =>
    k p _ hp (same_new (Same.refl H) hp) (by rw [List.take_of_length_le hi]; exact upd_same)
  refine ⟨_, rfl, x, rfl, hx.line (by decide), x.length, rfl, by omega, by omega, ?_⟩
  rw [Int.toNat_natCast]
  refine for_range (n := x.length) (fun i σ H' => ∃ x5, σ = [some (.str l), some (.str r), some (.str x), some (.ref p), some (.int (nxt x (l ++ r) i)), x5] ∧ H' = upd H p (.lst (vnats (((occs x (l ++ r)).take i).map fun c => c + l.length)))) ⟨_, rfl, rfl⟩ ?_ ?_
  · rintro i σ H1 hi ⟨x5, rfl, rfl⟩
    rw [Int.zero_add]
    refine ⟨_, rfl, _, _, rfl, rfl, _, rfl, ?_⟩
    refine ite2 (fun c => ?_) (fun c => ?_)
    · exact ⟨_, rfl, fin i ((nx i).mp (of_decide_eq_true c))⟩
    · have hlt : i < (occs x (l ++ r)).length := Nat.lt_of_not_le fun z => c (decide_eq_true ((nx i).mpr z))
      have ev : (occs x (l ++ r))[i]? = some (occs x (l ++ r))[i] := List.getElem?_eq_getElem hlt
      generalize (occs x (l ++ r))[i] = v at ev
      have en : nxt x (l ++ r) i = (v : Int) := by unfold nxt; rw [ev]
      rw [en]
      refine ⟨_, rfl, .inl ⟨rfl, _, SqL.of upd_same⟩, _, rfl, _, rfl, l, rfl, hl.line (by decide), _, _, rfl, rfl, ?_⟩
      refine ⟨p, _, _, rfl, rfl, upd_same, ?_, ?_⟩
      · unfold vnats
        rw [List.length_map, List.length_map, List.length_take]
        exact Nat.lt_of_le_of_lt (Nat.le_trans (Nat.min_le_right _ _) (Nat.le_trans ol xn)) (by decide)
      · refine ⟨_, rfl, rfl, _, rfl, _, rfl, l, r, rfl, rfl, lr, _, rfl, _, _, rfl, rfl, x, l ++ r, _, rfl, rfl, ?_⟩
        rw [find3_nxt ev]
        refine ⟨_, rfl, ?_⟩
        rw [upd_upd, List.take_add_one, ev, List.map_append]
        unfold vnats
        rw [List.map_append]
        rfl
  · rintro σ H1 ⟨x5, rfl, rfl⟩
    exact ⟨_, rfl, fin _ ol⟩
abbrev s_put : Stmt := top 39
theorem sc_put : FnScope ["bench", "word", "plant", "size"] ["bench", "word", "plant", "size"] (defScope s_put) := ⟨rfl, rfl, rfl, by decide +kernel, rfl, by decide +kernel, by decide +kernel⟩
/-- a film comes to lie on the law's desk, or lies there -/
def spPut : Sp := fun vs H Q _ => ∃ (B b0 b1 b2 b3 : Addr) (xs : List Str) (zs : List Int) (x : Str) (y : V) (z : Int), vs = [.ref B, .str x, y, .int z] ∧ BS H B b0 b1 b2 b3 xs zs ∧ xs.length ≤ 1000 ∧
  ∀ H', But [b0, b1, b2] H H' → BS H' B b0 b1 b2 b3 (addX xs x) (addZ xs zs x z) → Q (.int ((addX xs x).idxOf x : Nat)) H'
theorem ok_put {f : Addr} {fd : FuncData} (F : Fun K "_law_fm_put" "_law_fm_put" s_put f fd) (T : Txt K mg a) : FnOk P w K mg base CX0 1 f fd ["bench", "word", "plant", "size"] spPut := by
  refine F.ok sc_put (fun vs H Q E h => by obtain ⟨B, b0, b1, b2, b3, xs, zs, x, y, z, rfl, _⟩ := h; rfl) (fun cdv A outer s H vs Q E hr h => ?_)
  refine ⟨_, (pss_cons (ps_if (pt_cmpR op_notIn_seq (pv 1) (pe_ix ix_list (pv 0) pe_int (fun _ _ => rfl)) rfl) (pss_cons (ps_expr (pe_bm PySem.F.plainAttrs_list PySem.F.slot_list_append PySem.F.type_list_append mt_append (pe_ix ix_list (pv 0) pe_int (fun _ _ => rfl)) (pa_cons (pv 1) pa_nil)))
      (pss_cons (ps_expr (pe_bm PySem.F.plainAttrs_list PySem.F.slot_list_append PySem.F.type_list_append mt_append (pe_ix ix_list (pv 0) pe_int (fun _ _ => rfl)) (pa_cons (pv 2) pa_nil)))
      (pss_one (ps_expr (pe_bm PySem.F.plainAttrs_list PySem.F.slot_list_append PySem.F.type_list_append mt_append (pe_ix ix_list (pv 0) pe_int (fun _ _ => rfl)) (pa_cons (pv 3) pa_nil)))))) pss_nil)
      (pss_one (ps_ret (pe_bm PySem.F.plainAttrs_list PySem.F.slot_list_index PySem.F.type_list_index mt_index (pe_ix ix_list (pv 0) pe_int (fun _ _ => rfl)) (pa_cons (pv 1) pa_nil))))), ?_⟩
  obtain ⟨B, b0, b1, b2, b3, xs, zs, x, y, z, rfl, d, l, k⟩ := h
  refine ⟨_, rfl, _, rfl, B, _, 0, _, rfl, rfl, SqL.of d.hB, atI_nat (j := 0) rfl, b0, _, rfl, .inl (SqL.of d.h0), rfl, flat_strs xs, _, rfl, ?_⟩
  rw [if_pos rfl, in_strs]
  have has := addX_has xs x
  have fin : ∀ H', But [b0, b1, b2] H H' → BS H' B b0 b1 b2 b3 (addX xs x) (addZ xs zs x z) → tRet (tBM K "list" (rIndex K) (tOp (rIxL K) (tVar 0) (tC (.int 0))) (tCons (tVar 1) tNil)) { nx := fun _ H' => Q .non H', rt := Q } [some (.ref B), some (.str x), some y, some (.int z)] H' := fun H' bu d' =>
    ⟨_, rfl, B, _, 0, _, rfl, rfl, SqL.of d'.hB, atI_nat (j := 0) rfl, .inl ⟨rfl, _, SqL.of d'.h0⟩, _, rfl, b0, _, .str x, _, .str x, rfl, rfl, SqL.of d'.h0, rfl, flat_strs _, (ixS has).1, (ixS has).2.1, (ixS has).2.2, k H' bu d'⟩
  by_cases m : x ∈ xs
  · rw [decide_eq_true m]
    refine iteF ?_
    exact fin H (But.refl _ _) (by rw [addX_in m, addZ_in m]; exact d)
  · rw [decide_eq_false m]
    refine iteT ?_
    obtain ⟨ts, et, lt⟩ := d.h1
    refine ⟨_, rfl, B, _, 0, _, rfl, rfl, SqL.of d.hB, atI_nat (j := 0) rfl, .inl ⟨rfl, _, SqL.of d.h0⟩, _, rfl, b0, _, _, rfl, rfl, d.h0, by rw [List.length_map]; exact small_lt (by omega), ?_⟩
    have B1 : upd H b0 (.lst (xs.map V.str ++ [.str x])) B = _ := (upd_ne d.nB0).trans d.hB
    have e0 := upd_same (H := H) (a := b0) (o := .lst (xs.map V.str ++ [.str x]))
    have e1 : upd H b0 (.lst (xs.map V.str ++ [.str x])) b1 = _ := (upd_ne d.n01.symm).trans et
    have e2 : upd H b0 (.lst (xs.map V.str ++ [.str x])) b2 = _ := (upd_ne d.n02.symm).trans d.h2
    have bu : But [b0, b1, b2] H (upd H b0 (.lst (xs.map V.str ++ [.str x]))) := (But.refl _ _).mut (by simp)
    generalize upd H b0 _ = H1 at B1 e0 e1 e2 bu
    refine ⟨_, rfl, B, _, 1, _, rfl, rfl, SqL.of B1, atI_nat (j := 1) rfl, .inl ⟨rfl, _, SqL.of e1⟩, _, rfl, b1, _, _, rfl, rfl, e1, by rw [lt]; exact small_lt (by omega), ?_⟩
    have B2 : upd H1 b1 (.lst (ts ++ [y])) B = _ := (upd_ne d.nB1).trans B1
    have f0 : upd H1 b1 (.lst (ts ++ [y])) b0 = _ := (upd_ne d.n01).trans e0
    have f1 := upd_same (H := H1) (a := b1) (o := .lst (ts ++ [y]))
    have f2 : upd H1 b1 (.lst (ts ++ [y])) b2 = _ := (upd_ne d.n12.symm).trans e2
    have bu : But [b0, b1, b2] H (upd H1 b1 (.lst (ts ++ [y]))) := bu.mut (by simp)
    generalize upd H1 b1 _ = H2 at B2 f0 f1 f2 bu
    refine ⟨_, rfl, B, _, 2, _, rfl, rfl, SqL.of B2, atI_nat (j := 2) rfl, .inl ⟨rfl, _, SqL.of f2⟩, _, rfl, b2, _, _, rfl, rfl, f2, by rw [List.length_map, d.lz]; exact small_lt (by omega), ?_⟩
    refine fin _ (bu.mut (by simp)) ?_
    rw [addX_new m, addZ_new m]
    refine ⟨(upd_ne d.nB2).trans B2, ?_, ⟨ts ++ [y], (upd_ne d.n12).trans f1, by rw [List.length_append, List.length_append, lt]; rfl⟩, ?_, by rw [List.length_append, List.length_append, d.lz]; rfl, d.n01, d.n02, d.n12, d.nB0, d.nB1, d.nB2⟩
    · rw [List.map_append]; exact (upd_ne d.n02).trans f0
    · rw [List.map_append]; exact upd_same
abbrev s_bench : Stmt := top 38
theorem sc_bench : FnScope ["plan", "bench", "spot", "word"] ["plan"] (defScope s_bench) := ⟨rfl, rfl, rfl, by decide +kernel, rfl, by decide +kernel, by decide +kernel⟩
/-- a new desk of a plan's strips -/
def spBench (K : PySem.W.Frag) : Sp := fun vs H Q _ => ∃ (p r g : Addr) (ws : List Str) (js : Js), vs = [.ref p] ∧ PlAt K H p r g ws js ∧ ws.length ≤ 900 ∧
  ∀ H' B b0 b1 b2 b3 zs, H B = none → H b0 = none → H b1 = none → H b2 = none → H b3 = none → b3 ≠ b0 → b3 ≠ b1 → b3 ≠ b2 → b3 ≠ B → Same H H' → BS H' B b0 b1 b2 b3 (addAll [] ws) zs → (∀ z ∈ zs, z = 0) → H' b3 = some (.lst []) → Q (.ref B) H'
theorem ok_bench {f : Addr} {fd fd1 : FuncData} (F : Fun K "_law_fm_bench" "_law_fm_bench" s_bench f fd) (T : Txt K mg a) (c_put : Cal P w K mg base 1 a.put fd1 ["bench", "word", "plant", "size"] spPut) : FnOk P w K mg base CX0 2 f fd ["plan"] (spBench K) := by
  refine F.ok sc_bench (fun vs H Q E h => by obtain ⟨p, r, g, ws, js, rfl, _⟩ := h; rfl) (fun cdv A outer s H vs Q E hr h => ?_)
  have hr_put := hr
  refine ⟨_, (pss_cons (ps_set (i := 1) sc_bench.nd rfl (Or.inl rfl) (pe_lst (pa_cons (pe_lst pa_nil) (pa_cons (pe_lst pa_nil) (pa_cons (pe_lst pa_nil) (pa_cons (pe_lst pa_nil) pa_nil))))))
      (pss_cons (ps_for PassesOwn.never rfl (pi_enum rfl T.b_enumerate (pa_cons (pe_ix ix_tup (pv 0) pe_int (fun _ _ => rfl)) pa_nil)) (pg_tup rfl (pgs_cons (pg_name (i := 2) sc_bench.nd rfl (Or.inl rfl)) (pgs_cons (pg_name (i := 3) sc_bench.nd rfl (Or.inl rfl)) pgs_nil)))
      (pss_one (ps_expr (pe_call c_put.ok hr_put rfl T.g_put T.k_put c_put.binds .nil pass0 (pa_cons (pv 1) (pa_cons (pv 3) (pa_cons (pe_tup (pa_cons pe_str (pa_cons (pv 2) pa_nil))) (pa_cons pe_int pa_nil))))))))
      (pss_one (ps_ret (pv 1))))), ?_⟩
  obtain ⟨p, r, g, ws, js, rfl, pl, lw, k⟩ := h
  refine ⟨small_line (by decide), fun b0 h0 => ?_⟩
  refine ⟨small_line (by decide), fun b1 h1 => ?_⟩
  refine ⟨small_line (by decide), fun b2 h2 => ?_⟩
  refine ⟨small_line (by decide), fun b3 h3 => ?_⟩
  refine ⟨small_line (by show 4 ≤ 100000; decide), fun B hB => ?_⟩
  have s0 : Same H (upd H b0 (.lst [])) := same_new (Same.refl _) h0
  have s1 := same_new (u := .lst []) s0 h1
  have s2 := same_new (u := .lst []) s1 h2
  have s3 := same_new (u := .lst []) s2 h3
  have s4 := same_new (u := .lst [.ref b0, .ref b1, .ref b2, .ref b3]) s3 hB
  have e0 := upd_old (u := .lst [.ref b0, .ref b1, .ref b2, .ref b3]) (upd_old (u := .lst []) (upd_old (u := .lst []) (upd_old (u := .lst []) (upd_same (H := H) (a := b0) (o := .lst [])) h1) h2) h3) hB
  have e1 := upd_old (u := .lst [.ref b0, .ref b1, .ref b2, .ref b3]) (upd_old (u := .lst []) (upd_old (u := .lst []) (upd_same (H := upd H b0 (.lst [])) (a := b1) (o := .lst [])) h2) h3) hB
  have e2 := upd_old (u := .lst [.ref b0, .ref b1, .ref b2, .ref b3]) (upd_old (u := .lst []) (upd_same (H := upd (upd H b0 (.lst [])) b1 (.lst [])) (a := b2) (o := .lst [])) h3) hB
  have eB := upd_same (H := upd (upd (upd (upd H b0 (.lst [])) b1 (.lst [])) b2 (.lst [])) b3 (.lst [])) (a := B) (o := .lst [.ref b0, .ref b1, .ref b2, .ref b3])
  have n01 := (ne_of_none (upd_same (H := H) (a := b0) (o := .lst [])) h1)
  have n02 := (ne_of_none (upd_old (u := .lst []) (upd_same (H := H) (a := b0) (o := .lst [])) h1) h2)
  have n12 := (ne_of_none (upd_same (H := upd H b0 (.lst [])) (a := b1) (o := .lst [])) h2)
  have z0 := same_none (same_new (u := .lst []) (same_new (u := .lst []) (same_new (u := .lst []) (Same.refl (upd H b0 (.lst []))) h1) h2) h3) hB
  have nB0 : B ≠ b0 := fun z => by rw [z, upd_same] at z0; cases z0
  have z1 := same_none (same_new (u := .lst []) (same_new (u := .lst []) (Same.refl (upd (upd H b0 (.lst [])) b1 (.lst []))) h2) h3) hB
  have nB1 : B ≠ b1 := fun z => by rw [z, upd_same] at z1; cases z1
  have z2 := same_none (same_new (u := .lst []) (Same.refl (upd (upd (upd H b0 (.lst [])) b1 (.lst [])) b2 (.lst []))) h3) hB
  have nB2 : B ≠ b2 := fun z => by rw [z, upd_same] at z2; cases z2
  have fB := same_none s3 hB
  have f3 := same_none s2 h3
  have e3 := upd_old (u := .lst [.ref b0, .ref b1, .ref b2, .ref b3]) (upd_same (H := upd (upd (upd H b0 (.lst [])) b1 (.lst [])) b2 (.lst [])) (a := b3) (o := .lst [])) hB
  have n3B : b3 ≠ B := ne_of_none (upd_same (H := upd (upd (upd H b0 (.lst [])) b1 (.lst [])) b2 (.lst [])) (a := b3) (o := .lst [])) hB
  have n30 : b3 ≠ b0 := (ne_of_none (upd_old (u := .lst []) (upd_old (u := .lst []) (upd_same (H := H) (a := b0) (o := .lst [])) h1) h2) h3).symm
  have n31 : b3 ≠ b1 := (ne_of_none (upd_old (u := .lst []) (upd_same (H := upd H b0 (.lst [])) (a := b1) (o := .lst [])) h2) h3).symm
  have n32 : b3 ≠ b2 := (ne_of_none (upd_same (H := upd (upd H b0 (.lst [])) b1 (.lst [])) (a := b2) (o := .lst [])) h3).symm
  have f1 := same_none s0 h1
  have f2 := same_none s1 h2
  have d0 : BS (upd (upd (upd (upd (upd H b0 (.lst [])) b1 (.lst [])) b2 (.lst [])) b3 (.lst [])) B (.lst [.ref b0, .ref b1, .ref b2, .ref b3])) B b0 b1 b2 b3 (addAll [] (ws.take 0)) [] := ⟨eB, e0, ⟨[], e1, rfl⟩, e2, rfl, n01, n02, n12, nB0, nB1, nB2⟩
  generalize upd _ B _ = H5 at s4 d0 e3
  refine ⟨_, rfl, p, _, 0, _, rfl, rfl, (pl.mono s4).p, atI_nat (j := 0) rfl, r, _, rfl, .inl (pl.mono s4).r, ?_⟩
  have nr : ∀ q ∈ [b0, b1, b2], r ≠ q := by
    intro q hq z
    subst z
    have er := pl.r
    simp at hq
    rcases hq with rfl | rfl | rfl
    · exact rd_no er h0
    · exact rd_no er f1
    · exact rd_no er f2
  refine for_it (walk_enum (xs := ws.map V.str)) (fun i σ H' => ∃ x2 x3 zs, σ = [some (.ref p), some (.ref B), x2, x3] ∧ But [b0, b1, b2] H5 H' ∧ BS H' B b0 b1 b2 b3 (addAll [] (ws.take i)) zs ∧ ∀ z ∈ zs, z = 0) ⟨_, _, _, rfl, But.refl _ _, d0, nofun⟩ (fun i σ H' _ z => ?_) ?_ ?_
  · obtain ⟨_, _, _, _, bu, _⟩ := z
    exact .inl (bu.rd (pl.mono s4).r (fun z => nr r z rfl))
  · rintro i v σ H7 H8 hi ⟨x2, x3, zs, rfl, bu, d7, hz⟩ ⟨T0, x, y, rfl, hT, rfl, ex, ey⟩
    cases ex
    obtain ⟨y, ew, rfl⟩ := map_at ey
    refine ⟨T0, _, rfl, SqT.of upd_same, rfl, ?_⟩
    have d8 := d7.same (same_new (u := .tup [.int (i : Nat), .str y]) (Same.refl _) hT)
    have bu8 : But [b0, b1, b2] H5 (upd H7 T0 (.tup [.int (i : Nat), .str y])) := bu.new hT
    generalize upd H7 T0 _ = H8 at d8 bu8
    refine ⟨_, _, rfl, _, _, rfl, rfl, ?_⟩
    refine ⟨_, rfl, _, rfl, _, rfl, small_line (by show 2 ≤ 100000; decide), fun q hq => ?_⟩
    have le : (addAll [] (ws.take i)).length ≤ 1000 := Nat.le_trans (addAll_len _ _) (by rw [List.length_take]; show 0 + _ ≤ _; omega)
    refine ⟨B, b0, b1, b2, b3, _, zs, y, _, 0, rfl, d8.same (same_new (Same.refl _) hq), le, fun H' bu' dd => ?_⟩
    rw [addX_take ws i y ew] at dd
    refine ⟨_, _, _, rfl, fun b o nb e => bu' b o nb (upd_old (bu8 b o nb e) hq), dd, fun z hz' => ?_⟩
    rcases addZ_mem hz' with z' | z'
    · exact hz z z'
    · exact z'
  · rintro σ H' ⟨x2, x3, zs, rfl, bu, dd, hz⟩
    rw [List.length_map, List.take_length] at dd
    refine ⟨_, rfl, k H' B b0 b1 b2 b3 zs fB h0 f1 f2 f3 n30 n31 n32 n3B (fun b o e => bu b o (fun z => ?_) (s4 b o e)) dd hz (bu b3 _ (fun z => by simp at z; rcases z with z | z | z; exact n30 z; exact n31 z; exact n32 z) e3)⟩
    simp at z
    rcases z with rfl | rfl | rfl
    · rw [h0] at e; cases e
    · rw [f1] at e; cases e
    · rw [f2] at e; cases e
def nmF (k : Nat) : Str := if k = 5 then "UnknownRule" else if k = 4 then "UnknownStrip" else "NoSplice"
/-- a fault of a call as a law tells it -/
def faV : Option Ft → List V
  | some (.num k z) => [.str (nmF k), .int z]
  | _ => []
abbrev s_call_fault : Stmt := top 40
theorem sc_call_fault : FnScope ["plan", "bench", "deed", "spot", "one", "gap", "two", "slot", "seat", "join"] ["plan", "bench", "deed"] (defScope s_call_fault) := ⟨rfl, rfl, rfl, by decide +kernel, rfl, by decide +kernel, by decide +kernel⟩
def spCF (K : PySem.W.Frag) : Sp := fun vs H Q _ => ∃ (N : Nat) (p r g B b0 b1 b2 b3 d : Addr) (ws : List Str) (js : Js) (xs : List Str) (zs : List Int) (i l u o q : Int), vs = [.ref p, .ref B, .ref d] ∧ PlAt K H p r g ws js ∧ Rt N ws js ∧ N ≤ 1000 ∧ BS H B b0 b1 b2 b3 xs zs ∧ xs.length ≤ 1000 ∧ (∀ x ∈ xs, Tx 2000 x) ∧ SqT K H d [.int i, .int l, .int u, .int o, .int q] ∧
  ∀ e H', H e = none → Same H H' → H' e = some (.lst (faV (callFt js xs i l u o q))) → Q (.ref e) H'
theorem ok_call_fault {f : Addr} {fd fd1 : FuncData} (F : Fun K "_law_fm_call_fault" "_law_fm_call_fault" s_call_fault f fd) (T : Txt K mg a) (c_sites : Cal P w K mg base 1 a.sites fd1 ["left", "right", "word"] spSites) : FnOk P w K mg base CX0 2 f fd ["plan", "bench", "deed"] (spCF K) := by
  refine F.ok sc_call_fault (fun vs H Q E h => by obtain ⟨N, p, r, g, B, b0, b1, b2, b3, d, ws, js, xs, zs, i, l, u, o, q, rfl, _⟩ := h; rfl) (fun cdv A outer s H vs Q E hr h => ?_)
  have hr_sites := hr
  refine ⟨_, (pss_cons (ps_asg (pv 2) (pg_tup rfl (pgs_cons (pg_name (i := 3) sc_call_fault.nd rfl (Or.inl rfl)) (pgs_cons (pg_name (i := 4) sc_call_fault.nd rfl (Or.inl rfl)) (pgs_cons (pg_name (i := 5) sc_call_fault.nd rfl (Or.inl rfl)) (pgs_cons (pg_name (i := 6) sc_call_fault.nd rfl (Or.inl rfl)) (pgs_cons (pg_name (i := 7) sc_call_fault.nd rfl (Or.inl rfl)) pgs_nil)))))))
      (pss_cons (ps_if (pt_not (pt_chain op_le op_lt pe_int (pv 3) (pe_callB call_len_seq (by rfl) T.b_len PySem.boot_len (pa_cons (pe_ix ix_tup (pv 0) pe_int (fun _ _ => rfl)) pa_nil)))) (pss_one (ps_ret (pe_lst (pa_cons pe_str (pa_cons (pv 3) pa_nil))))) pss_nil)
      (pss_cons (ps_for PassesOwn.never rfl (pi_tup (pe_tup (pa_cons (pv 4) (pa_cons (pv 6) pa_nil)))) (pg_name (i := 8) sc_call_fault.nd rfl (Or.inl rfl))
      (pss_one (ps_if (pt_not (pt_chain op_le op_lt pe_int (pv 8) (pe_callB call_len_seq (by rfl) T.b_len PySem.boot_len (pa_cons (pe_ix ix_list (pv 1) pe_int (fun _ _ => rfl)) pa_nil)))) (pss_one (ps_ret (pe_lst (pa_cons pe_str (pa_cons (pv 8) pa_nil))))) pss_nil)))
      (pss_cons (ps_set (i := 9) sc_call_fault.nd rfl (Or.inl rfl) (pe_ix ix_list (pe_ix ix_tup (pv 0) pe_int (fun _ _ => rfl)) (pv 3) (fun _ _ => rfl)))
      (pss_cons (ps_if (pt_cmpR op_notIn_seq (pv 5) (pe_call c_sites.ok hr_sites rfl T.g_sites T.k_sites c_sites.binds .nil pass0 (pa_cons (pe_ix ix_tup (pv 9) pe_int (fun _ _ => rfl)) (pa_cons (pe_ix ix_tup (pv 9) pe_int (fun _ _ => rfl)) (pa_cons (pe_ix ix_list (pe_ix ix_list (pv 1) pe_int (fun _ _ => rfl)) (pv 4) (fun _ _ => rfl)) pa_nil)))) rfl) (pss_one (ps_ret (pe_lst (pa_cons pe_str (pa_cons (pv 5) pa_nil))))) pss_nil)
      (pss_cons (ps_if (pt_cmpR op_notIn_seq (pv 7) (pe_call c_sites.ok hr_sites rfl T.g_sites T.k_sites c_sites.binds .nil pass0 (pa_cons (pe_ix ix_tup (pv 9) pe_int (fun _ _ => rfl)) (pa_cons (pe_ix ix_tup (pv 9) pe_int (fun _ _ => rfl)) (pa_cons (pe_ix ix_list (pe_ix ix_list (pv 1) pe_int (fun _ _ => rfl)) (pv 6) (fun _ _ => rfl)) pa_nil)))) rfl) (pss_one (ps_ret (pe_lst (pa_cons pe_str (pa_cons (pv 7) pa_nil))))) pss_nil)
      (pss_one (ps_ret (pe_lst pa_nil))))))))), ?_⟩
  obtain ⟨N, p, r, g, B, b0, b1, b2, b3, d, ws, js, xs, zs, i, l, u, o, q, rfl, pl, rt, hN, bs, lx, hx, hd, k⟩ := h
  have jn := rt.jn
  have lg : (refs js).length = js.length := List.length_map ..
  have lX : (xs.map V.str).length = xs.length := List.length_map ..
  unfold callFt at k
  refine ⟨_, rfl, d, _, rfl, hd, rfl, _, _, rfl, _, _, rfl, _, _, rfl, _, _, rfl, _, _, rfl, rfl, ?_⟩
  refine ⟨_, rfl, _, _, rfl, rfl, _, rfl, ?_⟩
  refine ite2 (fun c1 => ?_) (fun c1 => ?_)
  rotate_left
  · have z : ¬ (0 ≤ i ∧ i < js.length) := fun z => c1 (decide_eq_true z.1)
    rw [if_pos z] at k
    exact ⟨_, rfl, _, rfl, small_line (by show 2 ≤ 100000; decide), fun e he => k e _ he (same_new (Same.refl _) he) upd_same⟩
  have i0 : 0 ≤ i := of_decide_eq_true c1
  refine ⟨_, rfl, p, _, 1, _, rfl, rfl, pl.p, atI_nat (j := 1) rfl, g, _, rfl, .inl (.inl pl.g), _, _, rfl, rfl, _, rfl, ?_⟩
  rw [lg]
  refine ite2 (fun c2 => ?_) (fun c2 => ?_)
  · have z : ¬ (0 ≤ i ∧ i < js.length) := fun z => of_decide_eq_false (bn_t c2) z.2
    rw [if_pos z] at k
    exact ⟨_, rfl, small_line (by show 2 ≤ 100000; decide), fun e he => k e _ he (same_new (Same.refl _) he) upd_same⟩
  have i1 : i < js.length := of_decide_eq_true (bn_f c2)
  rw [if_neg (not_not_intro ⟨i0, i1⟩)] at k
  refine ⟨_, rfl, _, rfl, small_line (by show 2 ≤ 100000; decide), fun t ht => ?_⟩
  have s1 : Same H (upd H t (.tup [.int l, .int o])) := same_new (Same.refl _) ht
  have et := upd_same (H := H) (a := t) (o := .tup [.int l, .int o])
  generalize upd H t _ = H1 at s1 et
  have bs1 := bs.same s1
  have pl1 := pl.mono s1
  refine ⟨t, rfl, ⟨_, SqT.of et⟩, for_tup (xs := [.int l, .int o]) (fun n σ H' => ∃ x8, σ = [some (.ref p), some (.ref B), some (.ref d), some (.int i), some (.int l), some (.int u), some (.int o), some (.int q), x8, none] ∧ H' = H1 ∧ (1 ≤ n → 0 ≤ l ∧ l < xs.length) ∧ (2 ≤ n → 0 ≤ o ∧ o < xs.length))
    ⟨_, rfl, rfl, fun z => absurd z (by decide), fun z => absurd z (by decide)⟩ (fun n σ H' _ z => by obtain ⟨_, _, rfl, _⟩ := z; exact SqT.of et) ?_ ?_⟩
  · rintro n v σ H' hv ⟨x8, rfl, rfl, p1, p2⟩
    obtain ⟨z, rfl, hz⟩ : ∃ z, v = .int z ∧ ((n = 0 ∧ z = l) ∨ (n = 1 ∧ z = o)) := by
      match n, hv with
      | 0, hv => exact ⟨l, (Option.some.inj hv).symm, .inl ⟨rfl, rfl⟩⟩
      | 1, hv => exact ⟨o, (Option.some.inj hv).symm, .inr ⟨rfl, rfl⟩⟩
      | m + 2, hv => cases hv
    have bad : ¬ (0 ≤ z ∧ z < xs.length) → ∀ e, H' e = none → Q (.ref e) (upd H' e (.lst [.str "UnknownStrip", .int z])) := fun nz e he => by
      refine k e _ (same_none s1 he) (s1.trans (same_new (Same.refl _) he)) ?_
      rcases hz with ⟨rfl, rfl⟩ | ⟨rfl, rfl⟩
      · rw [if_pos nz]; exact upd_same
      · rw [if_neg (not_not_intro (p1 (Nat.le_refl _))), if_pos nz]; exact upd_same
    refine ⟨_, rfl, _, _, rfl, rfl, _, rfl, ?_⟩
    refine ite2 (fun c3 => ?_) (fun c3 => ?_)
    rotate_left
    · exact ⟨_, rfl, _, rfl, small_line (by show 2 ≤ 100000; decide), fun e he => bad (fun z => c3 (decide_eq_true z.1)) e he⟩
    refine ⟨_, rfl, B, _, 0, _, rfl, rfl, SqL.of bs1.hB, atI_nat (j := 0) rfl, b0, _, rfl, .inl (SqL.of bs1.h0), _, _, rfl, rfl, _, rfl, ?_⟩
    rw [lX]
    refine ite2 (fun c4 => ?_) (fun c4 => ?_)
    · exact ⟨_, rfl, small_line (by show 2 ≤ 100000; decide), fun e he => bad (fun z => of_decide_eq_false (bn_t c4) z.2) e he⟩
    have ok : 0 ≤ z ∧ z < xs.length := ⟨of_decide_eq_true c3, of_decide_eq_true (bn_f c4)⟩
    refine ⟨_, rfl, rfl, fun m => ?_, fun m => ?_⟩
    · rcases hz with ⟨rfl, rfl⟩ | ⟨rfl, rfl⟩
      · exact ok
      · exact p1 (Nat.le_refl _)
    · rcases hz with ⟨rfl, rfl⟩ | ⟨rfl, rfl⟩
      · exact absurd m (by decide)
      · exact ok
  · rintro σ H' ⟨x8, rfl, rfl, p1, p2⟩
    have lb := p1 (Nat.le_succ 1)
    have ob := p2 (Nat.le_refl 2)
    rw [if_neg (not_not_intro lb), if_neg (not_not_intro ob)] at k
    obtain ⟨ni, rfl⟩ := Int.eq_ofNat_of_zero_le i0
    obtain ⟨nl, rfl⟩ := Int.eq_ofNat_of_zero_le lb.1
    obtain ⟨no, rfl⟩ := Int.eq_ofNat_of_zero_le ob.1
    have li : ni < js.length := by exact_mod_cast i1
    have ll : nl < xs.length := by exact_mod_cast lb.2
    have lo : no < xs.length := by exact_mod_cast ob.2
    simp only [Int.toNat_natCast] at k
    have ei : js[ni]? = some js[ni] := List.getElem?_eq_getElem li
    have el : xs[nl]? = some xs[nl] := List.getElem?_eq_getElem ll
    have eo : xs[no]? = some xs[no] := List.getElem?_eq_getElem lo
    have gl : xs.getD nl "" = xs[nl] := by rw [List.getD_eq_getElem?_getD, el]; rfl
    have go : xs.getD no "" = xs[no] := by rw [List.getD_eq_getElem?_getD, eo]; rfl
    have mj : js[ni] ∈ js := List.getElem_mem li
    have hx1 := hx _ (List.getElem_mem ll)
    have hx2 := hx _ (List.getElem_mem lo)
    rw [gl, go, ei] at k
    have sq := pl1.j _ mj
    have jj := rt.jd _ mj
    generalize xs[nl] = x at el k hx1
    generalize xs[no] = y at eo k hx2
    have eji : (refs js)[ni]? = some (.ref js[ni].1) := by unfold refs; rw [List.getElem?_map, ei]; rfl
    generalize js[ni] = j at k sq jj eji
    obtain ⟨ja, jx⟩ := j
    obtain ⟨j4, jw, j0, j3⟩ := jj
    match jx, j4, jw, j0, j3 with
    | [y0, y1, y2, y3], _, jw, j0, j3 =>
    have exl : (xs.map V.str)[nl]? = some (.str x) := by rw [List.getElem?_map, el]; rfl
    have exo : (xs.map V.str)[no]? = some (.str y) := by rw [List.getElem?_map, eo]; rfl
    have w0 := (jw y0 (by simp)).tx.mono (show 10 ≤ 2000 by decide)
    have w1 := (jw y1 (by simp)).tx.mono (show 10 ≤ 2000 by decide)
    have w2 := (jw y2 (by simp)).tx.mono (show 10 ≤ 2000 by decide)
    have w3 := (jw y3 (by simp)).tx.mono (show 10 ≤ 2000 by decide)
    have n01 : 1 ≤ (y0 ++ y1).length := by rw [Str.length_append]; have : 1 ≤ y0.length := j0; omega
    have n23 : 1 ≤ (y2 ++ y3).length := by rw [Str.length_append]; have : 1 ≤ y3.length := j3; omega
    refine ⟨_, rfl, p, _, 1, _, rfl, rfl, pl1.p, atI_nat (j := 1) rfl, _, rfl, g, _, (ni : Int), .ref ja, rfl, rfl, SqL.of pl1.g0, atI_nat eji, ?_⟩
    have x5 := hx1.mono (show 2000 ≤ 5000 by decide)
    have y5 := hx2.mono (show 2000 ≤ 5000 by decide)
    refine ⟨_, rfl, _, rfl, ja, _, 0, _, rfl, rfl, sq, atI_nat (j := 0) rfl, _, rfl, ja, _, 1, _, rfl, rfl, sq, atI_nat (j := 1) rfl, _, rfl, B, _, 0, _, rfl, rfl, SqL.of bs1.hB, atI_nat (j := 0) rfl, _, rfl, b0, _, (nl : Int), .str x, rfl, rfl, SqL.of bs1.h0, atI_nat exl,
      y0, y1, x, rfl, w0, w1, x5, n01, fun e H2 he s2 e2 => ?_⟩
    refine ⟨e, _, rfl, .inl (SqL.of e2), rfl, nats_flat _, _, rfl, ?_⟩
    rw [if_pos rfl, seats_mem]
    have s12 := s1.trans s2
    refine ite2 (fun c5 => ?_) (fun c5 => ?_)
    · have z : cutFt (stZ y0 y1 x u) u = some (.num 6 u) := by rw [bn_t c5]; rfl
      refine ⟨_, rfl, small_line (by show 2 ≤ 100000; decide), fun e he => k e _ (same_none s12 he) (s12.trans (same_new (Same.refl _) he)) ?_⟩
      show _ = some (HO.lst (faV (orFt (cutFt (stZ y0 y1 x u) u) _)))
      rw [z]
      exact upd_same
    have z1 : cutFt (stZ y0 y1 x u) u = none := by rw [bn_f c5]; rfl
    have bs2 := bs1.same s2
    have sq2 := sameT s2 sq
    refine ⟨_, rfl, _, rfl, ja, _, 2, _, rfl, rfl, sq2, atI_nat (j := 2) rfl, _, rfl, ja, _, 3, _, rfl, rfl, sq2, atI_nat (j := 3) rfl, _, rfl, B, _, 0, _, rfl, rfl, SqL.of bs2.hB, atI_nat (j := 0) rfl, _, rfl, b0, _, (no : Int), .str y, rfl, rfl, SqL.of bs2.h0, atI_nat exo,
      y2, y3, y, rfl, w2, w3, y5, n23, fun e H3 he s3 e3 => ?_⟩
    refine ⟨e, _, rfl, .inl (SqL.of e3), rfl, nats_flat _, _, rfl, ?_⟩
    rw [if_pos rfl, seats_mem]
    have s13 := s12.trans s3
    refine ite2 (fun c6 => ?_) (fun c6 => ?_)
    · have z : cutFt (stZ y2 y3 y q) q = some (.num 6 q) := by rw [bn_t c6]; rfl
      refine ⟨_, rfl, small_line (by show 2 ≤ 100000; decide), fun e he => k e _ (same_none s13 he) (s13.trans (same_new (Same.refl _) he)) ?_⟩
      show _ = some (HO.lst (faV (orFt (cutFt (stZ y0 y1 x u) u) (cutFt (stZ y2 y3 y q) q))))
      rw [z1, z]
      exact upd_same
    have z2 : cutFt (stZ y2 y3 y q) q = none := by rw [bn_f c6]; rfl
    refine ⟨small_line (by decide), fun e he => k e _ (same_none s13 he) (s13.trans (same_new (Same.refl _) he)) ?_⟩
    show _ = some (HO.lst (faV (orFt (cutFt (stZ y0 y1 x u) u) (cutFt (stZ y2 y3 y q) q))))
    rw [z1, z2]
    exact upd_same
abbrev s_do_ : Stmt := top 41
theorem sc_do_ : FnScope ["bench", "deed", "spot", "one", "gap", "two", "slot", "plant", "word"] ["bench", "deed"] (defScope s_do_) := ⟨rfl, rfl, rfl, by decide +kernel, rfl, by decide +kernel, by decide +kernel⟩
/-- a call that is let, done on the law's desk -/
def spDo (K : PySem.W.Frag) : Sp := fun vs H Q _ => ∃ (B b0 b1 b2 b3 d : Addr) (xs : List Str) (zs : List Int) (i u q : Int) (l o : Nat), vs = [.ref B, .ref d] ∧ BS H B b0 b1 b2 b3 xs zs ∧ xs.length ≤ 1000 ∧ (∀ x ∈ xs, Tx 2000 x) ∧ SqT K H d [.int i, .int l, .int u, .int o, .int q] ∧ l < xs.length ∧ o < xs.length ∧
  ∀ H', But [b0, b1, b2] H H' → BS H' B b0 b1 b2 b3 (addX xs (splice (xs.getD l "") u (xs.getD o "") q)) (addZ xs zs (splice (xs.getD l "") u (xs.getD o "") q) (zs.getD l 0 + zs.getD o 0 + 1)) → Q (.int ((addX xs (splice (xs.getD l "") u (xs.getD o "") q)).idxOf (splice (xs.getD l "") u (xs.getD o "") q) : Nat)) H'
theorem ok_do {f : Addr} {fd fd1 : FuncData} (F : Fun K "_law_fm_do" "_law_fm_do" s_do_ f fd) (T : Txt K mg a) (c_put : Cal P w K mg base 1 a.put fd1 ["bench", "word", "plant", "size"] spPut) : FnOk P w K mg base CX0 2 f fd ["bench", "deed"] (spDo K) := by
  refine F.ok sc_do_ (fun vs H Q E h => by obtain ⟨B, b0, b1, b2, b3, d, xs, zs, i, u, q, l, o, rfl, _⟩ := h; rfl) (fun cdv A outer s H vs Q E hr h => ?_)
  have hr_put := hr
  refine ⟨_, (pss_cons (ps_asg (pv 1) (pg_tup rfl (pgs_cons (pg_name (i := 2) sc_do_.nd rfl (Or.inl rfl)) (pgs_cons (pg_name (i := 3) sc_do_.nd rfl (Or.inl rfl)) (pgs_cons (pg_name (i := 4) sc_do_.nd rfl (Or.inl rfl)) (pgs_cons (pg_name (i := 5) sc_do_.nd rfl (Or.inl rfl)) (pgs_cons (pg_name (i := 6) sc_do_.nd rfl (Or.inl rfl)) pgs_nil)))))))
      (pss_cons (ps_set (i := 7) sc_do_.nd rfl (Or.inl rfl) (pe_tup (pa_cons pe_str (pa_cons (pv 2) (pa_cons (pv 4) (pa_cons (pv 6) (pa_cons (pe_ix ix_list (pe_ix ix_list (pv 0) pe_int (fun _ _ => rfl)) (pv 3) (fun _ _ => rfl)) (pa_cons (pe_ix ix_list (pe_ix ix_list (pv 0) pe_int (fun _ _ => rfl)) (pv 5) (fun _ _ => rfl)) pa_nil))))))))
      (pss_cons (ps_set (i := 8) sc_do_.nd rfl (Or.inl rfl) (pe_op op_add_str (pe_slice sl_str (pe_ix ix_list (pe_ix ix_list (pv 0) pe_int (fun _ _ => rfl)) (pv 3) (fun _ _ => rfl)) po_none (po_some (pv 4))) (pe_slice sl_str (pe_ix ix_list (pe_ix ix_list (pv 0) pe_int (fun _ _ => rfl)) (pv 5) (fun _ _ => rfl)) (po_some (pv 6)) po_none)))
      (pss_one (ps_ret (pe_call c_put.ok hr_put rfl T.g_put T.k_put c_put.binds .nil pass0 (pa_cons (pv 0) (pa_cons (pv 8) (pa_cons (pv 7) (pa_cons (pe_op op_add (pe_op op_add (pe_ix ix_list (pe_ix ix_list (pv 0) pe_int (fun _ _ => rfl)) (pv 3) (fun _ _ => rfl)) (pe_ix ix_list (pe_ix ix_list (pv 0) pe_int (fun _ _ => rfl)) (pv 5) (fun _ _ => rfl))) pe_int) pa_nil)))))))))), ?_⟩
  obtain ⟨B, b0, b1, b2, b3, d, xs, zs, i, u, q, nl, no, rfl, bs, lx, hx, hd, ll, lo, k⟩ := h
  obtain ⟨ts, et, lt⟩ := bs.h1
  have lz := bs.lz
  have el : xs[nl]? = some xs[nl] := List.getElem?_eq_getElem ll
  have eo : xs[no]? = some xs[no] := List.getElem?_eq_getElem lo
  have gl : xs.getD nl "" = xs[nl] := by rw [List.getD_eq_getElem?_getD, el]; rfl
  have go : xs.getD no "" = xs[no] := by rw [List.getD_eq_getElem?_getD, eo]; rfl
  have zl : zs[nl]? = some (zs.getD nl 0) := by rw [List.getD_eq_getElem?_getD, List.getElem?_eq_getElem (show nl < zs.length by omega)]; rfl
  have zo : zs[no]? = some (zs.getD no 0) := by rw [List.getD_eq_getElem?_getD, List.getElem?_eq_getElem (show no < zs.length by omega)]; rfl
  have tl : ts[nl]? = some ts[nl] := List.getElem?_eq_getElem (by omega)
  have to : ts[no]? = some ts[no] := List.getElem?_eq_getElem (by omega)
  have hx1 := hx _ (List.getElem_mem ll)
  have hx2 := hx _ (List.getElem_mem lo)
  rw [gl, go] at k
  generalize xs[nl] = x at el k hx1
  generalize xs[no] = y at eo k hx2
  generalize zs.getD nl 0 = z1 at zl k
  generalize zs.getD no 0 = z2 at zo k
  generalize ts[nl] = t1 at tl
  generalize ts[no] = t2 at to
  have exl : (xs.map V.str)[nl]? = some (.str x) := by rw [List.getElem?_map, el]; rfl
  have exo : (xs.map V.str)[no]? = some (.str y) := by rw [List.getElem?_map, eo]; rfl
  have ezl : (zs.map V.int)[nl]? = some (.int z1) := by rw [List.getElem?_map, zl]; rfl
  have ezo : (zs.map V.int)[no]? = some (.int z2) := by rw [List.getElem?_map, zo]; rfl
  refine ⟨_, rfl, d, _, rfl, hd, rfl, _, _, rfl, _, _, rfl, _, _, rfl, _, _, rfl, _, _, rfl, rfl, ?_⟩
  refine ⟨_, rfl, _, rfl, _, rfl, _, rfl, B, _, 1, _, rfl, rfl, SqL.of bs.hB, atI_nat (j := 1) rfl, _, rfl, b1, _, (nl : Int), t1, rfl, rfl, SqL.of et, atI_nat tl,
    _, rfl, B, _, 1, _, rfl, rfl, SqL.of bs.hB, atI_nat (j := 1) rfl, _, rfl, b1, _, (no : Int), t2, rfl, rfl, SqL.of et, atI_nat to, small_line (by show 6 ≤ 100000; decide), fun t ht => ?_⟩
  have s1 := same_new (u := .tup [.str "splice", .int i, .int u, .int q, t1, t2]) (Same.refl H) ht
  generalize upd H t _ = H1 at s1
  have bs1 := bs.same s1
  have l1 := cutS_length x none (some u)
  have l2 := cutS_length y (some q) none
  have xl := hx1.len
  have yl := hx2.len
  refine ⟨_, rfl, B, _, 0, _, rfl, rfl, SqL.of bs1.hB, atI_nat (j := 0) rfl, _, rfl, b0, _, (nl : Int), .str x, rfl, rfl, SqL.of bs1.h0, atI_nat exl, _, rfl, _, rfl, x, rfl, hx1.line (by decide),
    _, rfl, B, _, 0, _, rfl, rfl, SqL.of bs1.hB, atI_nat (j := 0) rfl, _, rfl, b0, _, (no : Int), .str y, rfl, rfl, SqL.of bs1.h0, atI_nat exo, _, rfl, _, rfl, y, rfl, hx2.line (by decide), _, _, rfl, rfl, small_line (by omega), ?_⟩
  refine ⟨_, rfl, _, rfl, _, rfl, _, rfl, B, _, 2, _, rfl, rfl, SqL.of bs1.hB, atI_nat (j := 2) rfl, _, rfl, b2, _, (nl : Int), .int z1, rfl, rfl, SqL.of bs1.h2, atI_nat ezl,
    _, rfl, B, _, 2, _, rfl, rfl, SqL.of bs1.hB, atI_nat (j := 2) rfl, _, rfl, b2, _, (no : Int), .int z2, rfl, rfl, SqL.of bs1.h2, atI_nat ezo, _, _, rfl, rfl, _, _, rfl, rfl, ?_⟩
  exact ⟨B, b0, b1, b2, b3, xs, zs, splice x u y q, _, _, rfl, bs1, lx, fun H' bu d' => k H' (fun b o n e => bu b o n (s1 b o e)) d'⟩
abbrev s_fits : Stmt := top 43
theorem sc_fits : FnScope ["bench", "deed", "longest_here", "high", "spot", "one", "gap", "two", "slot", "size"] ["bench", "deed", "longest_here", "high"] (defScope s_fits) := ⟨rfl, rfl, rfl, by decide +kernel, rfl, by decide +kernel, by decide +kernel⟩
/-- whether what a call brings is not too great -/
def spFits (K : PySem.W.Frag) : Sp := fun vs H Q _ => ∃ (B b0 b1 b2 b3 d : Addr) (xs : List Str) (zs : List Int) (i u q h1 h2 : Int) (l o : Nat), vs = [.ref B, .ref d, .int h1, .int h2] ∧ BS H B b0 b1 b2 b3 xs zs ∧ (∀ x ∈ xs, Tx 2000 x) ∧ SqT K H d [.int i, .int l, .int u, .int o, .int q] ∧ l < xs.length ∧ o < xs.length ∧
  Q (.bl (decide (u + (xs.getD o "").length - q ≤ h1) && decide (zs.getD l 0 + zs.getD o 0 + 1 ≤ h2))) H
theorem ok_fits {f : Addr} {fd : FuncData} (F : Fun K "_law_fm_fits" "_law_fm_fits" s_fits f fd) (T : Txt K mg a) : FnOk P w K mg base CX0 1 f fd ["bench", "deed", "longest_here", "high"] (spFits K) := by
  refine F.ok sc_fits (fun vs H Q E h => by obtain ⟨B, b0, b1, b2, b3, d, xs, zs, i, u, q, h1, h2, l, o, rfl, _⟩ := h; rfl) (fun cdv A outer s H vs Q E hr h => ?_)
  refine ⟨_, (pss_cons (ps_asg (pv 1) (pg_tup rfl (pgs_cons (pg_name (i := 4) sc_fits.nd rfl (Or.inl rfl)) (pgs_cons (pg_name (i := 5) sc_fits.nd rfl (Or.inl rfl)) (pgs_cons (pg_name (i := 6) sc_fits.nd rfl (Or.inl rfl)) (pgs_cons (pg_name (i := 7) sc_fits.nd rfl (Or.inl rfl)) (pgs_cons (pg_name (i := 8) sc_fits.nd rfl (Or.inl rfl)) pgs_nil)))))))
      (pss_cons (ps_set (i := 9) sc_fits.nd rfl (Or.inl rfl) (pe_op op_add (pe_op op_add (pe_ix ix_list (pe_ix ix_list (pv 0) pe_int (fun _ _ => rfl)) (pv 5) (fun _ _ => rfl)) (pe_ix ix_list (pe_ix ix_list (pv 0) pe_int (fun _ _ => rfl)) (pv 7) (fun _ _ => rfl))) pe_int))
      (pss_one (ps_ret (pe_and (pe_cmpR op_le (pe_op op_sub (pe_op op_add (pv 6) (pe_callB call_len_str (by rfl) T.b_len PySem.boot_len (pa_cons (pe_ix ix_list (pe_ix ix_list (pv 0) pe_int (fun _ _ => rfl)) (pv 7) (fun _ _ => rfl)) pa_nil))) (pv 8)) (pv 2) (nomark _)) (pe_one (pe_cmpR op_le (pv 9) (pv 3) (nomark _)))))))), ?_⟩
  obtain ⟨B, b0, b1, b2, b3, d, xs, zs, i, u, q, h1, h2, nl, no, rfl, bs, hx, hd, ll, lo, k⟩ := h
  have lz := bs.lz
  have eo : xs[no]? = some (xs.getD no "") := by rw [List.getD_eq_getElem?_getD, List.getElem?_eq_getElem lo]; rfl
  have zl : zs[nl]? = some (zs.getD nl 0) := by rw [List.getD_eq_getElem?_getD, List.getElem?_eq_getElem (show nl < zs.length by omega)]; rfl
  have zo : zs[no]? = some (zs.getD no 0) := by rw [List.getD_eq_getElem?_getD, List.getElem?_eq_getElem (show no < zs.length by omega)]; rfl
  have hy := hx _ (List.mem_of_getElem? eo)
  generalize xs.getD no "" = y at eo k hy
  generalize zs.getD nl 0 = z1 at zl k
  generalize zs.getD no 0 = z2 at zo k
  have exo : (xs.map V.str)[no]? = some (.str y) := by rw [List.getElem?_map, eo]; rfl
  have ezl : (zs.map V.int)[nl]? = some (.int z1) := by rw [List.getElem?_map, zl]; rfl
  have ezo : (zs.map V.int)[no]? = some (.int z2) := by rw [List.getElem?_map, zo]; rfl
  refine ⟨_, rfl, d, _, rfl, hd, rfl, _, _, rfl, _, _, rfl, _, _, rfl, _, _, rfl, _, _, rfl, rfl, ?_⟩
  refine ⟨_, rfl, B, _, 2, _, rfl, rfl, SqL.of bs.hB, atI_nat (j := 2) rfl, _, rfl, b2, _, (nl : Int), .int z1, rfl, rfl, SqL.of bs.h2, atI_nat ezl,
    _, rfl, B, _, 2, _, rfl, rfl, SqL.of bs.hB, atI_nat (j := 2) rfl, _, rfl, b2, _, (no : Int), .int z2, rfl, rfl, SqL.of bs.h2, atI_nat ezo, _, _, rfl, rfl, _, _, rfl, rfl, ?_⟩
  refine ⟨_, rfl, _, rfl, B, _, 0, _, rfl, rfl, SqL.of bs.hB, atI_nat (j := 0) rfl, _, rfl, b0, _, (no : Int), .str y, rfl, rfl, SqL.of bs.h0, atI_nat exo, ?_⟩
  refine ⟨y, rfl, hy.line (by decide), _, _, rfl, rfl, _, rfl, _, _, rfl, rfl, _, rfl, _, _, rfl, rfl, ?_⟩
  refine ⟨_, rfl, ?_⟩
  refine ite2 (fun c => ?_) (fun c => ?_)
  · rw [c, Bool.true_and] at k
    exact ⟨_, rfl, _, rfl, _, _, rfl, rfl, k⟩
  · rw [b_f c, Bool.false_and] at k
    exact k
abbrev s_takes_back : Stmt := top 42
theorem sc_takes_back : FnScope ["bench", "mark", "turn"] ["bench"] (defScope s_takes_back) := ⟨rfl, rfl, rfl, by decide +kernel, rfl, by decide +kernel, by decide +kernel⟩
/-- the last call is taken back on the law's desk -/
def spTakes : Sp := fun vs H Q _ => ∃ (B b0 b1 b2 b3 : Addr) (xs : List Str) (zs : List Int) (l : List Int) (k : Nat), vs = [.ref B] ∧ BS H B b0 b1 b2 b3 xs zs ∧ H b3 = some (.lst ((l ++ [(k : Int)]).map V.int)) ∧ b3 ≠ b0 ∧ b3 ≠ b1 ∧ b3 ≠ b2 ∧ b3 ≠ B ∧ k ≤ xs.length ∧ xs.length ≤ 1000 ∧
  ∀ H', But [b0, b1, b2, b3] H H' → BS H' B b0 b1 b2 b3 (xs.take k) (zs.take k) → H' b3 = some (.lst (l.map V.int)) → Q (.int k) H'
theorem take_last {α : Type} (xs : List α) (i : Nat) (h : i < xs.length) : (xs.take (xs.length - i)).dropLast = xs.take (xs.length - (i + 1)) := by
  rw [List.dropLast_eq_take, List.length_take, List.take_take]
  congr 1
  omega
theorem take_end {α : Type} (xs : List α) (i : Nat) (h : i < xs.length) : ∃ y, (xs.take (xs.length - i))[(xs.take (xs.length - i)).length - 1]? = some y := by
  have : (xs.take (xs.length - i)).length - 1 < (xs.take (xs.length - i)).length := by
    rw [List.length_take]
    omega
  exact ⟨_, List.getElem?_eq_getElem this⟩
theorem ok_takes {f : Addr} {fd : FuncData} (F : Fun K "_law_fm_takes_back" "_law_fm_takes_back" s_takes_back f fd) (T : Txt K mg a) : FnOk P w K mg base CX0 1 f fd ["bench"] spTakes := by
  refine F.ok sc_takes_back (fun vs H Q E h => by obtain ⟨B, b0, b1, b2, b3, xs, zs, l, k, rfl, _⟩ := h; rfl) (fun cdv A outer s H vs Q E hr h => ?_)
  refine ⟨_, (pss_cons (ps_set (i := 1) sc_takes_back.nd rfl (Or.inl rfl) (pe_bm0 PySem.F.plainAttrs_list PySem.F.slot_list_pop PySem.F.type_list_pop mt_pop (pe_ix ix_list (pv 0) pe_int (fun _ _ => rfl))))
      (pss_cons (ps_for PassesOwn.never rfl (pi_range1 rfl T.b_range (pa_cons (pe_op op_sub (pe_callB call_len_seq (by rfl) T.b_len PySem.boot_len (pa_cons (pe_ix ix_list (pv 0) pe_int (fun _ _ => rfl)) pa_nil)) (pv 1)) pa_nil)) (pg_name (i := 2) sc_takes_back.nd rfl (Or.inl rfl))
      (pss_cons (ps_expr (pe_bm0 PySem.F.plainAttrs_list PySem.F.slot_list_pop PySem.F.type_list_pop mt_pop (pe_ix ix_list (pv 0) pe_int (fun _ _ => rfl))))
      (pss_cons (ps_expr (pe_bm0 PySem.F.plainAttrs_list PySem.F.slot_list_pop PySem.F.type_list_pop mt_pop (pe_ix ix_list (pv 0) pe_int (fun _ _ => rfl))))
      (pss_one (ps_expr (pe_bm0 PySem.F.plainAttrs_list PySem.F.slot_list_pop PySem.F.type_list_pop mt_pop (pe_ix ix_list (pv 0) pe_int (fun _ _ => rfl))))))))
      (pss_one (ps_ret (pv 1))))), ?_⟩
  obtain ⟨B, b0, b1, b2, b3, xs, zs, l, k0, rfl, bs, h3, n30, n31, n32, n3B, hk, lx, k⟩ := h
  have el : ((l ++ [(k0 : Int)]).map V.int) = l.map V.int ++ [.int k0] := by simp
  have elast : ((l ++ [(k0 : Int)]).map V.int)[((l ++ [(k0 : Int)]).map V.int).length - 1]? = some (.int k0) := by
    rw [el, List.length_append]
    simp
  have edrop : ((l ++ [(k0 : Int)]).map V.int).dropLast = l.map V.int := by rw [el, List.dropLast_concat]
  refine ⟨_, rfl, B, _, 3, _, rfl, rfl, SqL.of bs.hB, atI_nat (j := 3) rfl, .inl ⟨rfl, _, SqL.of h3⟩, b3, _, .int k0, rfl, rfl, h3, elast, ?_⟩
  rw [edrop]
  have bs1 : BS (upd H b3 (.lst (l.map V.int))) B b0 b1 b2 b3 xs zs := bs.mono fun b m o e => by
    rw [upd_ne (show b ≠ b3 from fun z => ?_)]
    · exact e
    · simp at m
      rcases m with m | m | m | m
      · exact n3B (z.symm.trans m)
      · exact n30 (z.symm.trans m)
      · exact n31 (z.symm.trans m)
      · exact n32 (z.symm.trans m)
  have h31 := upd_same (H := H) (a := b3) (o := .lst (l.map V.int))
  have bu1 : But [b0, b1, b2, b3] H (upd H b3 (.lst (l.map V.int))) := (But.refl _ _).mut (by simp)
  generalize upd H b3 _ = H1 at bs1 h31 bu1
  have lX : (xs.map V.str).length = xs.length := List.length_map ..
  obtain ⟨ts, et, lt⟩ := bs1.h1
  have lz := bs1.lz
  refine ⟨_, rfl, B, _, 0, _, rfl, rfl, SqL.of bs1.hB, atI_nat (j := 0) rfl, b0, _, rfl, .inl (SqL.of bs1.h0), ?_⟩
  rw [lX]
  refine ⟨_, rfl, _, _, rfl, rfl, ?_⟩
  have esub : (xs.length : Int) - (k0 : Int) = ((xs.length - k0 : Nat) : Int) := by omega
  refine ⟨((xs.length - k0 : Nat) : Int), ?_, by omega, by omega, ?_⟩
  · show [V.int ((xs.length : Int) - (k0 : Int))] = _
    rw [esub]
  rw [Int.toNat_natCast]
  have bu2 : ∀ {H2 H3 : Hp} {q : Addr} {u : HO}, But [b0, b1, b2, b3] H H2 → q ∈ [b0, b1, b2] → H3 = upd H2 q u → But [b0, b1, b2, b3] H H3 := fun b m e => by
    rw [e]
    exact b.mut (by simp at m ⊢; rcases m with rfl | rfl | rfl <;> simp)
  refine for_range (lo := 0) (n := xs.length - k0) (fun i σ H' => ∃ x2, σ = [some (.ref B), some (.int k0), x2] ∧ But [b0, b1, b2, b3] H H' ∧ H' B = some (.lst [.ref b0, .ref b1, .ref b2, .ref b3]) ∧ H' b0 = some (.lst ((xs.map V.str).take (xs.length - i))) ∧ H' b1 = some (.lst (ts.take (xs.length - i))) ∧ H' b2 = some (.lst ((zs.map V.int).take (xs.length - i))) ∧ H' b3 = some (.lst (l.map V.int)))
    ⟨_, rfl, bu1, bs1.hB, by rw [Nat.sub_zero, ← lX, List.take_length]; exact bs1.h0, by rw [Nat.sub_zero, ← lt, List.take_length]; exact et, by rw [Nat.sub_zero, ← lz, ← List.length_map (f := V.int), List.take_length]; exact bs1.h2, h31⟩ ?_ ?_
  · rintro i σ H2 hi ⟨x2, rfl, bu, hB, h0, h1, h2, h3⟩
    obtain ⟨y0, e0⟩ := take_end (xs.map V.str) i (by rw [lX]; omega)
    obtain ⟨y1, e1⟩ := take_end ts i (by omega)
    obtain ⟨y2, e2⟩ := take_end (zs.map V.int) i (by rw [List.length_map]; omega)
    rw [lX] at e0
    rw [lt] at e1
    rw [List.length_map, lz] at e2
    refine ⟨_, rfl, B, _, 0, _, rfl, rfl, SqL.of hB, atI_nat (j := 0) rfl, .inl ⟨rfl, _, SqL.of h0⟩, b0, _, y0, rfl, rfl, h0, e0, ?_⟩
    have d0 : ((xs.map V.str).take (xs.length - i)).dropLast = (xs.map V.str).take (xs.length - (i + 1)) := by rw [← lX]; exact take_last _ _ (by rw [lX]; omega)
    rw [d0]
    have hB3 : upd H2 b0 (.lst ((xs.map V.str).take (xs.length - (i + 1)))) B = _ := (upd_ne bs.nB0).trans hB
    have h13 : upd H2 b0 (.lst ((xs.map V.str).take (xs.length - (i + 1)))) b1 = _ := (upd_ne bs.n01.symm).trans h1
    have h23 : upd H2 b0 (.lst ((xs.map V.str).take (xs.length - (i + 1)))) b2 = _ := (upd_ne bs.n02.symm).trans h2
    have h33 : upd H2 b0 (.lst ((xs.map V.str).take (xs.length - (i + 1)))) b3 = _ := (upd_ne n30).trans h3
    have h03 := upd_same (H := H2) (a := b0) (o := .lst ((xs.map V.str).take (xs.length - (i + 1))))
    have bu3 := bu2 (H3 := upd H2 b0 (.lst ((xs.map V.str).take (xs.length - (i + 1))))) bu (by simp) rfl
    generalize upd H2 b0 _ = H3 at hB3 h13 h23 h33 h03 bu3
    refine ⟨_, rfl, B, _, 1, _, rfl, rfl, SqL.of hB3, atI_nat (j := 1) rfl, .inl ⟨rfl, _, SqL.of h13⟩, b1, _, y1, rfl, rfl, h13, e1, ?_⟩
    have d1 : (ts.take (xs.length - i)).dropLast = ts.take (xs.length - (i + 1)) := by rw [← lt]; exact take_last _ _ (by omega)
    rw [d1]
    have hB4 : upd H3 b1 (.lst (ts.take (xs.length - (i + 1)))) B = _ := (upd_ne bs.nB1).trans hB3
    have h04 : upd H3 b1 (.lst (ts.take (xs.length - (i + 1)))) b0 = _ := (upd_ne bs.n01).trans h03
    have h24 : upd H3 b1 (.lst (ts.take (xs.length - (i + 1)))) b2 = _ := (upd_ne bs.n12.symm).trans h23
    have h34 : upd H3 b1 (.lst (ts.take (xs.length - (i + 1)))) b3 = _ := (upd_ne n31).trans h33
    have h14 := upd_same (H := H3) (a := b1) (o := .lst (ts.take (xs.length - (i + 1))))
    have bu4 := bu2 (H3 := upd H3 b1 (.lst (ts.take (xs.length - (i + 1))))) bu3 (by simp) rfl
    generalize upd H3 b1 _ = H4 at hB4 h04 h24 h34 h14 bu4
    refine ⟨_, rfl, B, _, 2, _, rfl, rfl, SqL.of hB4, atI_nat (j := 2) rfl, .inl ⟨rfl, _, SqL.of h24⟩, b2, _, y2, rfl, rfl, h24, e2, ?_⟩
    have d2 : ((zs.map V.int).take (xs.length - i)).dropLast = (zs.map V.int).take (xs.length - (i + 1)) := by
      have q := take_last (zs.map V.int) i (by rw [List.length_map]; omega)
      rw [List.length_map, lz] at q
      exact q
    rw [d2]
    exact ⟨_, rfl, bu2 bu4 (by simp) rfl, (upd_ne bs.nB2).trans hB4, (upd_ne bs.n02).trans h04, (upd_ne bs.n12).trans h14, upd_same, (upd_ne n32).trans h34⟩
  · rintro σ H2 ⟨x2, rfl, bu, hB, h0, h1, h2, h3⟩
    have e : xs.length - (xs.length - k0) = k0 := by omega
    rw [e] at h0 h1 h2
    refine ⟨_, rfl, k H2 bu ⟨hB, by rw [List.map_take]; exact h0, ⟨_, h1, by rw [List.length_take, List.length_take, lt]⟩, by rw [List.map_take]; exact h2, by rw [List.length_take, List.length_take, lz], bs.n01, bs.n02, bs.n12, bs.nB0, bs.nB1, bs.nB2⟩ h3⟩
end
end K52

namespace K52
open PySem PySem.Spec PyProof.Rows L2 Sf
section
variable {P : Program} {w : World} {K : PySem.W.Frag} {mg : Str → Option Value} {base : Heap} {a : Ad}
theorem max_nat {n : Nat} (h : n ≤ 1000) : ∃ m : Nat, (if (n : Int) > 1 then (n : Int) else 1) = (m : Int) ∧ 1 ≤ m ∧ (1 ≤ n → m ≤ n) ∧ m ≤ 1000 := by
  by_cases c : (n : Int) > 1
  · rw [if_pos c]; exact ⟨n, rfl, by omega, fun _ => Nat.le_refl _, h⟩
  · rw [if_neg c]; exact ⟨1, rfl, Nat.le_refl _, fun q => q, by decide⟩
abbrev s_deed : Stmt := top 44
theorem sc_deed : FnScope ["sack", "plan", "bench", "many", "gaps", "spot", "seats", "one", "pair", "found", "turn"] ["sack", "plan", "bench"] (defScope s_deed) := ⟨rfl, rfl, rfl, by decide +kernel, rfl, by decide +kernel, by decide +kernel⟩
/-- a drawn call -/
def spDeed (K : PySem.W.Frag) : Sp := fun vs H Q _ => ∃ (G : Hp) (n N : Nat) (sk p r g B b0 b1 b2 b3 : Addr) (ws : List Str) (js : Js) (xs : List Str) (zs : List Int), vs = [.ref sk, .ref p, .ref B] ∧ Same G H ∧ G sk = none ∧ Sk n H sk ∧ n ≤ 100000 ∧ PlAt K G p r g ws js ∧ Rt N ws js ∧ N ≤ 1000 ∧ BS H B b0 b1 b2 b3 xs zs ∧ xs.length ≤ 1000 ∧ (∀ x ∈ xs, Tx 2000 x) ∧
  B ≠ sk ∧ b0 ≠ sk ∧ b1 ≠ sk ∧ b2 ≠ sk ∧ ∀ d H' (i l u o q : Nat), i ≤ 6000 → l ≤ 6000 → u ≤ 6000 → o ≤ 6000 → q ≤ 6000 → Sk (n + 10) H' sk → Kp sk H H' → H d = none → H' d = some (.tup [.int i, .int l, .int u, .int o, .int q]) → Q (.ref d) H'
theorem ok_deed {f : Addr} {fd fd1 fd2 : FuncData} (F : Fun K "_law_fm_deed" "_law_fm_deed" s_deed f fd) (T : Txt K mg a) (c_coin : Cal P w K mg base 1 a.coin fd1 ["purse", "many"] spCoin) (c_sites : Cal P w K mg base 1 a.sites fd2 ["left", "right", "word"] spSites) : FnOk P w K mg base CX0 2 f fd ["sack", "plan", "bench"] (spDeed K) := by
  refine F.ok sc_deed (fun vs H Q E h => by obtain ⟨G, n, N, sk, p, r, g, B, b0, b1, b2, b3, ws, js, xs, zs, rfl, _⟩ := h; rfl) (fun cdv A outer s H vs Q E hr h => ?_)
  have hr_sites := hr
  have hr_coin := hr
  refine ⟨_, (pss_cons (ps_par (i := 3) (j := 4) (by rfl) sc_deed.nd rfl rfl (by decide) rfl rfl (pa_cons (pe_callB (call_max2 rfl) (by rfl) T.b_max (by decide +kernel) (pa_cons pe_int (pa_cons (pe_callB call_len_seq (by rfl) T.b_len PySem.boot_len (pa_cons (pe_ix ix_list (pv 2) pe_int (fun _ _ => rfl)) pa_nil)) pa_nil))) (pa_cons (pe_lst (pa_cons pe_int (pa_cons pe_int pa_nil))) pa_nil)) (by rfl))
      (pss_cons (ps_set (i := 5) sc_deed.nd rfl (Or.inl rfl) (pe_call c_coin.ok hr_coin rfl T.g_coin T.k_coin c_coin.binds .nil pass0 (pa_cons (pv 0) (pa_cons (pe_callB (call_max2 rfl) (by rfl) T.b_max (by decide +kernel) (pa_cons pe_int (pa_cons (pe_callB call_len_seq (by rfl) T.b_len PySem.boot_len (pa_cons (pe_ix ix_tup (pv 1) pe_int (fun _ _ => rfl)) pa_nil)) pa_nil))) pa_nil))))
      (pss_cons (ps_set (i := 6) sc_deed.nd rfl (Or.inl rfl) (pe_lst (pa_cons (pe_call c_coin.ok hr_coin rfl T.g_coin T.k_coin c_coin.binds .nil pass0 (pa_cons (pv 0) (pa_cons (pv 3) pa_nil))) (pa_cons (pe_call c_coin.ok hr_coin rfl T.g_coin T.k_coin c_coin.binds .nil pass0 (pa_cons (pv 0) (pa_cons (pv 3) pa_nil))) pa_nil))))
      (pss_cons (ps_for PassesOwn.never rfl (pi_range1 rfl T.b_range (pa_cons (pe_ifExp (PW.pt (pw_or (pt_cmpR (op_eqD hr.units) (pe_ix ix_list (pv 2) pe_int (fun _ _ => rfl)) (pe_lst pa_nil) (nomark _)) (pw_or1 (pt_cmpR (op_eqD hr.units) (pe_ix ix_tup (pv 1) pe_int (fun _ _ => rfl)) (pe_lst pa_nil) (nomark _))))) pe_int pe_int) pa_nil)) (pg_name (i := 7) sc_deed.nd rfl (Or.inl rfl))
      (pss_cons (ps_par (i := 8) (j := 9) (by rfl) sc_deed.nd rfl rfl (by decide) rfl rfl (pa_cons (pe_slice sl_tup (pe_ix ix_list (pe_ix ix_tup (pv 1) pe_int (fun _ _ => rfl)) (pv 5) (fun _ _ => rfl)) (po_some (pe_op op_mulX pe_int (pv 7))) (po_some (pe_op op_add (pe_op op_mulX pe_int (pv 7)) pe_int))) (pa_cons (pe_lst pa_nil) pa_nil)) (by rfl))
      (pss_cons (ps_for PassesOwn.never rfl (pi_range1 rfl T.b_range (pa_cons (pv 3) pa_nil)) (pg_name (i := 10) sc_deed.nd rfl (Or.inl rfl))
      (pss_one (ps_if (pt_cmpR (op_eqD hr.units) (pv 9) (pe_lst pa_nil) (nomark _)) (pss_cons (ps_asg (pe_op op_mod (pe_callTy call_int1 (by rfl) T.b_int (by decide +kernel) (pa_cons (pe_op op_add (pe_ix ix_list (pv 6) (pv 7) (fun _ _ => rfl)) (pe_callB (call_min2 rfl) (by rfl) T.b_min (by decide +kernel) (pa_cons (pv 10) (pa_cons pe_int pa_nil)))) pa_nil)) (pv 3)) (pg_sub (pv 6) (pv 7) set_list))
      (pss_one (ps_set (i := 9) sc_deed.nd rfl (Or.inl rfl) (pe_call c_sites.ok hr_sites rfl T.g_sites T.k_sites c_sites.binds .nil pass0 (pa_cons (pe_ix ix_tup (pv 8) pe_int (fun _ _ => rfl)) (pa_cons (pe_ix ix_tup (pv 8) pe_int (fun _ _ => rfl)) (pa_cons (pe_ix ix_list (pe_ix ix_list (pv 2) pe_int (fun _ _ => rfl)) (pe_ix ix_list (pv 6) (pv 7) (fun _ _ => rfl)) (fun _ _ => rfl)) pa_nil))))))) pss_nil)))
      (pss_cons (ps_asg (pe_call c_coin.ok hr_coin rfl T.g_coin T.k_coin c_coin.binds .nil pass0 (pa_cons (pv 0) (pa_cons pe_int pa_nil))) (pg_sub (pv 4) (pv 7) set_list))
      (pss_one (ps_if (pt_cmpR (op_neD hr.units) (pv 9) (pe_lst pa_nil) (nomark _)) (pss_one (ps_asg (pe_ix ix_list (pv 9) (pe_call c_coin.ok hr_coin rfl T.g_coin T.k_coin c_coin.binds .nil pass0 (pa_cons (pv 0) (pa_cons (pe_callB call_len_seq (by rfl) T.b_len PySem.boot_len (pa_cons (pv 9) pa_nil)) pa_nil))) (fun _ _ => rfl)) (pg_sub (pv 4) (pv 7) set_list))) pss_nil))))))
      (pss_one (ps_ret (pe_tup (pa_cons (pv 5) (pa_cons (pe_ix ix_list (pv 6) pe_int (fun _ _ => rfl)) (pa_cons (pe_ix ix_list (pv 4) pe_int (fun _ _ => rfl)) (pa_cons (pe_ix ix_list (pv 6) pe_int (fun _ _ => rfl)) (pa_cons (pe_ix ix_list (pv 4) pe_int (fun _ _ => rfl)) pa_nil)))))))))))), ?_⟩
  obtain ⟨G, n, N, sk, p, r, g, B, b0, b1, b2, b3, ws, js, xs, zs, rfl, sG, gk, hsk, hn, pl, rt, hN, bs, lx, hx, nB, n0, n1, n2, k⟩ := h
  have jn := rt.jn
  have lg : (refs js).length = js.length := List.length_map ..
  have lX : (xs.map V.str).length = xs.length := List.length_map ..
  have plH := pl.mono sG
  have bsK : ∀ H', Kp sk H H' → BS H' B b0 b1 b2 b3 xs zs := fun H' kp => bs.but (X := [sk]) (But.ofKp kp (List.mem_singleton.mpr rfl)) (fun z => nB (List.mem_singleton.mp z)) (fun z => n0 (List.mem_singleton.mp z)) (fun z => n1 (List.mem_singleton.mp z)) (fun z => n2 (List.mem_singleton.mp z))
  have plK : ∀ H', Kp sk H H' → PlAt K H' p r g ws js := fun H' kp => pl.mono (same_kp sG kp gk)
  obtain ⟨mN, emN, mN1, mNl, mN3⟩ := max_nat (n := (xs.map V.str).length) (by rw [lX]; exact lx)
  obtain ⟨jN, ejN, jN1, jNl, jN3⟩ := max_nat (n := (refs js).length) (by rw [lg]; omega)
  refine ⟨_, rfl, B, _, 0, _, rfl, rfl, SqL.of bs.hB, atI_nat (j := 0) rfl, b0, _, rfl, .inl (SqL.of bs.h0), _, _, rfl, small_line (by show 2 ≤ 100000; decide), fun ga hga => ⟨_, _, rfl, ?_⟩⟩
  rw [emN]
  have kp1 : Kp sk H (upd H ga (.lst [.int 0, .int 0])) := (Kp.refl _ _).new hga
  have sk1 := hsk.new (o := .lst [.int 0, .int 0]) hga
  have nga := hsk.ne hga
  have ga1 := upd_same (H := H) (a := ga) (o := .lst [.int 0, .int 0])
  generalize upd H ga _ = H1 at kp1 sk1 ga1
  have pl1 := plK H1 kp1
  refine ⟨_, rfl, _, rfl, p, _, 1, _, rfl, rfl, pl1.p, atI_nat (j := 1) rfl, g, _, rfl, .inl (.inl pl1.g), _, _, rfl, ?_⟩
  rw [ejN]
  refine ⟨sk, n, _, rfl, sk1, by omega, by omega, lt200 (by omega), fun z H2 z0 z1 sk2 kp2 => ?_⟩
  obtain ⟨z, rfl⟩ := nat_of z0
  have ga2 := kp2 ga _ nga ga1
  have kp2 := kp1.trans kp2
  refine ⟨_, rfl, _, rfl, sk, n + 1, _, rfl, sk2, by omega, by omega, lt200 (by omega), fun s0 H3 s00 s01 sk3 kp3 => ?_⟩
  obtain ⟨s0, rfl⟩ := nat_of s00
  have ga3 := kp3 ga _ nga ga2
  have kp3 := kp2.trans kp3
  refine ⟨_, rfl, _, rfl, sk, n + 2, _, rfl, sk3, by omega, by omega, lt200 (by omega), fun t0 H4 t00 t01 sk4 kp4 => ?_⟩
  obtain ⟨t0, rfl⟩ := nat_of t00
  have ga4 := kp4 ga _ nga ga3
  have kp4 := kp3.trans kp4
  refine ⟨small_line (by show 2 ≤ 100000; decide), fun se hse => ?_⟩
  have nse := sk4.ne hse
  have nsg := (ne_of_none ga4 hse).symm
  have fse : H se = none := kp4.free nse hse
  have kp5 := kp4.new (o := .lst [.int s0, .int t0]) hse
  have sk5 := sk4.new (o := .lst [.int s0, .int t0]) hse
  have ga5 := upd_old (u := .lst [.int s0, .int t0]) ga4 hse
  have se5 := upd_same (H := H4) (a := se) (o := .lst [.int s0, .int t0])
  generalize upd H4 se _ = H5 at kp5 sk5 ga5 se5
  have bs5 := bsK H5 kp5
  -- the two films
  refine ⟨_, rfl, B, _, 0, _, rfl, rfl, SqL.of bs5.hB, atI_nat (j := 0) rfl, small_line (by decide), fun e0 he0 => ?_⟩
  have bs6 := bs5.same (same_new (u := .lst []) (Same.refl _) he0)
  have kp6 := kp5.new (o := .lst []) he0
  have sk6 := sk5.new (o := .lst []) he0
  have ga6 := upd_old (u := .lst []) ga5 he0
  have se6 := upd_old (u := .lst []) se5 he0
  refine ⟨_, _, .lst (SqL.of bs6.h0) (DpAll.strs xs), .lst (SqL.of upd_same) .nil, shaped_strs (fun x h => (hx x h).mono (by decide)), shaped_nil, _, rfl, ?_⟩
  rw [eqv_nil]
  generalize upd H5 e0 _ = H6 at bs6 kp6 sk6 ga6 se6
  have kpF : ∀ H', But [sk, ga, se] H6 H' → Kp sk H H' := fun H' bu b o nb e => bu b o (fun z => by
    simp at z
    rcases z with z | z | z
    · exact nb z
    · rw [z, hga] at e; cases e
    · rw [z, fse] at e; cases e) (kp6 b o nb e)
  have start : ∃ (ss gs : List Nat), But [sk, ga, se] H6 H6 ∧ Sk (n + 3 + 2 * 0) H6 sk ∧ H6 ga = some (.lst (vnats gs)) ∧ H6 se = some (.lst (vnats ss)) ∧ gs.length = 2 ∧ ss.length = 2 ∧ (∀ g ∈ gs, g ≤ 6000) ∧ ∀ s ∈ ss, s < mN :=
    ⟨[s0, t0], [0, 0], But.refl _ _, sk6, ga6, se6, rfl, rfl, by decide, fun s hs => by
      rcases List.mem_cons.mp hs with rfl | hs
      · omega
      · rw [List.mem_singleton.mp hs]; omega⟩
  refine ite2 (fun c1 => ?_) (fun c1 => ?_)
  · refine ⟨0, rfl, by decide, by decide, for_range (lo := 0) (n := 0) (fun i σ H' => ∃ (x7 x8 x9 x10 : Option V) (ss gs : List Nat), σ = [some (.ref sk), some (.ref p), some (.ref B), some (.int mN), some (.ref ga), some (.int z), some (.ref se), x7, x8, x9, x10] ∧ But [sk, ga, se] H6 H' ∧ Sk (n + 3 + 2 * i) H' sk ∧ H' ga = some (.lst (vnats gs)) ∧ H' se = some (.lst (vnats ss)) ∧ gs.length = 2 ∧ ss.length = 2 ∧ (∀ g ∈ gs, g ≤ 6000) ∧ ∀ s ∈ ss, s < mN) (let ⟨ss, gs, r⟩ := start; ⟨_, _, _, _, ss, gs, rfl, r⟩) (fun i σ H' hi => absurd hi (Nat.not_lt_zero _)) ?_⟩
    rintro σ H' ⟨x7, x8, x9, x10, ss, gs, rfl, bu, sk', ga', se', lgs, lss, hgs, hss⟩
    match ss, gs, lss, lgs, hgs, hss with
    | [l, o], [u, q], _, _, hgs, hss =>
    refine ⟨_, rfl, _, rfl, se, _, 0, .int l, rfl, rfl, SqL.of se', atI_nat (j := 0) rfl, _, rfl, ga, _, 0, .int u, rfl, rfl, SqL.of ga', atI_nat (j := 0) rfl, _, rfl, se, _, 1, .int o, rfl, rfl, SqL.of se', atI_nat (j := 1) rfl, _, rfl, ga, _, 1, .int q, rfl, rfl, SqL.of ga', atI_nat (j := 1) rfl, small_line (by show 5 ≤ 100000; decide), fun d hd => ?_⟩
    obtain ⟨v, hv⟩ := sk'.at
    exact k d _ z l u o q (by have := z1; omega) (by have := hss l (by simp); omega) (hgs u (by simp)) (by have := hss o (by simp); omega) (hgs q (by simp)) ((sk'.new hd).mono (by omega)) ((kpF _ bu).new hd) ((kpF _ bu).none hv hd) upd_same
  have pl6 := plK H6 kp6
  refine ⟨_, rfl, p, _, 1, _, rfl, rfl, pl6.p, atI_nat (j := 1) rfl, small_line (by decide), fun e1 he1 => ?_⟩
  have s7 : Same H6 (upd H6 e1 (.lst [])) := same_new (Same.refl _) he1
  refine ⟨_, _, dp_j (SqL.of (s7 _ _ pl6.g0)) (pl6.mono s7).j, .lst (SqL.of upd_same) .nil, shaped_j (fun j h => (rt.jd j h).txs), shaped_nil, _, rfl, ?_⟩
  rw [eqv_jnil]
  generalize upd H6 e1 _ = H7 at s7
  have start7 : ∃ (ss gs : List Nat), But [sk, ga, se] H6 H7 ∧ Sk (n + 3 + 2 * 0) H7 sk ∧ H7 ga = some (.lst (vnats gs)) ∧ H7 se = some (.lst (vnats ss)) ∧ gs.length = 2 ∧ ss.length = 2 ∧ (∀ g ∈ gs, g ≤ 6000) ∧ ∀ s ∈ ss, s < mN := by
    obtain ⟨ss, gs, _, q1, q2, q3, q4⟩ := start
    exact ⟨ss, gs, But.ofSame s7, sk_same q1 s7, s7 _ _ q2, s7 _ _ q3, q4⟩
  refine ite2 (fun c2 => ?_) (fun c2 => ?_)
  · refine ⟨0, rfl, by decide, by decide, for_range (lo := 0) (n := 0) (fun i σ H' => ∃ (x7 x8 x9 x10 : Option V) (ss gs : List Nat), σ = [some (.ref sk), some (.ref p), some (.ref B), some (.int mN), some (.ref ga), some (.int z), some (.ref se), x7, x8, x9, x10] ∧ But [sk, ga, se] H6 H' ∧ Sk (n + 3 + 2 * i) H' sk ∧ H' ga = some (.lst (vnats gs)) ∧ H' se = some (.lst (vnats ss)) ∧ gs.length = 2 ∧ ss.length = 2 ∧ (∀ g ∈ gs, g ≤ 6000) ∧ ∀ s ∈ ss, s < mN) (let ⟨ss, gs, r⟩ := start7; ⟨_, _, _, _, ss, gs, rfl, r⟩) (fun i σ H' hi => absurd hi (Nat.not_lt_zero _)) ?_⟩
    rintro σ H' ⟨x7, x8, x9, x10, ss, gs, rfl, bu, sk', ga', se', lgs, lss, hgs, hss⟩
    match ss, gs, lss, lgs, hgs, hss with
    | [l, o], [u, q], _, _, hgs, hss =>
    refine ⟨_, rfl, _, rfl, se, _, 0, .int l, rfl, rfl, SqL.of se', atI_nat (j := 0) rfl, _, rfl, ga, _, 0, .int u, rfl, rfl, SqL.of ga', atI_nat (j := 0) rfl, _, rfl, se, _, 1, .int o, rfl, rfl, SqL.of se', atI_nat (j := 1) rfl, _, rfl, ga, _, 1, .int q, rfl, rfl, SqL.of ga', atI_nat (j := 1) rfl, small_line (by show 5 ≤ 100000; decide), fun d hd => ?_⟩
    obtain ⟨v, hv⟩ := sk'.at
    exact k d _ z l u o q (by have := z1; omega) (by have := hss l (by simp); omega) (hgs u (by simp)) (by have := hss o (by simp); omega) (hgs q (by simp)) ((sk'.new hd).mono (by omega)) ((kpF _ bu).new hd) ((kpF _ bu).none hv hd) upd_same
  have jl : 1 ≤ js.length := by
    match js, c2 with
    | [], c2 => exact absurd rfl c2
    | _ :: _, _ => exact Nat.succ_le_succ (Nat.zero_le _)
  have xl1 : 1 ≤ xs.length := by
    match xs, c1 with
    | [], c1 => exact absurd rfl c1
    | _ :: _, _ => exact Nat.succ_le_succ (Nat.zero_le _)
  have zj : z < js.length := by have := jNl (by rw [lg]; exact jl); rw [lg] at this; omega
  have ej : js[z]? = some js[z] := List.getElem?_eq_getElem zj
  have mj : js[z] ∈ js := List.getElem_mem zj
  have jj := rt.jd _ mj
  have eji : (refs js)[z]? = some (.ref js[z].1) := by unfold refs; rw [List.getElem?_map, ej]; rfl
  have pj := pl6.j _ mj
  generalize js[z] = j at ej jj eji pj mj
  obtain ⟨ja, jx⟩ := j
  obtain ⟨j4, jw, j0, j3⟩ := jj
  match jx, j4, jw, j0, j3 with
  | [y0, y1, y2, y3], _, jw, j0, j3 =>
  refine ⟨2, rfl, by decide, by decide, for_range (lo := 0) (n := 2) (fun i σ H' => ∃ (x7 x8 x9 x10 : Option V) (ss gs : List Nat), σ = [some (.ref sk), some (.ref p), some (.ref B), some (.int mN), some (.ref ga), some (.int z), some (.ref se), x7, x8, x9, x10] ∧ But [sk, ga, se] H6 H' ∧ Sk (n + 3 + 2 * i) H' sk ∧ H' ga = some (.lst (vnats gs)) ∧ H' se = some (.lst (vnats ss)) ∧ gs.length = 2 ∧ ss.length = 2 ∧ (∀ g ∈ gs, g ≤ 6000) ∧ ∀ s ∈ ss, s < mN) (let ⟨ss, gs, r⟩ := start7; ⟨_, _, _, _, ss, gs, rfl, r⟩) ?_ ?_⟩
  rotate_left
  · skip
    rintro σ H' ⟨x7, x8, x9, x10, ss, gs, rfl, bu, sk', ga', se', lgs, lss, hgs, hss⟩
    match ss, gs, lss, lgs, hgs, hss with
    | [l, o], [u, q], _, _, hgs, hss =>
    refine ⟨_, rfl, _, rfl, se, _, 0, .int l, rfl, rfl, SqL.of se', atI_nat (j := 0) rfl, _, rfl, ga, _, 0, .int u, rfl, rfl, SqL.of ga', atI_nat (j := 0) rfl, _, rfl, se, _, 1, .int o, rfl, rfl, SqL.of se', atI_nat (j := 1) rfl, _, rfl, ga, _, 1, .int q, rfl, rfl, SqL.of ga', atI_nat (j := 1) rfl, small_line (by show 5 ≤ 100000; decide), fun d hd => ?_⟩
    obtain ⟨v, hv⟩ := sk'.at
    exact k d _ z l u o q (by have := z1; omega) (by have := hss l (by simp); omega) (hgs u (by simp)) (by have := hss o (by simp); omega) (hgs q (by simp)) ((sk'.new hd).mono (by omega)) ((kpF _ bu).new hd) ((kpF _ bu).none hv hd) upd_same
  rintro i σ H8 hi ⟨x7, x8, x9, x10, ss, gs, rfl, bu, sk8, ga8, se8, lgs, lss, hgs, hss⟩
  rw [Int.zero_add]
  obtain ⟨v0, v1, ecut, w0, w1, n01, nwh⟩ : ∃ (v0 v1 : Str), cutV ([y0, y1, y2, y3].map V.str) (some (2 * (i : Int))) (some (2 * (i : Int) + 2)) = [.str v0, .str v1] ∧ Tx 2000 v0 ∧ Tx 2000 v1 ∧ 1 ≤ (v0 ++ v1).length ∧
      ¬ (HT.sIx ([y0, y1, y2, y3].map V.str).length 0 (some (2 * (i : Int))) = 0 ∧ HT.sIx ([y0, y1, y2, y3].map V.str).length ([y0, y1, y2, y3].map V.str).length (some (2 * (i : Int) + 2)) = ([y0, y1, y2, y3].map V.str).length) := by
    have : i = 0 ∨ i = 1 := by omega
    rcases this with rfl | rfl
    · exact ⟨y0, y1, rfl, (jw y0 (by simp)).tx.mono (by decide), (jw y1 (by simp)).tx.mono (by decide), by rw [Str.length_append]; have : 1 ≤ y0.length := j0; omega, by intro q; exact absurd q.2 (by show ¬ ((2 : Nat) = 4); decide)⟩
    · exact ⟨y2, y3, rfl, (jw y2 (by simp)).tx.mono (by decide), (jw y3 (by simp)).tx.mono (by decide), by rw [Str.length_append]; have : 1 ≤ y3.length := j3; omega, by intro q; exact absurd q.1 (by show ¬ ((2 : Nat) = 0); decide)⟩
  have kp8 := kpF H8 bu
  have pl8 := plK H8 kp8
  have pj8 := pl8.j _ mj
  have cm : CMulX 2 (i : Int) := by
    have b1 := bits_le (x := 2) (n := 2) (by decide)
    have b2 := bits_le (x := (i : Int)) (n := 2) (by rw [Int.natAbs_natCast]; omega)
    show _ + _ ≤ _
    omega
  have nX8 : ∀ q ∈ [sk, ga, se], ∃ l, H8 q = some (.lst l) := fun q hq => by
    simp at hq
    rcases hq with rfl | rfl | rfl
    · obtain ⟨_, _, _, e, _⟩ := sk8; exact ⟨_, e⟩
    · exact ⟨_, ga8⟩
    · exact ⟨_, se8⟩
  refine ⟨_, rfl, p, _, 1, _, rfl, rfl, pl8.p, atI_nat (j := 1) rfl, _, rfl, g, _, (z : Int), .ref ja, rfl, rfl, SqL.of pl8.g0, atI_nat eji, _, rfl, _, _, rfl, rfl, cm, _, rfl, _, rfl, _, _, rfl, rfl, cm, _, _, rfl, rfl, _, rfl, ja, _, rfl, pj8, nwh, fun pr hpr => ?_⟩
  rw [ecut]
  refine ⟨small_line (by decide), fun f0 hf0 => ⟨_, _, rfl, ?_⟩⟩
  have s9 : Same H8 (upd H8 pr (.tup [.str v0, .str v1])) := same_new (Same.refl _) hpr
  have s10 := same_new (u := .lst []) s9 hf0
  have pr10 := upd_old (u := .lst []) (upd_same (H := H8) (a := pr) (o := .tup [.str v0, .str v1])) hf0
  have f010 := upd_same (H := upd H8 pr (.tup [.str v0, .str v1])) (a := f0) (o := .lst [])
  have nf0 : f0 ∉ [sk, ga, se] := fun m => by
    obtain ⟨l, e⟩ := nX8 f0 m
    rw [same_none s9 hf0] at e
    cases e
  have npr : pr ∉ [sk, ga, se] := fun m => by
    obtain ⟨l, e⟩ := nX8 pr m
    rw [hpr] at e
    cases e
  have ga10 := s10 _ _ ga8
  have se10 := s10 _ _ se8
  have sk10 := sk_same sk8 s10
  generalize upd (upd H8 pr _) f0 _ = H10 at s10 pr10 f010 ga10 se10 sk10
  have kp10 := kp_same kp8 s10
  have kpI : ∀ H', But [sk, ga, se] H10 H' → Kp sk H H' := fun H' bu' => kpF H' (bu.trans ((But.ofSame s10).trans bu'))
  refine ⟨_, rfl, (mN : Int), rfl, by omega, by omega, ?_⟩
  rw [Int.toNat_natCast]
  refine for_range (lo := 0) (n := mN) (fun t σ H' => ∃ (x10 : Option V) (fd : Addr) (ns ss : List Nat), σ = [some (.ref sk), some (.ref p), some (.ref B), some (.int mN), some (.ref ga), some (.int z), some (.ref se), some (.int (i : Nat)), some (.ref pr), some (.ref fd), x10] ∧ But [sk, ga, se] H10 H' ∧ Sk (n + 3 + 2 * i) H' sk ∧ H' ga = some (.lst (vnats gs)) ∧ H' se = some (.lst (vnats ss)) ∧ ss.length = 2 ∧ (∀ s ∈ ss, s < mN) ∧ H' fd = some (.lst (vnats ns)) ∧ fd ∉ [sk, ga, se] ∧ ns.length ≤ 6000 ∧ ∀ c ∈ ns, c ≤ 6000)
    ⟨_, f0, [], ss, rfl, But.refl _ _, sk10, ga10, se10, lss, hss, f010, nf0, Nat.zero_le _, nofun⟩ ?_ ?_
  · rintro t σ H11 ht ⟨x10, fd, ns, ss, rfl, bu11, sk11, ga11, se11, lss, hss, fd11, nfd, lns, hns⟩
    rw [Int.zero_add]
    refine ⟨_, rfl, small_line (by decide), fun e he => ?_⟩
    have s12 : Same H11 (upd H11 e (.lst [])) := same_new (Same.refl _) he
    refine ⟨_, _, .lst (SqL.of (s12 _ _ fd11)) (dp_nats ns), .lst (SqL.of upd_same) .nil, shaped_nats ns, shaped_nil, _, rfl, ?_⟩
    rw [eqv_nats]
    generalize upd H11 e _ = H12 at s12
    have bu12 := bu11.trans (But.ofSame s12)
    have sk12 := sk_same sk11 s12
    have ga12 := s12 _ _ ga11
    have se12 := s12 _ _ se11
    have fd12 := s12 _ _ fd11
    refine ite2 (fun c => ?_) (fun c => ?_)
    rotate_left
    · exact ⟨_, fd, ns, ss, rfl, bu12, sk12, ga12, se12, lss, hss, fd12, nfd, lns, hns⟩
    have il : i < ss.length := by omega
    have ei : ss[i]? = some ss[i] := List.getElem?_eq_getElem il
    have esi : (vnats ss)[i]? = some (.int (ss[i] : Nat)) := by unfold vnats; rw [List.getElem?_map, ei]; rfl
    generalize ss[i] = li at ei esi
    obtain ⟨u, eu, hu⟩ : ∃ u : Nat, ((li : Int) + (if (1 : Int) < (t : Int) then 1 else (t : Int))) % (mN : Int) = (u : Int) ∧ u < mN := by
      have h0 := Int.emod_nonneg ((li : Int) + (if (1 : Int) < (t : Int) then 1 else (t : Int))) (b := (mN : Int)) (by omega)
      have h1 := Int.emod_lt_of_pos ((li : Int) + (if (1 : Int) < (t : Int) then 1 else (t : Int))) (b := (mN : Int)) (by omega)
      obtain ⟨u, eu⟩ := nat_of h0
      exact ⟨u, eu, by omega⟩
    refine ⟨_, rfl, _, rfl, se, _, (i : Int), _, rfl, rfl, SqL.of se12, atI_nat esi, _, rfl, _, _, rfl, _, _, rfl, rfl, .inl ⟨_, rfl, _, rfl, _, _, rfl, rfl, by show (0 : Int) < _; omega, ?_⟩⟩
    dsimp only
    rw [eu]
    have nsX : se ∈ [sk, ga, se] := by simp
    refine ⟨_, rfl, _, rfl, se, _, (i : Int), i, rfl, rfl, se12, ixN_nat (by unfold vnats; rw [List.length_map]; exact il), ?_⟩
    have esx : (vnats ss).set i (.int (u : Nat)) = vnats (ss.set i u) := by unfold vnats; rw [List.map_set]
    rw [esx]
    have bu13 : But [sk, ga, se] H10 (upd H12 se (.lst (vnats (ss.set i u)))) := bu12.mut nsX
    have se13 := upd_same (H := H12) (a := se) (o := .lst (vnats (ss.set i u)))
    have ga13 : upd H12 se (.lst (vnats (ss.set i u))) ga = _ := (upd_ne nsg.symm).trans ga12
    have sk13 : Sk (n + 3 + 2 * i) (upd H12 se (.lst (vnats (ss.set i u)))) sk := sk_mut sk12 nse
    generalize upd H12 se _ = H13 at bu13 se13 ga13 sk13
    have pr13 := bu13 pr _ npr pr10
    have bs13 := bsK H13 (kpI H13 bu13)
    have ux : u < xs.length := by have := mNl (by rw [lX]; exact xl1); rw [lX] at this; omega
    have ex : xs[u]? = some xs[u] := List.getElem?_eq_getElem ux
    have hx1 := (hx _ (List.getElem_mem ux)).mono (show 2000 ≤ 5000 by decide)
    have exu : (xs.map V.str)[u]? = some (.str xs[u]) := by rw [List.getElem?_map, ex]; rfl
    generalize xs[u] = x at ex hx1 exu
    have esu : (vnats (ss.set i u))[i]? = some (.int (u : Nat)) := by unfold vnats; rw [List.getElem?_map, List.getElem?_set_self (by omega)]; rfl
    refine ⟨_, rfl, pr, _, 0, _, rfl, rfl, SqT.of pr13, atI_nat (j := 0) rfl, _, rfl, pr, _, 1, _, rfl, rfl, SqT.of pr13, atI_nat (j := 1) rfl,
      _, rfl, B, _, 0, _, rfl, rfl, SqL.of bs13.hB, atI_nat (j := 0) rfl, _, rfl, _, rfl, se, _, (i : Int), .int u, rfl, rfl, SqL.of se13, atI_nat esu, b0, _, (u : Int), .str x, rfl, rfl, SqL.of bs13.h0, atI_nat exu,
      v0, v1, x, rfl, w0, w1, hx1, n01, fun e H14 he s14 e14 => ?_⟩
    refine ⟨_, e, _, ss.set i u, rfl, bu13.trans (But.ofSame s14), sk_same sk13 s14, s14 _ _ ga13, s14 _ _ se13, by rw [List.length_set]; exact lss, fun s hs => ?_, e14, fun m => ?_, Nat.le_trans (seats_len _ _ _) (by have := hx1.len; omega), fun c hc => Nat.le_trans (seats_le c hc) (by have := hx1.len; omega)⟩
    · rcases List.mem_or_eq_of_mem_set hs with z | z
      · exact hss s z
      · rw [z]; exact hu
    · simp at m
      rcases m with rfl | rfl | rfl
      · obtain ⟨_, q⟩ := sk13.at; rw [he] at q; cases q
      · rw [ga13] at he; cases he
      · rw [se13] at he; cases he
  · rintro σ H11 ⟨x10, fd, ns, ss, rfl, bu11, sk11, ga11, se11, lss, hss, fd11, nfd, lns, hns⟩
    have kp11 := kpI H11 bu11
    refine ⟨_, rfl, sk, n + 3 + 2 * i, _, rfl, sk11, by omega, by decide, by decide, fun u H12 u0 u1 sk12 kp12 => ?_⟩
    obtain ⟨u, rfl⟩ := nat_of u0
    have bu12 := bu11.trans (But.ofKp kp12 (show sk ∈ [sk, ga, se] by simp))
    have ga12 := kp12 ga _ nga ga11
    have se12 := kp12 se _ nse se11
    have fd12 := kp12 fd _ (fun q => nfd (by rw [q]; simp)) fd11
    have ig : i < gs.length := by omega
    have gset : ∀ v : Nat, v ≤ 6000 → ∀ g ∈ gs.set i v, g ≤ 6000 := fun v hv g hg => by
      rcases List.mem_or_eq_of_mem_set hg with z | z
      · exact hgs g z
      · rw [z]; exact hv
    have gaX : ga ∈ [sk, ga, se] := by simp
    refine ⟨_, rfl, _, rfl, ga, _, (i : Int), i, rfl, rfl, ga12, ixN_nat (by unfold vnats; rw [List.length_map]; exact ig), ?_⟩
    have egx : ∀ v : Nat, (vnats gs).set i (.int (v : Nat)) = vnats (gs.set i v) := fun v => by unfold vnats; rw [List.map_set]
    rw [egx]
    have bu13 : But [sk, ga, se] H10 (upd H12 ga (.lst (vnats (gs.set i u)))) := bu12.mut gaX
    have ga13 := upd_same (H := H12) (a := ga) (o := .lst (vnats (gs.set i u)))
    have se13 : upd H12 ga (.lst (vnats (gs.set i u))) se = _ := (upd_ne nsg).trans se12
    have fd13 : upd H12 ga (.lst (vnats (gs.set i u))) fd = _ := (upd_ne (fun q => nfd (by rw [q]; simp))).trans fd12
    have sk13 : Sk (n + 3 + 2 * i + 1) (upd H12 ga (.lst (vnats (gs.set i u)))) sk := sk_mut sk12 nga
    generalize upd H12 ga _ = H13 at bu13 se13 ga13 sk13 fd13
    have toH6 : ∀ H', But [sk, ga, se] H10 H' → But [sk, ga, se] H6 H' := fun H' b => bu.trans ((But.ofSame s10).trans b)
    refine ⟨_, rfl, small_line (by decide), fun e he => ?_⟩
    have s14 : Same H13 (upd H13 e (.lst [])) := same_new (Same.refl _) he
    refine ⟨_, _, .lst (SqL.of (s14 _ _ fd13)) (dp_nats ns), .lst (SqL.of upd_same) .nil, shaped_nats ns, shaped_nil, _, rfl, ?_⟩
    rw [eqv_nats]
    generalize upd H13 e _ = H14 at s14
    have bu14 := bu13.trans (But.ofSame s14)
    have sk14 := sk_same sk13 s14
    have ga14 := s14 _ _ ga13
    have se14 := s14 _ _ se13
    have fd14 := s14 _ _ fd13
    refine ite2 (fun c => ?_) (fun c => ?_)
    rotate_left
    · exact ⟨_, _, _, _, ss, gs.set i u, rfl, toH6 _ bu14, sk14.mono (by omega), ga14, se14, by rw [List.length_set]; exact lgs, lss, gset u (by omega), hss⟩
    have nl : 1 ≤ ns.length := by
      match ns, c with
      | [], c => exact absurd c (by decide)
      | _ :: _, _ => exact Nat.succ_le_succ (Nat.zero_le _)
    refine ⟨_, rfl, _, rfl, _, rfl, fd, _, rfl, .inl (SqL.of fd14), sk, n + 3 + 2 * i + 1, _, rfl, sk14, by omega, by unfold vnats; rw [List.length_map]; omega, lt200 (by unfold vnats; rw [List.length_map]; omega), fun v H15 v0 v1 sk15 kp15 => ?_⟩
    obtain ⟨v, rfl⟩ := nat_of v0
    have vl : v < ns.length := by unfold vnats at v1; rw [List.length_map] at v1; omega
    have env : (vnats ns)[v]? = some (.int (ns[v] : Nat)) := by unfold vnats; rw [List.getElem?_map, List.getElem?_eq_getElem vl]; rfl
    have hw' : ns[v] ≤ 6000 := hns _ (List.getElem_mem vl)
    generalize ns[v] = w' at env hw'
    have gset2 : ∀ g ∈ (gs.set i u).set i w', g ≤ 6000 := fun g hg => by
      rcases List.mem_or_eq_of_mem_set hg with z | z
      · exact gset u (by omega) g z
      · rw [z]; exact hw'
    have bu15 := bu14.trans (But.ofKp kp15 (show sk ∈ [sk, ga, se] by simp))
    have ga15 := kp15 ga _ nga ga14
    have se15 := kp15 se _ nse se14
    have fd15 := kp15 fd _ (fun q => nfd (by rw [q]; simp)) fd14
    refine ⟨fd, _, (v : Int), _, rfl, rfl, SqL.of fd15, atI_nat env, ?_⟩
    refine ⟨_, rfl, _, rfl, ga, _, (i : Int), i, rfl, rfl, ga15, ixN_nat (by unfold vnats; rw [List.length_map, List.length_set]; exact ig), ?_⟩
    have egy : (vnats (gs.set i u)).set i (.int (w' : Nat)) = vnats ((gs.set i u).set i w') := by unfold vnats; rw [List.map_set, List.map_set, List.map_set]
    rw [egy]
    exact ⟨_, _, _, _, ss, (gs.set i u).set i w', rfl, toH6 _ (bu15.mut gaX), (sk_mut sk15 nga).mono (by omega), upd_same, (upd_ne nsg).trans se15, by rw [List.length_set, List.length_set]; exact lgs, lss, gset2, hss⟩
end
end K52

namespace K52
open PySem PySem.Spec PyProof.Rows L2 Sf
section
variable {P : Program} {w : World} {K : PySem.W.Frag} {mg : Str → Option Value} {base : Heap} {a : Ad}
/-- what is told of a call that is let -/
def dueD (k : Nat) : PyData := .tuple [.int k, .list [], .int 0]
theorem due_sz {k : Nat} (h : k ≤ 1000) : Sz 2 1000 (dueD k) := by
  have a : Sz 1 12 (.int (k : Int)) := Sz.int (n := 10) (by rw [Int.natAbs_natCast]; omega) (by decide) (by decide)
  have b : Sz 1 2 (.list []) := Sz.list SzAll.nil
  have c : Sz 1 12 (.int 0) := Sz.int (n := 10) (by decide) (by decide) (by decide)
  exact (Sz.tuple (.cons a (.cons b (.cons c .nil)))).mono (by decide) (by decide)
theorem callFt_num {js : Js} {xs : List Str} {i l u o q : Int} {f : Ft} (h : callFt js xs i l u o q = some f) : ∃ k z, f = .num k z ∧ 4 ≤ k ∧ k ≤ 6 ∧ (z = i ∨ z = l ∨ z = u ∨ z = o ∨ z = q) := by
  unfold callFt at h
  split at h
  · cases h; exact ⟨_, _, rfl, by decide, by decide, .inl rfl⟩
  · split at h
    · cases h; exact ⟨_, _, rfl, by decide, by decide, .inr (.inl rfl)⟩
    · split at h
      · cases h; exact ⟨_, _, rfl, by decide, by decide, .inr (.inr (.inr (.inl rfl)))⟩
      · unfold orFt at h
        split at h
        · rename_i g e
          cases h
          unfold cutFt at e
          split at e
          · cases e
          · cases e; exact ⟨_, _, rfl, by decide, by decide, .inr (.inr (.inl rfl))⟩
        · unfold cutFt at h
          split at h
          · cases h
          · cases h; exact ⟨_, _, rfl, by decide, by decide, .inr (.inr (.inr (.inr rfl)))⟩
/-- what an error of a call shows -/
def errD (k : Nat) (z : Int) : PyData := .tuple [.str "", .list [.bool (decide (k = 1)), .bool (decide (k = 2)), .bool (decide (k = 3)), .bool (decide (k = 4)), .bool (decide (k = 5)), .bool (decide (k = 6))], .int z]
theorem err_sz {k : Nat} {z : Int} (h : z.natAbs ≤ 6000) : Sz 2 1000 (errD k z) := by
  have a : Sz 1 2 (.str "") := Sz.str (n := 0) (by decide) (by decide)
  have b : Sz 1 _ (.list [.bool (decide (k = 1)), .bool (decide (k = 2)), .bool (decide (k = 3)), .bool (decide (k = 4)), .bool (decide (k = 5)), .bool (decide (k = 6))]) := Sz.list (.cons (Sz.bool _) (.cons (Sz.bool _) (.cons (Sz.bool _) (.cons (Sz.bool _) (.cons (Sz.bool _) (.cons (Sz.bool _) .nil))))))
  have c : Sz 1 22 (.int z) := Sz.int (n := 20) (by omega) (by decide) (by decide)
  exact (Sz.tuple (.cons a (.cons b (.cons c .nil)))).mono (by decide) (by decide)
abbrev s_called : Stmt := top 45
theorem sc_called : FnScope ["desk_here", "deed", "by_name", "spot", "one", "gap", "two", "slot", "shows", "e", "flags"] ["desk_here", "deed", "by_name"] (defScope s_called) := ⟨rfl, rfl, rfl, by decide +kernel, rfl, by decide +kernel, by decide +kernel⟩
def spCalled (K : PySem.W.Frag) (a : Ad) : Sp := fun vs H Q _ => ∃ (m dx b f t n c d : Addr) (xs ws : List Str) (js : Js) (cs : List V) (i l u o q : Int) (bn : Bool), vs = [.ref m, .ref d, .bl bn] ∧ H m = some (.ins a.Desk dx (dkF b f t n c)) ∧ DS H f t n c xs ∧ xs.length ≤ 900 ∧ (∀ x ∈ xs, Tx 2000 x) ∧ H c = some (.lst cs) ∧ cs.length ≤ 900 ∧
  BoxAt K a H b ws js ∧ (∀ j ∈ js, j.2.length = 4) ∧ js.length ≤ 1000 ∧ SqT K H d [.int i, .int l, .int u, .int o, .int q] ∧ (∀ z ∈ [i, l, u, o, q], z.natAbs ≤ 6000) ∧ (∀ k z, callFt js xs i l u o q = some (.num k z) → ∀ H', Same H H' → Q (.str (errD k z).shown) H') ∧
  (callFt js xs i l u o q = none → ∀ H', But [f, t, n, c] H H' → DS H' f t n c (addX xs (splice (xs.getD l.toNat "") u (xs.getD o.toNat "") q)) → H' c = some (.lst (cs ++ [.int xs.length])) →
    Q (.str (dueD ((addX xs (splice (xs.getD l.toNat "") u (xs.getD o.toNat "") q)).idxOf (splice (xs.getD l.toNat "") u (xs.getD o.toNat "") q))).shown) H')
theorem ok_called {f : Addr} {fd fd1 : FuncData} (F : Fun K "_law_fm_called" "_law_fm_called" s_called f fd) (T : Txt K mg a) (c_Desk___call__ : CalX P w K mg base 6 a.Desk___call__ fd1 ["self", "index", "film", "cut", "other", "place"] (spDCall K a))
    (kb_Desk___call__ : KBn K fd1 ["self", "index", "film", "cut", "other", "place"] 1 ["index", "film", "cut", "other", "place"] (fun us ws => us ++ ws) (fun vs zs => vs ++ zs)) : Gd P w K mg base 7 f fd ["desk_here", "deed", "by_name"] (spCalled K a) := by
  refine okG F sc_called (fun vs H Q E h => by obtain ⟨m, dx, b, f, t, n, c, d, xs, ws, js, cs, i, l, u, o, q, bn, rfl, _⟩ := h; rfl) (fun cdv A outer s H vs Q E hG hr h => ?_)
  have hr_Desk___call__ := hr
  refine ⟨_, (pss_cons (ps_asg (pv 1) (pg_tup rfl (pgs_cons (pg_name (i := 3) sc_called.nd rfl (Or.inl rfl)) (pgs_cons (pg_name (i := 4) sc_called.nd rfl (Or.inl rfl)) (pgs_cons (pg_name (i := 5) sc_called.nd rfl (Or.inl rfl)) (pgs_cons (pg_name (i := 6) sc_called.nd rfl (Or.inl rfl)) (pgs_cons (pg_name (i := 7) sc_called.nd rfl (Or.inl rfl)) pgs_nil)))))))
      (pss_cons (ps_set (i := 8) sc_called.nd rfl (Or.inl rfl) (pe_tup (pa_cons pe_str (pa_cons (pe_lst pa_nil) (pa_cons pe_int pa_nil)))))
      (pss_cons (ps_try_as (i := 9) (Wout := fun _ _ _ _ => False) rfl rfl sc_called.nd rfl rfl ⟨rfl, by decide, Or.inl T.g_FilmError⟩ takes0
      (fun W pn xe tk _ => (pss_one (ps_if (pt_val (pv 2)) (pss_one (ps_set (i := 8) sc_called.nd rfl (Or.inl rfl) (pe_tup (pa_cons (pe_callOK (pv 0) T.co_Desk c_Desk___call__.ok hr_Desk___call__ kb_Desk___call__ (fun σ => passAt tk σ) (pk_cons (pv 3) (pk_cons (pv 4) (pk_cons (pv 5) (pk_cons (pv 6) (pk_cons (pv 7) pk_nil)))))) (pa_cons (pe_lst pa_nil) (pa_cons pe_int pa_nil)))))) (pss_one (ps_set (i := 8) sc_called.nd rfl (Or.inl rfl) (pe_tup (pa_cons (pe_callO (pv 0) T.co_Desk c_Desk___call__.ok hr_Desk___call__ c_Desk___call__.binds (fun σ => passAt tk σ) (pa_cons (pv 3) (pa_cons (pv 4) (pa_cons (pv 5) (pa_cons (pv 6) (pa_cons (pv 7) pa_nil)))))) (pa_cons (pe_lst pa_nil) (pa_cons pe_int pa_nil)))))))))
      (fun ea oe cls d pn hz hf => (pss_cons (ps_set (i := 10) sc_called.nd rfl (Or.inl rfl) (pe_lst (pa_cons (pe_callB (call_isX hz hf) (by rfl) T.b_isinstance (by decide +kernel) (pa_cons (pv 9) (pa_cons (pe_glob (v := .ref a.InvalidFilm) rfl T.g_InvalidFilm rfl) pa_nil))) (pa_cons (pe_callB (call_isX hz hf) (by rfl) T.b_isinstance (by decide +kernel) (pa_cons (pv 9) (pa_cons (pe_glob (v := .ref a.InvalidPiece) rfl T.g_InvalidPiece rfl) pa_nil))) (pa_cons (pe_callB (call_isX hz hf) (by rfl) T.b_isinstance (by decide +kernel) (pa_cons (pv 9) (pa_cons (pe_glob (v := .ref a.InvalidRule) rfl T.g_InvalidRule rfl) pa_nil))) pa_nil)))))
      (pss_cons (ps_set (i := 10) sc_called.nd rfl (Or.inl rfl) (pe_op op_cat (pv 10) (pe_lst (pa_cons (pe_callB (call_isX hz hf) (by rfl) T.b_isinstance (by decide +kernel) (pa_cons (pv 9) (pa_cons (pe_glob (v := .ref a.UnknownStrip) rfl T.g_UnknownStrip rfl) pa_nil))) (pa_cons (pe_callB (call_isX hz hf) (by rfl) T.b_isinstance (by decide +kernel) (pa_cons (pv 9) (pa_cons (pe_glob (v := .ref a.UnknownRule) rfl T.g_UnknownRule rfl) pa_nil))) (pa_cons (pe_callB (call_isX hz hf) (by rfl) T.b_isinstance (by decide +kernel) (pa_cons (pv 9) (pa_cons (pe_glob (v := .ref a.NoSplice) rfl T.g_NoSplice rfl) pa_nil))) pa_nil))))))
      (pss_one (ps_set (i := 8) sc_called.nd rfl (Or.inl rfl) (pe_tup (pa_cons pe_str (pa_cons (pv 10) (pa_cons (pe_errv hz hf (pv 9)) pa_nil))))))))))
      (pss_one (ps_ret (pe_callB (call_repr hG hr.units) (by rfl) T.b_repr (by decide +kernel) (pa_cons (pv 8) pa_nil))))))), ?_⟩
  obtain ⟨m, dx, b, f, t, n, c, d, xs, ws, js, cs, i, l, u, o, q, bn, rfl, hm, dd, lx, hx, hc, lc, bx, j4, jl, hd, hz, ke, k⟩ := h
  refine ⟨_, rfl, d, _, rfl, hd, rfl, _, _, rfl, _, _, rfl, _, _, rfl, _, _, rfl, _, _, rfl, rfl, ?_⟩
  refine ⟨small_line (by decide), fun l0 hl0 => ⟨small_line (by show 3 ≤ 100000; decide), fun p0 hp0 => ?_⟩⟩
  have s1 : Same H (upd H l0 (.lst [])) := same_new (Same.refl _) hl0
  have s2 := same_new (u := .tup [.str "", .ref l0, .int 0]) s1 hp0
  generalize upd _ p0 _ = H2 at s2
  refine ⟨_, rfl, ?_⟩
  have hm2 := s2 _ _ hm
  have d2 := dd.same s2
  have ik : (addX xs (splice (xs.getD l.toNat "") u (xs.getD o.toNat "") q)).idxOf (splice (xs.getD l.toNat "") u (xs.getD o.toNat "") q) ≤ 1000 := by
    have h1 := List.idxOf_lt_length_of_mem (addX_has xs (splice (xs.getD l.toNat "") u (xs.getD o.toNat "") q))
    have h2 := addX_len xs (splice (xs.getD l.toNat "") u (xs.getD o.toNat "") q)
    omega
  have sz := due_sz ik
  refine ⟨_, rfl, ?_⟩
  refine' (fun (er : (fun W : XK => ∀ f, callFt js xs i l u o q = some f → Raised a 0 H2 W f) _) => ite2 (fun c1 => ?g1) (fun c1 => ?g2)) ?er
  case g1 =>
    refine ⟨_, rfl, m, dx, _, rfl, hm2, _, rfl, _, rfl, _, rfl, _, rfl, _, rfl, rfl, ⟨_, hm2⟩, m, dx, b, f, t, n, c, xs, ws, js, cs, i, l, u, o, q, rfl, hm2, d2, by omega, hx, s2 _ _ hc, lc, bx.mono s2, j4, jl, fun f hf => ?e1, fun ok H3 bu3 d3 c3 => ?_⟩
    case e1 =>
      have q := er f hf
      unfold Raised at q ⊢
      exact q
    have k := k ok
    generalize (addX xs (splice (xs.getD l.toNat "") u (xs.getD o.toNat "") q)).idxOf (splice (xs.getD l.toNat "") u (xs.getD o.toNat "") q) = ix at sz k
    refine ⟨small_line (by decide), fun l1 hl1 => ⟨small_line (by show 3 ≤ 100000; decide), fun p1 hp1 => ?_⟩⟩
    have s4 : Same H3 (upd H3 l1 (.lst [])) := same_new (Same.refl _) hl1
    have s5 := same_new (u := .tup [.int ix, .ref l1, .int 0]) s4 hp1
    have l5 := upd_old (u := .tup [.int ix, .ref l1, .int 0]) (upd_same (H := H3) (a := l1) (o := .lst [])) hp1
    have p5 := upd_same (H := upd H3 l1 (.lst [])) (a := p1) (o := .tup [.int ix, .ref l1, .int 0])
    exact ⟨_, rfl, _, dueD ix, rfl, .tup (SqT.of p5) (.cons (.int _) (.cons (.lst (SqL.of l5) .nil) (.cons (.int _) .nil))), sz.sh, Nat.le_trans sz.ln (small_line (by decide)), Nat.le_trans sz.dp (by decide), k _ (fun b o nb e => s5 b o (bu3 b o nb (s2 b o e))) (d3.same s5) (s5 _ _ c3)⟩
  case g2 =>
    refine ⟨_, rfl, m, dx, _, rfl, hm2, _, rfl, _, rfl, _, rfl, _, rfl, _, rfl, ⟨_, hm2⟩, m, dx, b, f, t, n, c, xs, ws, js, cs, i, l, u, o, q, rfl, hm2, d2, by omega, hx, s2 _ _ hc, lc, bx.mono s2, j4, jl, fun f hf => ?e1, fun ok H3 bu3 d3 c3 => ?_⟩
    case e1 =>
      have q := er f hf
      unfold Raised at q ⊢
      exact q
    have k := k ok
    generalize (addX xs (splice (xs.getD l.toNat "") u (xs.getD o.toNat "") q)).idxOf (splice (xs.getD l.toNat "") u (xs.getD o.toNat "") q) = ix at sz k
    refine ⟨small_line (by decide), fun l1 hl1 => ⟨small_line (by show 3 ≤ 100000; decide), fun p1 hp1 => ?_⟩⟩
    have s4 : Same H3 (upd H3 l1 (.lst [])) := same_new (Same.refl _) hl1
    have s5 := same_new (u := .tup [.int ix, .ref l1, .int 0]) s4 hp1
    have l5 := upd_old (u := .tup [.int ix, .ref l1, .int 0]) (upd_same (H := H3) (a := l1) (o := .lst [])) hp1
    have p5 := upd_same (H := upd H3 l1 (.lst [])) (a := p1) (o := .tup [.int ix, .ref l1, .int 0])
    exact ⟨_, rfl, _, dueD ix, rfl, .tup (SqT.of p5) (.cons (.int _) (.cons (.lst (SqL.of l5) .nil) (.cons (.int _) .nil))), sz.sh, Nat.le_trans sz.ln (small_line (by decide)), Nat.le_trans sz.dp (by decide), k _ (fun b o nb e => s5 b o (bu3 b o nb (s2 b o e))) (d3.same s5) (s5 _ _ c3)⟩
  case er =>
    intro f hf H5 d5 s5 hd5
    obtain ⟨kk, z, rfl, k4, k6, hzz⟩ := callFt_num hf
    have zb : z.natAbs ≤ 6000 := hz z (by rcases hzz with rfl | rfl | rfl | rfl | rfl <;> simp)
    have E := fun m h1 h2 => T.isE kk m (by omega) h1 h2
    have I := (T.err kk).isi
    have s6 := same_new (u := .xd [(("value" : Str), .int z)]) (s2.trans s5) hd5
    refine ⟨true, T.isF kk (by omega), fun _ ea hea => ?_, fun z => nomatch z⟩
    refine ⟨_, rfl, _, d5, _, _, _, _, rfl, rfl, rfl, upd_same, I, fun _ z => z, E 1 (by decide) (by decide), ?_⟩
    refine ⟨_, rfl, _, d5, _, _, _, _, rfl, rfl, rfl, upd_same, I, fun _ z => z, E 2 (by decide) (by decide), ?_⟩
    refine ⟨_, rfl, _, d5, _, _, _, _, rfl, rfl, rfl, upd_same, I, fun _ z => z, E 3 (by decide) (by decide), ?_⟩
    refine ⟨by show 3 ≤ sizeLine; decide, fun a1 h1 => ?_⟩
    have x1 := upd_old (u := .lst [.bl (decide (kk = 1)), .bl (decide (kk = 2)), .bl (decide (kk = 3))]) (upd_same (H := H5) (a := d5) (o := .xd [(("value" : Str), .int z)])) h1
    refine ⟨_, rfl, _, rfl, _, d5, _, _, _, _, rfl, rfl, rfl, x1, I, fun _ z => z, E 4 (by decide) (by decide), ?_⟩
    refine ⟨_, rfl, _, d5, _, _, _, _, rfl, rfl, rfl, x1, I, fun _ z => z, E 5 (by decide) (by decide), ?_⟩
    refine ⟨_, rfl, _, d5, _, _, _, _, rfl, rfl, rfl, x1, I, fun _ z => z, E 6 (by decide) (by decide), ?_⟩
    refine ⟨by show 3 ≤ sizeLine; decide, fun a2 h2 => ?_⟩
    refine ⟨_, _, _, _, rfl, rfl, upd_old upd_same h2, upd_same, by show 6 ≤ sizeLine; decide, fun a3 h3 => ?_⟩
    have x2 := upd_old (u := .lst ([.bl (decide (kk = 1)), .bl (decide (kk = 2)), .bl (decide (kk = 3))] ++ [.bl (decide (kk = 4)), .bl (decide (kk = 5)), .bl (decide (kk = 6))])) (upd_old x1 h2) h3
    refine ⟨_, rfl, _, rfl, rfl, _, _, d5, _, rfl, rfl, T.err _, x2, ?_⟩
    refine ⟨by show 3 ≤ sizeLine; decide, fun a5 h5 => ?_⟩
    have s9 := same_new (u := .lst ([.bl (decide (kk = 1)), .bl (decide (kk = 2)), .bl (decide (kk = 3))] ++ [.bl (decide (kk = 4)), .bl (decide (kk = 5)), .bl (decide (kk = 6))])) (same_new (u := .lst [.bl (decide (kk = 4)), .bl (decide (kk = 5)), .bl (decide (kk = 6))]) (same_new (u := .lst [.bl (decide (kk = 1)), .bl (decide (kk = 2)), .bl (decide (kk = 3))]) s6 h1) h2) h3
    have s10 := same_new (u := .tup [.str "", .ref a3, .int z]) s9 h5
    have y3 := upd_old (u := .tup [.str "", .ref a3, .int z]) (upd_same (a := a3) (o := .lst ([.bl (decide (kk = 1)), .bl (decide (kk = 2)), .bl (decide (kk = 3))] ++ [.bl (decide (kk = 4)), .bl (decide (kk = 5)), .bl (decide (kk = 6))]))) h5
    have szE := err_sz (k := kk) zb
    exact ⟨_, rfl, _, errD kk z, rfl, .tup (SqT.of upd_same) (.cons (.str _) (.cons (.lst (SqL.of y3) (.cons (.bl _) (.cons (.bl _) (.cons (.bl _) (.cons (.bl _) (.cons (.bl _) (.cons (.bl _) .nil))))))) (.cons (.int _) .nil))), szE.sh, Nat.le_trans szE.ln (small_line (by decide)), Nat.le_trans szE.dp (by decide), ke kk z hf _ s10⟩
abbrev s_lies_there : Stmt := top 47
theorem sc_lies_there : FnScope ["desk_here", "bench", "words", "count"] ["desk_here", "bench"] (defScope s_lies_there) := ⟨rfl, rfl, rfl, by decide +kernel, rfl, by decide +kernel, by decide +kernel⟩
/-- whether a desk tells the law's films -/
def spLies (K : PySem.W.Frag) (a : Ad) : Sp := fun vs H Q _ => ∃ (m dx b f t n c B b0 b1 b2 b3 : Addr) (xs : List Str) (zs : List Int), vs = [.ref m, .ref B] ∧ H m = some (.ins a.Desk dx (dkF b f t n c)) ∧ DS H f t n c xs ∧ BS H B b0 b1 b2 b3 xs zs ∧ xs.length ≤ 90 ∧ (∀ x ∈ xs, Tx 400 x) ∧ ∀ H', Same H H' → Q (.bl true) H'
theorem ok_lies {f : Addr} {fd fd1 fd2 : FuncData} (F : Fun K "_law_fm_lies_there" "_law_fm_lies_there" s_lies_there f fd) (T : Txt K mg a) (c_Desk_films : Cal P w K mg base 1 a.Desk_films fd1 ["self"] (spDFilms a)) (c_Desk___len__ : Cal P w K mg base 1 a.Desk___len__ fd2 ["self"] (spDLen a)) :
    Gd P w K mg base 3 f fd ["desk_here", "bench"] (spLies K a) := by
  refine okG F sc_lies_there (fun vs H Q E h => by obtain ⟨m, dx, b, f, t, n, c, B, b0, b1, b2, b3, xs, zs, rfl, _⟩ := h; rfl) (fun cdv A outer s H vs Q E hG hr h => ?_)
  have hr_Desk_films := hr.mono (show 1 ≤ 2 by decide)
  have hr_Desk___len__ := hr
  refine ⟨_, (pss_cons (ps_par (i := 2) (j := 3) (by rfl) sc_lies_there.nd rfl rfl (by decide) rfl rfl (pa_cons (pe_meth0 (pv 0) T.c_Desk T.h_Desk_films c_Desk_films.ok hr_Desk_films c_Desk_films.binds .nil pass0) (pa_cons (pe_callB (call_lenO c_Desk___len__.ok hr_Desk___len__ T.l_Desk T.lf_Desk c_Desk___len__.binds) (by rfl) T.b_len PySem.boot_len (pa_cons (pv 0) pa_nil)) pa_nil)) (by rfl))
      (pss_cons (ps_if (PW.pt (pw_or (pt_cmpR op_ne (pe_callB (call_repr hG hr.units) (by rfl) T.b_repr (by decide +kernel) (pa_cons (pv 2) pa_nil)) (pe_callB (call_repr hG hr.units) (by rfl) T.b_repr (by decide +kernel) (pa_cons (pe_ix ix_list (pv 1) pe_int (fun _ _ => rfl)) pa_nil)) (nomark _)) (pw_or1 (pt_cmpR op_ne (pe_callB (call_repr hG hr.units) (by rfl) T.b_repr (by decide +kernel) (pa_cons (pv 3) pa_nil)) (pe_callB (call_repr hG hr.units) (by rfl) T.b_repr (by decide +kernel) (pa_cons (pe_callB call_len_seq (by rfl) T.b_len PySem.boot_len (pa_cons (pe_ix ix_list (pv 1) pe_int (fun _ _ => rfl)) pa_nil)) pa_nil)) (nomark _))))) (pss_one (ps_ret pe_bl)) pss_nil)
      (pss_cons (ps_expr (pe_bm0 PySem.F.plainAttrs_list PySem.F.slot_list_reverse PySem.F.type_list_reverse mt_reverse (pv 2)))
      (pss_cons (ps_expr (pe_bm PySem.F.plainAttrs_list PySem.F.slot_list_append PySem.F.type_list_append mt_append (pv 2) (pa_cons pe_str pa_nil)))
      (pss_one (ps_ret (pe_cmpR op_eq (pe_callB (call_repr hG hr.units) (by rfl) T.b_repr (by decide +kernel) (pa_cons (pe_meth0 (pv 0) T.c_Desk T.h_Desk_films c_Desk_films.ok hr_Desk_films c_Desk_films.binds .nil pass0) pa_nil)) (pe_callB (call_repr hG hr.units) (by rfl) T.b_repr (by decide +kernel) (pa_cons (pe_ix ix_list (pv 1) pe_int (fun _ _ => rfl)) pa_nil)) (nomark _)))))))), ?_⟩
  obtain ⟨m, dx, b, f, t, n, c, B, b0, b1, b2, b3, xs, zs, rfl, hm, d, bs, lx, hx, k⟩ := h
  have szw : Sz 1 400000 (wDat xs) := sz_w (m := 90) (B := 400) hx lx (by decide)
  have hline : 400000 ≤ sizeLine := by rw [sizeLine_eq]; decide
  have szc : Sz 0 12 (.int (xs.length : Int)) := Sz.int (n := 10) (by rw [Int.natAbs_natCast]; omega) (by decide) (by decide)
  have lX : (xs.map V.str).length = xs.length := List.length_map ..
  refine ⟨_, rfl, m, dx, _, rfl, hm, rfl, m, dx, b, f, t, n, c, xs, rfl, hm, d, fun p hp => ?_⟩
  have s1 : Same H (upd H p (.lst (xs.map V.str))) := same_new (Same.refl _) hp
  have p1 := upd_same (H := H) (a := p) (o := .lst (xs.map V.str))
  generalize upd H p _ = H1 at s1 p1
  have rw1 : ∀ H', Same H H' → ∀ q, SqL K H' q (xs.map V.str) → Dp K H' (.ref q) (wDat xs) := fun H' s q e => dp_w e
  have ln := Nat.le_trans szw.ln hline
  have dp := Nat.le_trans szw.dp (show 1 ≤ 60 by decide)
  have bs1 := bs.same s1
  refine ⟨_, rfl, m, dx, _, rfl, s1 _ _ hm, ⟨m, dx, b, f, t, n, c, xs, rfl, s1 _ _ hm, d.same s1, ⟨_, rfl, by omega, _, _, rfl, ?_⟩⟩⟩
  refine ⟨_, rfl, _, wDat xs, rfl, dp_w (SqL.of p1), szw.sh, ln, dp, _, rfl, B, _, 0, _, rfl, rfl, SqL.of bs1.hB, atI_nat (j := 0) rfl, _, wDat xs, rfl, dp_w (SqL.of bs1.h0), szw.sh, ln, dp, rfl, _, rfl, ?_⟩
  refine iteNS rfl ?_
  refine ⟨_, rfl, _, .int (xs.length : Int), rfl, .int _, szc.sh, Nat.le_trans szc.ln (small_line (by decide)), Nat.le_trans szc.dp (by decide), _, rfl, B, _, 0, _, rfl, rfl, SqL.of bs1.hB, atI_nat (j := 0) rfl, b0, _, rfl, .inl (SqL.of bs1.h0), ?_⟩
  rw [lX]
  refine ⟨_, .int (xs.length : Int), rfl, .int _, szc.sh, Nat.le_trans szc.ln (small_line (by decide)), Nat.le_trans szc.dp (by decide), rfl, _, rfl, ?_⟩
  refine iteNS rfl ?_
  refine ⟨_, rfl, .inl ⟨rfl, _, SqL.of p1⟩, p, _, rfl, rfl, p1, ?_⟩
  have s2 := same_mut (u := .lst (xs.map V.str).reverse) s1 hp
  have p2 := upd_same (H := H1) (a := p) (o := .lst (xs.map V.str).reverse)
  generalize upd H1 p _ = H2 at s2 p2
  refine ⟨_, rfl, .inl ⟨rfl, _, SqL.of p2⟩, p, _, _, rfl, rfl, p2, by rw [List.length_reverse, lX]; exact small_lt (by omega), ?_⟩
  have s3 := same_mut (u := .lst ((xs.map V.str).reverse ++ [.str "w"])) s2 hp
  generalize upd H2 p _ = H3 at s3
  refine ⟨_, rfl, m, dx, _, rfl, s3 _ _ hm, rfl, m, dx, b, f, t, n, c, xs, rfl, s3 _ _ hm, d.same s3, fun p4 hp4 => ?_⟩
  have s4 := same_new (u := .lst (xs.map V.str)) s3 hp4
  have bs4 := bs.same s4
  refine ⟨_, wDat xs, rfl, dp_w (SqL.of upd_same), szw.sh, ln, dp, _, rfl, B, _, 0, _, rfl, rfl, SqL.of bs4.hB, atI_nat (j := 0) rfl, _, wDat xs, rfl, dp_w (SqL.of bs4.h0), szw.sh, ln, dp, rfl, ?_⟩
  rw [decide_eq_true rfl]
  exact k _ s4
end
end K52

namespace K52
open PySem PySem.Spec PyProof.Rows L2 Sf
section
variable {P : Program} {w : World} {K : PySem.W.Frag} {mg : Str → Option Value} {base : Heap} {a : Ad}
abbrev s_undone : Stmt := top 46
theorem sc_undone : FnScope ["desk_here", "shows", "e"] ["desk_here"] (defScope s_undone) := ⟨rfl, rfl, rfl, by decide +kernel, rfl, by decide +kernel, by decide +kernel⟩
/-- a call is taken back, what is told of it is not looked at -/
def spUndone (a : Ad) : Sp := fun vs H Q _ => ∃ (m dx b f t n c : Addr) (xs : List Str) (l : List Int) (k : Nat), vs = [.ref m] ∧ H m = some (.ins a.Desk dx (dkF b f t n c)) ∧ DS H f t n c xs ∧ H c = some (.lst ((l ++ [(k : Int)]).map V.int)) ∧ xs.Nodup ∧ xs.length ≤ 1000 ∧ k ≤ xs.length ∧
  ∀ y H', But [f, t, n, c] H H' → DS H' f t n c (xs.take k) → H' c = some (.lst (l.map V.int)) → Q (.str y) H'
theorem ok_undone {f : Addr} {fd fd1 : FuncData} (F : Fun K "_law_fm_undone" "_law_fm_undone" s_undone f fd) (T : Txt K mg a) (c_Desk_undo : CalX P w K mg base 3 a.Desk_undo fd1 ["self"] (spUndo a)) : Gd P w K mg base 5 f fd ["desk_here"] (spUndone a) := by
  refine okG F sc_undone (fun vs H Q E h => by obtain ⟨m, dx, b, f, t, n, c, xs, l, k, rfl, _⟩ := h; rfl) (fun cdv A outer s H vs Q E hG hr h => ?_)
  have hr_Desk_undo := hr.mono (show 3 ≤ 4 by decide)
  refine ⟨_, (pss_cons (ps_set (i := 1) sc_undone.nd rfl (Or.inl rfl) (pe_tup (pa_cons pe_str (pa_cons pe_int pa_nil))))
      (pss_cons (ps_try_as (i := 2) (Wout := fun _ _ _ _ => False) rfl rfl sc_undone.nd rfl rfl ⟨rfl, by decide, Or.inl T.g_NothingToUndo⟩ takes0
      (fun W pn xe tk _ => (pss_one (ps_set (i := 1) sc_undone.nd rfl (Or.inl rfl) (pe_tup (pa_cons (pe_callB (call_reprK (K := K) hG hr.units) (by rfl) T.b_repr (by decide +kernel) (pa_cons (pe_methSE0 (pv 0) T.c_Desk T.h_Desk_undo c_Desk_undo.ok hr_Desk_undo c_Desk_undo.binds (fun σ => passAt tk σ)) pa_nil)) (pa_cons pe_int pa_nil))))))
      (fun ea oe cls d pn hz hf => (pss_one (ps_set (i := 1) sc_undone.nd rfl (Or.inl rfl) (pe_tup (pa_cons pe_str (pa_cons (pe_errv hz hf (pv 2)) pa_nil)))))))
      (pss_one (ps_ret (pe_callB (call_repr hG hr.units) (by rfl) T.b_repr (by decide +kernel) (pa_cons (pv 1) pa_nil)))))), ?_⟩
  obtain ⟨m, dx, b, f, t, n, c, xs, l, k0, rfl, hm, dd, hc, nd, lx, hk, k⟩ := h
  refine ⟨small_line (by show 2 ≤ 100000; decide), fun p0 hp0 => ?_⟩
  have s1 : Same H (upd H p0 (.tup [.str "", .int 0])) := same_new (Same.refl _) hp0
  generalize upd H p0 _ = H1 at s1
  refine ⟨_, rfl, m, dx, _, rfl, s1 _ _ hm, rfl, m, dx, b, f, t, n, c, xs, l ++ [(k0 : Int)], rfl, s1 _ _ hm, dd.same s1, s1 _ _ hc, nd, lx, fun e => absurd e (by simp), fun l' z e => ⟨k0, ?_, hk, fun H' bu d' c' => ?_⟩⟩
  · exact (List.singleton_inj.mp (List.append_inj' e rfl).2).symm
  have el : l' = l := (List.append_inj' e rfl).1.symm
  rw [el] at c'
  have sn : Sz 0 4 .none := Sz.non
  refine ⟨_, .none, rfl, .non, sn.sh, Nat.le_trans sn.ln (small_line (by decide)), Nat.le_trans sn.dp (by decide), ?_⟩
  refine ⟨small_line (by show 2 ≤ 100000; decide), fun p1 hp1 => ⟨_, rfl, ?_⟩⟩
  have s2 := same_new (u := .tup [.str PyData.none.shown, .int 0]) (Same.refl H') hp1
  have e2 := upd_same (H := H') (a := p1) (o := .tup [.str PyData.none.shown, .int 0])
  have ch : ∀ c ∈ PyData.none.shown.cps.toList, c < 16 ^ 8 := by
    simp only [PyData.shown]
    exact lt16 (by decide)
  have a1 : Sz 1 42 (.str PyData.none.shown) := Sz.str (n := 4) ch sn.ln
  have a2 : Sz 1 12 (.int 0) := Sz.int (n := 10) (by decide) (by decide) (by decide)
  have szt : Sz 2 100 (.tuple [.str PyData.none.shown, .int 0]) := (Sz.tuple (.cons a1 (.cons a2 .nil))).mono (by decide) (by decide)
  exact ⟨_, .tuple [.str PyData.none.shown, .int 0], rfl, .tup (SqT.of e2) (.cons (.str _) (.cons (.int _) .nil)), szt.sh, Nat.le_trans szt.ln (small_line (by decide)), Nat.le_trans szt.dp (by decide), k _ _ (fun b o nb e => s2 b o (bu b o nb (s1 b o e))) (d'.same s2) (s2 _ _ c')⟩
end
end K52

namespace K52
open PySem PySem.Spec PyProof.Rows L2 Sf
section
variable {P : Program} {w : World} {K : PySem.W.Frag} {mg : Str → Option Value} {base : Heap} {a : Ad}
abbrev s_any_plan : Stmt := top 48
theorem sc_any_plan : FnScope ["sack", "signs"] ["sack", "signs"] (defScope s_any_plan) := ⟨rfl, rfl, rfl, by decide +kernel, rfl, by decide +kernel, by decide +kernel⟩
def spAnyPlan (K : PySem.W.Frag) : Sp := fun vs H Q _ => ∃ (G : Hp) (sk : Addr) (n : Nat) (s : Str), vs = [.ref sk, .str s] ∧ Same G H ∧ G sk = none ∧ Sk n H sk ∧ n ≤ 90000 ∧ Wd 30 s ∧ 1 ≤ s.length ∧
  ∀ p r g ws js G' H', Sk (n + 5001) H' sk → Ext (· = sk) G H G' H' → PlAt K G' p r g ws js → Rt 28 ws js → (∀ x ∈ ws, x.length ≤ 39) → Q (.ref p) H'
theorem ok_any_plan {f : Addr} {fd fd1 fd2 fd3 : FuncData} (F : Fun K "_law_fm_any_plan" "_law_fm_any_plan" s_any_plan f fd) (T : Txt K mg a) (c_coin : Cal P w K mg base 1 a.coin fd1 ["purse", "many"] spCoin)
    (c_plan : Cal P w K mg base 5 a.plan fd2 ["sack", "signs", "many", "more"] (spPlan K)) (c_great : Cal P w K mg base 5 a.great fd3 ["sack", "signs"] (spGreat K)) : FnOk P w K mg base CX0 6 f fd ["sack", "signs"] (spAnyPlan K) := by
  refine F.ok sc_any_plan (fun vs H Q E h => by obtain ⟨G, sk, n, s, rfl, _⟩ := h; rfl) (fun cdv A outer s H vs Q E hr h => ?_)
  have hr_coin := hr.mono (show 1 ≤ 5 by decide)
  have hr_plan := hr
  have hr_great := hr
  refine ⟨_, (pss_cons (ps_if (pt_cmpR op_gt (pe_call c_coin.ok hr_coin rfl T.g_coin T.k_coin c_coin.binds .nil pass0 (pa_cons (pv 0) (pa_cons pe_int pa_nil))) pe_int (nomark _)) (pss_one (ps_ret (pe_call c_plan.ok hr_plan rfl T.g_plan T.k_plan c_plan.binds .nil pass0 (pa_cons (pv 0) (pa_cons (pv 1) (pa_cons pe_int (pa_cons pe_int pa_nil))))))) pss_nil)
      (pss_one (ps_ret (pe_call c_great.ok hr_great rfl T.g_great T.k_great c_great.binds .nil pass0 (pa_cons (pv 0) (pa_cons (pv 1) pa_nil)))))), ?_⟩
  obtain ⟨G, sk, n, s, rfl, sG, gk, hsk, hn, hs, hs1, k⟩ := h
  refine ⟨_, rfl, sk, n, _, rfl, hsk, by omega, by decide, by decide, fun z H1 z0 z1 sk1 kp1 => ⟨_, _, rfl, rfl, _, rfl, ?_⟩⟩
  have e1 := (Ext.refl (M := (· = sk)) sG).kp kp1 gk sk1.at
  refine ite2 (fun c => ?_) (fun c => ?_)
  · exact ⟨_, rfl, _, rfl, G, sk, n + 1, 4, 3, s, rfl, e1.gh, gk, sk1, by omega, hs, hs1, by decide, by decide, by decide, by decide, fun p r g ws js G2 H2 sk2 x2 pl rt w39 _ => k p r g ws js G2 H2 (sk2.mono (by omega)) (e1.trans x2) pl (rt.mono (by decide)) w39⟩
  · exact ⟨_, rfl, _, rfl, G, sk, n + 1, s, rfl, e1.gh, gk, sk1, by omega, hs, hs1, fun p r g ws js G2 H2 sk2 x2 pl rt w39 _ => k p r g ws js G2 H2 (sk2.mono (by omega)) (e1.trans x2) pl rt w39⟩
/-- a fault of a call as data -/
def faD : Option Ft → List PyData
  | some (.num k z) => [.str (nmF k), .int z]
  | _ => []
theorem dp_fa {H : Hp} : ∀ o : Option Ft, DpAll K H (faV o) (faD o)
  | some (.num k z) => .cons (.str _) (.cons (.int z) .nil)
  | some .rule => .nil
  | some (.piece _) => .nil
  | some (.film _) => .nil
  | none => .nil
theorem nmF_all (k : Nat) : (nmF k).cps.toList.all (fun c => decide (c < 1000)) = true := by
  unfold nmF
  split
  · decide
  · split <;> decide
theorem nmF_ok (k : Nat) : PyData.canLay0 (.str (nmF k)) = true := by
  simp only [PyData.canLay0]
  exact str_ok fun c hc => of_decide_eq_true (List.all_eq_true.mp (nmF_all k) c hc)
theorem shaped_fa : ∀ o : Option Ft, SeqAt.shaped (.list (faD o)) = true
  | some (.num k z) => by
    unfold SeqAt.shaped
    rw [Bool.and_eq_true, decide_eq_true_eq]
    constructor
    · simp only [faD, PyData.canLay0, PyData.canLayAll0, Bool.and_true]
      have := nmF_ok k
      simpa only [PyData.canLay0] using this
    · simp only [faD, PyData.depth, PyData.depthAll]
      decide
  | some .rule => shaped_nil
  | some (.piece _) => shaped_nil
  | some (.film _) => shaped_nil
  | none => shaped_nil
theorem eqv_fa (o : Option Ft) : PyData.eqv (.list (faD o)) (.list []) = (faD o).isEmpty := by
  cases o with
  | none => rfl
  | some f => cases f <;> rfl
theorem orFt_num {x y : Option Ft} {f : Ft} (hx : ∀ f, x = some f → ∃ k z, f = .num k z) (hy : ∀ f, y = some f → ∃ k z, f = .num k z) (h : orFt x y = some f) : ∃ k z, f = .num k z := by
  cases x with
  | none => exact hy f h
  | some g => cases h; exact hx _ rfl
theorem cutFt_num {b : Bool} {z : Int} {f : Ft} (h : cutFt b z = some f) : ∃ k z, f = .num k z := by
  unfold cutFt at h
  split at h
  · cases h
  · cases h; exact ⟨_, _, rfl⟩
theorem fa_none {js : Js} {xs : List Str} {i l u o q : Int} (h : (faD (callFt js xs i l u o q)).isEmpty = true) : callFt js xs i l u o q = none := by
  cases e : callFt js xs i l u o q with
  | none => rfl
  | some f =>
    obtain ⟨k, z, rfl⟩ : ∃ k z, f = .num k z := by
      unfold callFt at e
      split at e
      · cases e; exact ⟨_, _, rfl⟩
      · split at e
        · cases e; exact ⟨_, _, rfl⟩
        · split at e
          · cases e; exact ⟨_, _, rfl⟩
          · exact orFt_num (fun _ => cutFt_num) (fun _ => cutFt_num) e
    rw [e] at h
    cases h
/-- what a call that is let says of its numbers -/
theorem let_facts {js : Js} {xs : List Str} {i u q : Int} {l o : Nat} (h : callFt js xs i l u o q = none) : l < xs.length ∧ o < xs.length ∧ 0 ≤ u ∧ u ≤ (xs.getD l "").length ∧ 0 ≤ q ∧ q ≤ (xs.getD o "").length := by
  unfold callFt at h
  split at h
  · cases h
  · split at h
    · cases h
    · rename_i a b
      split at h
      · cases h
      · rename_i c
        have b := Classical.not_not.mp b
        have c := Classical.not_not.mp c
        simp only [Int.toNat_natCast] at h
        have st : ∀ {l r x : Str} {z : Int}, cutFt (stZ l r x z) z = none → 0 ≤ z ∧ z ≤ x.length := fun {l r x z} q => by
          unfold cutFt at q
          split at q
          · rename_i e
            unfold stZ at e
            split at e
            · assumption
            · cases e
          · cases q
        cases e1 : cutFt (stZ ((((js[i.toNat]?).map (·.2)).getD []).getD 0 "") ((((js[i.toNat]?).map (·.2)).getD []).getD 1 "") (xs.getD l "") u) u with
        | some f => rw [e1] at h; cases h
        | none =>
          rw [e1, or_none] at h
          exact ⟨by exact_mod_cast b.2, by exact_mod_cast c.2, (st e1).1, (st e1).2, (st h).1, (st h).2⟩
theorem splice_len {x y : Str} {u q : Int} (u0 : 0 ≤ u) (u1 : u ≤ x.length) (q0 : 0 ≤ q) (q1 : q ≤ y.length) : ((splice x u y q).length : Int) = u + y.length - q := by
  obtain ⟨u, rfl⟩ := nat_of u0
  obtain ⟨q, rfl⟩ := nat_of q0
  unfold splice
  rw [Str.length_append, len_cut_to (by omega), len_cut_from (by omega)]
  omega
/-- a new desk of a right box -/
theorem desk_made {H : Hp} {b x dx : Addr} {ws : List Str} {js : Js} {R : Hp → Prop} {E : XK} (hx : H x = none) (hd : H dx = none) (nd : dx ≠ x) (bx : BoxAt K a H b ws js) (lw : ws.length ≤ 1000)
    (k : ∀ H' f t n c, H f = none → H t = none → H n = none → H c = none → Same H H' → H' x = some (.ins a.Desk dx (dkF b f t n c)) → DS H' f t n c (addAll [] ws) → H' c = some (.lst []) → R H') : spDInit K a [.ref x, .ref b] (upd (upd H dx (.own x)) x (.ins a.Desk dx [])) (fun v H2 => v = .non ∧ R H2) E := by
  have hx' : upd H dx (.own x) x = none := by rw [upd_ne nd.symm]; exact hx
  have s1 : Same H (upd (upd H dx (.own x)) x (.ins a.Desk dx [])) := same_new (same_new (Same.refl _) hd) hx'
  refine ⟨x, dx, b, ws, js, rfl, upd_same, bx.mono s1, lw, fun H' f t n c hf ht hn hc kp hm dd cc => ⟨rfl, ?_⟩⟩
  exact k H' f t n c (same_none s1 hf) (same_none s1 ht) (same_none s1 hn) (same_none s1 hc) (fun b o h => kp b o (ne_of_none h hx) (s1 b o h)) hm dd cc
/-- a desk, its box and plan, the law's desk of it -/
structure Row where
  (m dx bm f t n c p r g B b0 b1 b2 b3 : Addr)
  (ws : List Str)
  (js : Js)
/-- what of a row changes -/
def Row.own (e : Row) : List Addr := [e.f, e.t, e.n, e.c, e.b0, e.b1, e.b2, e.b3]
def Row.all (e : Row) : List Addr := e.m :: e.B :: e.own
/-- a row as it stands: its films, their numbers of splices, the marks of its calls -/
structure RowAt (K : PySem.W.Frag) (a : Ad) (H : Hp) (e : Row) (xs : List Str) (zs ms : List Int) : Prop where
  hm : H e.m = some (.ins a.Desk e.dx (dkF e.bm e.f e.t e.n e.c))
  ds : DS H e.f e.t e.n e.c xs
  hc : H e.c = some (.lst (ms.map V.int))
  bs : BS H e.B e.b0 e.b1 e.b2 e.b3 xs zs
  h3 : H e.b3 = some (.lst (ms.map V.int))
  n30 : e.b3 ≠ e.b0
  n31 : e.b3 ≠ e.b1
  n32 : e.b3 ≠ e.b2
  n3B : e.b3 ≠ e.B
  nd : xs.Nodup
  wd : ∀ x ∈ xs, Wd 400 x
  z0 : ∀ z ∈ zs, 0 ≤ z
  mks : ∀ (l r : List Int) (z : Int), ms = l ++ z :: r → ∃ k : Nat, z = k ∧ k ≤ xs.length ∧ ∀ y ∈ l, y ≤ z
theorem RowAt.but {H H' : Hp} {e : Row} {xs : List Str} {zs ms : List Int} {X : List Addr} (h : RowAt K a H e xs zs ms) (b : But X H H') (no : ∀ q ∈ e.all, q ∉ X) : RowAt K a H' e xs zs ms := by
  have o : ∀ {q : Addr}, q ∈ e.own → q ∉ X := fun m => no _ (List.mem_cons_of_mem _ (List.mem_cons_of_mem _ m))
  have oB : e.B ∉ X := no _ (List.mem_cons_of_mem _ List.mem_cons_self)
  have f0 : e.f ∈ e.own := by unfold Row.own; simp
  have t0 : e.t ∈ e.own := by unfold Row.own; simp
  have n0 : e.n ∈ e.own := by unfold Row.own; simp
  have c0 : e.c ∈ e.own := by unfold Row.own; simp
  have q0 : e.b0 ∈ e.own := by unfold Row.own; simp
  have q1 : e.b1 ∈ e.own := by unfold Row.own; simp
  have q2 : e.b2 ∈ e.own := by unfold Row.own; simp
  have q3 : e.b3 ∈ e.own := by unfold Row.own; simp
  exact ⟨b _ _ (no _ List.mem_cons_self) h.hm, h.ds.but b (o f0) (o t0) (o n0) (o c0), b _ _ (o c0) h.hc, h.bs.but b oB (o q0) (o q1) (o q2), b _ _ (o q3) h.h3, h.n30, h.n31, h.n32, h.n3B, h.nd, h.wd, h.z0, h.mks⟩
theorem RowAt.same {H H' : Hp} {e : Row} {xs : List Str} {zs ms : List Int} (h : RowAt K a H e xs zs ms) (s : Same H H') : RowAt K a H' e xs zs ms := h.but (X := []) (But.ofSame s) fun _ _ z => by cases z
/-- a film more keeps the films apart -/
theorem addX_nodup {xs : List Str} {x : Str} (h : xs.Nodup) : (addX xs x).Nodup := by
  by_cases m : x ∈ xs
  · rw [addX_in m]; exact h
  · rw [addX_new m, List.nodup_append]
    exact ⟨h, List.nodup_cons.mpr ⟨List.not_mem_nil, List.nodup_nil⟩, fun y hy z hz e => by rw [List.mem_singleton.mp hz] at e; rw [e] at hy; exact m hy⟩
theorem addAll_nodup : ∀ (ws xs : List Str), xs.Nodup → (addAll xs ws).Nodup
  | [], xs, h => h
  | w :: r, xs, h => addAll_nodup r (addX xs w) (addX_nodup h)
/-- the marks behind a call -/
theorem mks_app {xs ys : List Str} {ms : List Int} (h : ∀ (l r : List Int) (z : Int), ms = l ++ z :: r → ∃ k : Nat, z = k ∧ k ≤ xs.length ∧ ∀ y ∈ l, y ≤ z) (le : xs.length ≤ ys.length) : ∀ (l r : List Int) (z : Int), ms ++ [(xs.length : Int)] = l ++ z :: r → ∃ k : Nat, z = k ∧ k ≤ ys.length ∧ ∀ y ∈ l, y ≤ z := by
  intro l r z e
  rcases List.eq_nil_or_concat r with e0 | ⟨r', w', e0⟩
  · subst e0
    have q := List.append_inj' e rfl
    have ez : (xs.length : Int) = z := List.singleton_inj.mp q.2
    refine ⟨xs.length, ez.symm, le, fun y hy => ?_⟩
    rw [← q.1] at hy
    obtain ⟨l1, r1, e1⟩ := List.append_of_mem hy
    obtain ⟨k, rfl, hk, _⟩ := h l1 r1 y e1
    rw [← ez]
    exact_mod_cast hk
  · subst e0
    rw [List.concat_eq_append] at e
    have e' : ms ++ [(xs.length : Int)] = (l ++ z :: r') ++ [w'] := by rw [e]; simp
    have q := (List.append_inj' e' rfl).1
    obtain ⟨k, ez, hk, hl⟩ := h l r' z q
    exact ⟨k, ez, Nat.le_trans hk le, hl⟩
/-- the marks behind a call that is taken back -/
theorem mks_back {xs : List Str} {l : List Int} {k0 : Nat} (h : ∀ (l1 r : List Int) (z : Int), l ++ [(k0 : Int)] = l1 ++ z :: r → ∃ k : Nat, z = k ∧ k ≤ xs.length ∧ ∀ y ∈ l1, y ≤ z) : k0 ≤ xs.length ∧ ∀ (l1 r : List Int) (z : Int), l = l1 ++ z :: r → ∃ k : Nat, z = k ∧ k ≤ (xs.take k0).length ∧ ∀ y ∈ l1, y ≤ z := by
  obtain ⟨k, ek, hk, hl⟩ := h l [] k0 rfl
  have : k0 = k := by exact_mod_cast ek
  subst this
  refine ⟨hk, fun l1 r z e => ?_⟩
  obtain ⟨k1, ez, hk1, hl1⟩ := h l1 (r ++ [(k0 : Int)]) z (by rw [e]; simp)
  refine ⟨k1, ez, ?_, hl1⟩
  have := hl z (by rw [e]; simp)
  rw [List.length_take]
  omega
/-- what is apart in a row -/
theorem Row.apart {e : Row} (h : e.all.Nodup) : (e.m ∉ [e.b0, e.b1, e.b2] ∧ e.m ∉ [e.b3] ∧ e.m ∉ [e.f, e.t, e.n, e.c]) ∧ (e.B ∉ [e.b3] ∧ e.B ∉ [e.f, e.t, e.n, e.c]) ∧ (∀ q ∈ [e.b0, e.b1, e.b2], q ∉ [e.b3] ∧ q ∉ [e.f, e.t, e.n, e.c]) ∧ (e.b3 ∉ [e.f, e.t, e.n, e.c]) ∧ (∀ q ∈ [e.f, e.t, e.n, e.c], q ∉ [e.b0, e.b1, e.b2, e.b3]) ∧ e.m ∉ [e.b0, e.b1, e.b2, e.b3] ∧ e.b3 ∉ [e.b0, e.b1, e.b2] := by
  unfold Row.all Row.own at h
  simp only [List.nodup_cons, List.mem_cons, List.not_mem_nil, or_false, not_or] at h
  simp only [List.mem_cons, List.not_mem_nil, or_false, not_or]
  obtain ⟨⟨_, _, _, _, _, _, _, _, _⟩, ⟨_, _, _, _, _, _, _, _⟩, ⟨_, _, _, _, _, _, _⟩, ⟨_, _, _, _, _, _⟩, ⟨_, _, _, _, _⟩, ⟨_, _, _, _⟩, ⟨_, _, _⟩, ⟨_, _⟩, _, _⟩ := h
  refine ⟨?g1, ?g2, ?g3, ?g4, ?g5, ?g6, ?g7⟩
  case g3 =>
    rintro q (rfl | rfl | rfl) <;> refine ⟨?_, ?_, ?_, ?_, ?_⟩ <;> first
      | assumption
      | (intro z; exact absurd z.symm (by assumption))
  case g5 =>
    rintro q (rfl | rfl | rfl | rfl) <;> refine ⟨?_, ?_, ?_, ?_⟩ <;> first
      | assumption
      | (intro z; exact absurd z.symm (by assumption))
  all_goals (repeat' apply And.intro)
  all_goals first
    | assumption
    | (intro z; exact absurd z.symm (by assumption))
/-- a call that is let, done on the law's desk, marked, done on the desk -/
theorem RowAt.done {H H1 H2 H3 : Hp} {e : Row} {xs : List Str} {zs ms : List Int} {x : Str} {z : Int} (h : RowAt K a H e xs zs ms) (nd : e.all.Nodup) (wx : Wd 400 x) (hz : 0 ≤ z)
    (b1 : But [e.b0, e.b1, e.b2] H H1) (s1 : BS H1 e.B e.b0 e.b1 e.b2 e.b3 (addX xs x) (addZ xs zs x z)) (b2 : But [e.b3] H1 H2) (m2 : H2 e.b3 = some (.lst ((ms ++ [(xs.length : Int)]).map V.int)))
    (b3 : But [e.f, e.t, e.n, e.c] H2 H3) (d3 : DS H3 e.f e.t e.n e.c (addX xs x)) (c3 : H3 e.c = some (.lst ((ms ++ [(xs.length : Int)]).map V.int))) : RowAt K a H3 e (addX xs x) (addZ xs zs x z) (ms ++ [(xs.length : Int)]) ∧ But e.own H H3 := by
  obtain ⟨⟨a1, a2, a3⟩, ⟨a4, a5⟩, a6, a7, a8, _, _⟩ := Row.apart nd
  have le : xs.length ≤ (addX xs x).length := by
    unfold addX
    split
    · exact Nat.le_refl _
    · rw [List.length_append]; omega
  have q0 := a6 e.b0 (by simp)
  have q1 := a6 e.b1 (by simp)
  have q2 := a6 e.b2 (by simp)
  refine ⟨⟨b3 _ _ a3 (b2 _ _ a2 (b1 _ _ a1 h.hm)), d3, c3, (s1.but b2 a4 q0.1 q1.1 q2.1).but b3 a5 q0.2 q1.2 q2.2, b3 _ _ a7 m2, h.n30, h.n31, h.n32, h.n3B, addX_nodup h.nd, fun y hy => ?_, fun y hy => ?_, mks_app h.mks le⟩, ?_⟩
  · rcases addX_mem hy with q | q
    · exact h.wd y q
    · rw [q]; exact wx
  · rcases addZ_mem hy with q | q
    · exact h.z0 y q
    · rw [q]; exact hz
  · have s : ∀ {Y : List Addr}, (∀ y ∈ Y, y ∈ e.own) → ∀ {G1 G2 : Hp}, But Y G1 G2 → But e.own G1 G2 := fun h _ _ b => b.sub h
    refine ((s ?_ b1).trans (s ?_ b2)).trans (s ?_ b3)
    · intro y hy; unfold Row.own; simp at hy ⊢; rcases hy with rfl | rfl | rfl <;> simp
    · intro y hy; unfold Row.own; simp at hy ⊢; rw [hy]; simp
    · intro y hy; unfold Row.own; simp at hy ⊢; rcases hy with rfl | rfl | rfl | rfl <;> simp
/-- the last call taken back, on both desks -/
theorem RowAt.back {H H1 H3 : Hp} {e : Row} {xs : List Str} {zs l : List Int} {k0 : Nat} (h : RowAt K a H e xs zs (l ++ [(k0 : Int)])) (nd : e.all.Nodup)
    (b1 : But [e.b0, e.b1, e.b2, e.b3] H H1) (s1 : BS H1 e.B e.b0 e.b1 e.b2 e.b3 (xs.take k0) (zs.take k0)) (m1 : H1 e.b3 = some (.lst (l.map V.int)))
    (b3 : But [e.f, e.t, e.n, e.c] H1 H3) (d3 : DS H3 e.f e.t e.n e.c (xs.take k0)) (c3 : H3 e.c = some (.lst (l.map V.int))) : RowAt K a H3 e (xs.take k0) (zs.take k0) l ∧ But e.own H H3 := by
  obtain ⟨⟨a1, a2, a3⟩, ⟨a4, a5⟩, a6, a7, a8, a9, _⟩ := Row.apart nd
  have q0 := a6 e.b0 (by simp)
  have q1 := a6 e.b1 (by simp)
  have q2 := a6 e.b2 (by simp)
  refine ⟨⟨b3 _ _ a3 (b1 _ _ a9 h.hm), d3, c3, s1.but b3 a5 q0.2 q1.2 q2.2, b3 _ _ a7 m1, h.n30, h.n31, h.n32, h.n3B, List.Sublist.nodup (List.take_sublist _ _) h.nd, fun y hy => h.wd y (List.mem_of_mem_take hy), fun y hy => h.z0 y (List.mem_of_mem_take hy), (mks_back h.mks).2⟩, ?_⟩
  have s : ∀ {Y : List Addr}, (∀ y ∈ Y, y ∈ e.own) → ∀ {G1 G2 : Hp}, But Y G1 G2 → But e.own G1 G2 := fun h _ _ b => b.sub h
  refine (s ?_ b1).trans (s ?_ b3)
  · intro y hy; unfold Row.own; simp at hy ⊢; rcases hy with rfl | rfl | rfl | rfl <;> simp
  · intro y hy; unfold Row.own; simp at hy ⊢; rcases hy with rfl | rfl | rfl | rfl <;> simp
theorem choose_list {α β : Type} {P : α → β → Prop} : ∀ (es : List α), (∀ e ∈ es, ∃ t, P e t) → ∃ ts : List β, ts.length = es.length ∧ ∀ (j : Nat) e t, es[j]? = some e → ts[j]? = some t → P e t
  | [], _ => ⟨[], rfl, fun j e t h => by simp at h⟩
  | e :: r, h => by
    obtain ⟨t, ht⟩ := h e List.mem_cons_self
    obtain ⟨ts, l, q⟩ := choose_list r fun x hx => h x (List.mem_cons_of_mem _ hx)
    refine ⟨t :: ts, by rw [List.length_cons, List.length_cons, l], fun j e' t' h1 h2 => ?_⟩
    cases j with
    | zero => cases h1; cases h2; exact ht
    | succ j => exact q j e' t' h1 h2
end
end K52

namespace K52
open PySem PySem.Spec PyProof.Rows L2 Sf
section
variable {P : Program} {w : World} {K : PySem.W.Frag} {mg : Str → Option Value} {base : Heap} {a : Ad}
/-- a turn of the law: all rows stand, what stood is but for what changes in rows -/
structure Tn (K : PySem.W.Frag) (a : Ad) (es : List (Addr × Row)) (sk : Addr) (H0 H : Hp) (c wd mk : Nat) (ts : List (List Str × List Int × List Int)) : Prop where
  bu : But (sk :: es.flatMap fun e => e.2.own) H0 H
  sk : Sk c H sk
  l3 : ts.length = es.length
  rw : ∀ (j : Nat) e t, es[j]? = some e → ts[j]? = some t → RowAt K a H e.2 t.1 t.2.1 t.2.2 ∧ t.1.length ≤ wd ∧ t.2.2.length ≤ mk
theorem Tn.same {es : List (Addr × Row)} {sk : Addr} {H0 H H' : Hp} {c wd mk : Nat} {ts : List (List Str × List Int × List Int)} (h : Tn K a es sk H0 H c wd mk ts) (s : Same H H') : Tn K a es sk H0 H' c wd mk ts :=
  ⟨h.bu.trans (But.ofSame s), sk_same h.sk s, h.l3, fun j e t x y => ⟨(h.rw j e t x y).1.same s, (h.rw j e t x y).2⟩⟩
theorem Tn.mono {es : List (Addr × Row)} {sk : Addr} {H0 H : Hp} {c wd mk c' wd' mk' : Nat} {ts : List (List Str × List Int × List Int)} (h : Tn K a es sk H0 H c wd mk ts) (c1 : c ≤ c') (c2 : wd ≤ wd') (c3 : mk ≤ mk') : Tn K a es sk H0 H c' wd' mk' ts :=
  ⟨h.bu, h.sk.mono c1, h.l3, fun j e t x y => ⟨(h.rw j e t x y).1, Nat.le_trans (h.rw j e t x y).2.1 c2, Nat.le_trans (h.rw j e t x y).2.2 c3⟩⟩
theorem Tn.kp {es : List (Addr × Row)} {sk : Addr} {H0 H H' : Hp} {c c' wd mk : Nat} {ts : List (List Str × List Int × List Int)} (h : Tn K a es sk H0 H c wd mk ts) (k : Kp sk H H') (s : Sk c' H' sk) (no : ∀ e ∈ es, sk ∉ e.2.all) : Tn K a es sk H0 H' c' wd mk ts :=
  ⟨h.bu.trans (But.ofKp k List.mem_cons_self), s, h.l3, fun j e t x y => ⟨(h.rw j e t x y).1.but (X := [sk]) (But.ofKp k (List.mem_singleton.mpr rfl)) (fun q hq z => no e (List.mem_of_getElem? x) (by rw [← List.mem_singleton.mp z]; exact hq)), (h.rw j e t x y).2⟩⟩
theorem Tn.one {es : List (Addr × Row)} {sk : Addr} {H0 H H' : Hp} {c wd mk wd' mk' : Nat} {ts : List (List Str × List Int × List Int)} {z : Nat} {v : Addr × Row} {t : List Str × List Int × List Int} (h : Tn K a es sk H0 H c wd mk ts) (pw : es.Pairwise (fun d e => ∀ v ∈ d.2.all, v ∉ e.2.all)) (no : ∀ e ∈ es, sk ∉ e.2.all)
    (ez : es[z]? = some v) (r : RowAt K a H' v.2 t.1 t.2.1 t.2.2) (b : But v.2.own H H') (l1 : t.1.length ≤ wd') (l2 : t.2.2.length ≤ mk') (w1 : wd ≤ wd') (w2 : mk ≤ mk') : Tn K a es sk H0 H' c wd' mk' (ts.set z t) := by
  have mz := List.mem_of_getElem? ez
  have oa : ∀ {e : Row} {q : Addr}, q ∈ e.own → q ∈ e.all := fun m => List.mem_cons_of_mem _ (List.mem_cons_of_mem _ m)
  refine ⟨h.bu.trans (b.sub fun q hq => List.mem_cons_of_mem _ (List.mem_flatMap.mpr ⟨v, mz, hq⟩)), ?_, by rw [List.length_set]; exact h.l3, fun j e t' x y => ?_⟩
  · obtain ⟨y1, y2, y3, e, r⟩ := h.sk
    exact ⟨y1, y2, y3, b _ _ (fun q => no v mz (oa q)) e, r⟩
  · by_cases jz : z = j
    · subst jz
      rw [ez] at x
      cases x
      have lt : z < ts.length := by rw [h.l3]; exact (List.getElem?_eq_some_iff.mp ez).1
      rw [List.getElem?_set_self lt] at y
      cases y
      exact ⟨r, l1, l2⟩
    · rw [List.getElem?_set_ne jz] at y
      have q := h.rw j e t' x y
      refine ⟨q.1.but b fun u hu hv => ?_, Nat.le_trans q.2.1 w1, Nat.le_trans q.2.2 w2⟩
      have pg := List.pairwise_iff_getElem.mp pw
      obtain ⟨lj, ej⟩ := List.getElem?_eq_some_iff.mp x
      obtain ⟨lz, ezz⟩ := List.getElem?_eq_some_iff.mp ez
      rcases Nat.lt_or_gt_of_ne jz with d | d
      · have := pg z j lz lj d
        rw [ej, ezz] at this
        exact this u (oa hv) hu
      · have := pg j z lj lz d
        rw [ej, ezz] at this
        exact this u hu (oa hv)
theorem RowAt.own_no {H : Hp} {e : Row} {xs : List Str} {zs ms : List Int} (h : RowAt K a H e xs zs ms) {d : Addr} {ys : List V} (hd : H d = some (.tup ys)) : d ∉ e.own := fun m => by
  obtain ⟨td, etd, _⟩ := h.ds.ht
  obtain ⟨tb, etb, _⟩ := h.bs.h1
  have k : ∀ {q : Addr} {u : HO}, H q = some u → (∀ zs, u ≠ .tup zs) → d ≠ q := fun h1 h2 z => by
    rw [← z, hd] at h1
    exact h2 _ (Option.some.inj h1).symm
  unfold Row.own at m
  simp at m
  rcases m with z | z | z | z | z | z | z | z
  · exact k h.ds.hf (by intro _ q; cases q) z
  · exact k etd (by intro _ q; cases q) z
  · exact k h.ds.hn (by intro _ q; cases q) z
  · exact k h.hc (by intro _ q; cases q) z
  · exact k h.bs.h0 (by intro _ q; cases q) z
  · exact k etb (by intro _ q; cases q) z
  · exact k h.bs.h2 (by intro _ q; cases q) z
  · exact k h.h3 (by intro _ q; cases q) z
theorem shaped_ints (ns : List Int) : SeqAt.shaped (.list (ns.map PyData.int)) = true := by
  unfold SeqAt.shaped
  rw [Bool.and_eq_true, decide_eq_true_eq]
  have h1 : ∀ ns : List Int, PyData.canLayAll0 (ns.map PyData.int) = true := fun ns => by
    induction ns with
    | nil => rfl
    | cons x r ih =>
      rw [List.map_cons]
      show (PyData.canLay0 (.int x) && PyData.canLayAll0 (r.map PyData.int)) = true
      rw [ih]
      rfl
  have h2 : ∀ ns : List Int, PyData.depthAll (ns.map PyData.int) ≤ 1 := fun ns => by
    induction ns with
    | nil => decide
    | cons x r ih =>
      rw [List.map_cons]
      simp only [PyData.depthAll, PyData.depth]
      omega
  refine ⟨h1 ns, ?_⟩
  have := h2 ns
  simp only [PyData.depth]
  omega
theorem eqv_ints_nil (ns : List Int) : PyData.eqv (.list (ns.map PyData.int)) (.list []) = ns.isEmpty := by
  cases ns <;> rfl
theorem sz_plan {k : Nat} {ws1 : List Str} {js1 : Js} (r : Rt k ws1 js1) (hk : k ≤ 40) : Sz 3 100000 (.tuple [wDat ws1, jDat js1]) := by
  have szw : Sz 1 20000 (wDat ws1) := sz_w (m := 40) (B := 40) (fun x hx => (r.wd x hx).1.tx) (Nat.le_trans r.wn hk) (by decide)
  have szj : Sz 2 50000 (jDat js1) := sz_j (m := 40) r.jd (Nat.le_trans r.jn hk) (by decide)
  exact (Sz.tuple (SzAll.cons (szw.mono (show 1 ≤ 2 by decide) (Nat.le_refl _)) (SzAll.cons szj SzAll.nil))).mono (Nat.le_refl _) (by decide)
theorem dp_plan {H' : Hp} {q r1 g1 : Addr} {ws1 : List Str} {js1 : Js} (p : PlAt K H' q r1 g1 ws1 js1) : Dp K H' (.ref q) (.tuple [wDat ws1, jDat js1]) := .tup p.p (.cons (dp_w (.inl p.r)) (.cons (dp_j (.inl p.g) p.j) .nil))
/-- two desks as they stand are compared -/
theorem desks_eq {H : Hp} {d e : Row} {xs ys : List Str} {zs ms us ns : List Int} {Q : VK} (T : Txt K mg a) (h : RowAt K a H d xs zs ms) (k : RowAt K a H e ys us ns) (b1 : BoxAt K a H d.bm d.ws d.js) (b2 : BoxAt K a H e.bm e.ws e.js) (r1 : Rt 40 d.ws d.js) (r2 : Rt 40 e.ws e.js)
    (q : ∀ H', Same H H' → Q (.bl (eqB d.ws e.ws d.js e.js && decide (xs = ys))) H') : rEqO K a.Desk (spDEq K a) (.ref d.m) (.ref e.m) H Q :=
  ⟨d.m, d.dx, _, _, rfl, h.hm, .base (.ins k.hm T.c_Desk T.kl_Desk T.spO T.tkO T.ob_Desk), first_self, d.m, d.dx, d.bm, d.f, d.t, d.n, d.c, .ref e.m, d.ws, d.js, xs, rfl, h.hm, h.ds, b1, r1.any5 (by decide), fun x hx => ((h.wd x hx).tx).mono (by decide),
    .inl ⟨e.m, e.dx, e.bm, e.f, e.t, e.n, e.c, e.ws, e.js, ys, rfl, k.hm, k.ds, b2, r2.any5 (by decide), fun x hx => ((k.wd x hx).tx).mono (by decide), q⟩⟩
abbrev s_right : Stmt := top 49
theorem sc_right : FnScope ["sack", "signs", "plan", "near", "rows", "some", "deed", "turn", "desk_here", "bench", "fault", "mark", "one", "mate", "due", "made", "words", "flags"] ["sack"] (defScope s_right) := ⟨rfl, rfl, rfl, by decide +kernel, rfl, by decide +kernel, by decide +kernel⟩
def spRight (K : PySem.W.Frag) : Sp := fun vs H Q _ => ∃ (sk : Addr) (n : Nat), vs = [.ref sk] ∧ Sk n H sk ∧ n ≤ 1000 ∧ ∀ H', Kp sk H H' → Q (.bl true) H'
/-- a row as it is made: what of it is settled (G), what of it is led (H) -/
structure RowOk (K : PySem.W.Frag) (a : Ad) (Hq G H : Hp) (ro : Addr) (q : Addr) (e : Row) : Prop where
  tp : SqT K G q [.ref e.m, .ref e.p, .ref e.B]
  bx : BoxAt K a G e.bm e.ws e.js
  pl : PlAt K G e.p e.r e.g e.ws e.js
  rt : Rt 40 e.ws e.js
  nd : e.all.Nodup
  gn : ∀ v ∈ e.own, G v = none
  fr : ∀ v ∈ e.all, Hq v = none ∧ v ≠ ro
  oc : ∀ v ∈ e.all, ∃ u, H v = some u
  rw : ∃ zs, RowAt K a H e (addAll [] e.ws) zs []
theorem RowOk.up {Hq G H G' H' : Hp} {ro q : Addr} {e : Row} (h : RowOk K a Hq G H ro q e) (gg : Same G G') (no : ∀ b o, H b = some o → G b = none → G' b = none) (bu : But [ro] H H') : RowOk K a Hq G' H' ro q e := by
  have nr : ∀ v ∈ e.all, v ∉ [ro] := fun v hv z => (h.fr v hv).2 (List.mem_singleton.mp z)
  refine ⟨sameT gg h.tp, h.bx.mono gg, h.pl.mono gg, h.rt, h.nd, fun v hv => ?_, h.fr, fun v hv => ?_, ?_⟩
  · obtain ⟨u, hu⟩ := h.oc v (List.mem_cons_of_mem _ (List.mem_cons_of_mem _ hv))
    exact no v u hu (h.gn v hv)
  · obtain ⟨u, hu⟩ := h.oc v hv
    exact ⟨u, bu v u (nr v hv) hu⟩
  · obtain ⟨zs, r⟩ := h.rw
    exact ⟨zs, r.but bu nr⟩
theorem ok_right {f : Addr} {fd fd1 fd2 fd3 fd4 fd5 fd6 fd7 fd8 fd9 fd10 fd11 fd12 fd13 fd14 fd15 fd16 fd17 fd18 : FuncData} (F : Fun K "_law_right" "_law_right" s_right f fd) (T : Txt K mg a) (c_coin : Cal P w K mg base 1 a.coin fd1 ["purse", "many"] spCoin) (c_signs : Cal P w K mg base 2 a.signs fd2 ["sack", "high"] spSigns)
    (c_any_plan : Cal P w K mg base 6 a.any_plan fd3 ["sack", "signs"] (spAnyPlan K)) (c_made : Cal P w K mg base 7 a.made fd4 ["plan"] (spMade K a)) (c_bench : Cal P w K mg base 2 a.bench fd5 ["plan"] (spBench K)) (c_Desk___init__ : Cal P w K mg base 3 a.Desk___init__ fd6 ["self", "box"] (spDInit K a))
    (c_near : Cal P w K mg base 5 a.near fd7 ["sack", "plan", "signs"] (spNear K)) (c_lies_there : CalG P w K mg base 3 a.lies_there fd8 ["desk_here", "bench"] (spLies K a)) (c_deed : Cal P w K mg base 2 a.deed fd9 ["sack", "plan", "bench"] (spDeed K))
    (c_call_fault : Cal P w K mg base 2 a.call_fault fd10 ["plan", "bench", "deed"] (spCF K)) (c_fits : Cal P w K mg base 1 a.fits fd11 ["bench", "deed", "longest_here", "high"] (spFits K)) (c_do_ : Cal P w K mg base 2 a.do_ fd12 ["bench", "deed"] (spDo K)) (c_called : CalG P w K mg base 7 a.called fd13 ["desk_here", "deed", "by_name"] (spCalled K a))
    (c_takes_back : Cal P w K mg base 1 a.takes_back fd14 ["bench"] spTakes) (c_undone : CalG P w K mg base 5 a.undone fd15 ["desk_here"] (spUndone a)) (c_Desk___eq__ : Cal P w K mg base 2 a.Desk___eq__ fd16 ["self", "other"] (spDEq K a)) (c_Box___eq__ : Cal P w K mg base 1 a.Box___eq__ fd17 ["self", "other"] (spBoxEq K a))
    (c_Desk_films : Cal P w K mg base 1 a.Desk_films fd18 ["self"] (spDFilms a)) : Gd P w K mg base 9 f fd ["sack"] (spRight K) := by
  refine okG F sc_right (fun vs H Q E h => by obtain ⟨sk, n, rfl, _⟩ := h; rfl) (fun cdv A outer s H vs Q E hG hr h => ?_)
  have hr_coin := hr.mono (show 1 ≤ 8 by decide)
  have hr_signs := hr.mono (show 2 ≤ 8 by decide)
  have hr_any_plan := hr.mono (show 6 ≤ 8 by decide)
  have hr_made := hr.mono (show 7 ≤ 8 by decide)
  have hr_bench := hr.mono (show 2 ≤ 8 by decide)
  have hr_near := hr.mono (show 5 ≤ 8 by decide)
  have hr_Desk___init__ := hr.mono (show 4 ≤ 8 by decide)
  have hr_lies_there := hr.mono (show 3 ≤ 8 by decide)
  have hr_deed := hr.mono (show 2 ≤ 8 by decide)
  have hr_call_fault := hr.mono (show 2 ≤ 8 by decide)
  have hr_fits := hr.mono (show 1 ≤ 8 by decide)
  have hr_do_ := hr.mono (show 2 ≤ 8 by decide)
  have hr_called := hr.mono (show 7 ≤ 8 by decide)
  have hr_takes_back := hr.mono (show 1 ≤ 8 by decide)
  have hr_undone := hr.mono (show 5 ≤ 8 by decide)
  have hr_Desk___eq__ := hr.mono (show 2 ≤ 8 by decide)
  have hr_Box___eq__ := hr.mono (show 1 ≤ 8 by decide)
  have hr_Desk_films := hr.mono (show 1 ≤ 8 by decide)
  refine ⟨_, (pss_cons (ps_set (i := 1) sc_right.nd rfl (Or.inl rfl) (pe_call c_signs.ok hr_signs rfl T.g_signs T.k_signs c_signs.binds .nil pass0 (pa_cons (pv 0) (pa_cons (pe_ix ix_list (pe_lst (pa_cons pe_int (pa_cons pe_int pa_nil))) (pe_call c_coin.ok hr_coin rfl T.g_coin T.k_coin c_coin.binds .nil pass0 (pa_cons (pv 0) (pa_cons pe_int pa_nil))) (fun _ _ => rfl)) pa_nil))))
      (pss_cons (ps_set (i := 2) sc_right.nd rfl (Or.inl rfl) (pe_call c_any_plan.ok hr_any_plan rfl T.g_any_plan T.k_any_plan c_any_plan.binds .nil pass0 (pa_cons (pv 0) (pa_cons (pv 1) pa_nil))))
      (pss_cons (ps_set (i := 3) sc_right.nd rfl (Or.inl rfl) (pe_call c_near.ok hr_near rfl T.g_near T.k_near c_near.binds .nil pass0 (pa_cons (pv 0) (pa_cons (pv 2) (pa_cons (pv 1) pa_nil)))))
      (pss_cons (ps_set (i := 4) sc_right.nd rfl (Or.inl rfl) (pe_lst pa_nil))
      (pss_cons (ps_for PassesOwn.never rfl (pi_tup (pe_tup (pa_cons (pv 2) (pa_cons (pv 2) (pa_cons (pv 3) pa_nil))))) (pg_name (i := 5) sc_right.nd rfl (Or.inl rfl))
      (pss_one (ps_expr (pe_bm PySem.F.plainAttrs_list PySem.F.slot_list_append PySem.F.type_list_append mt_append (pv 4) (pa_cons (pe_tup (pa_cons (pe_make T.m_Desk c_Desk___init__.ok hr_Desk___init__ rfl T.g_Desk c_Desk___init__.binds .nil pass0 (pa_cons (pe_call c_made.ok hr_made rfl T.g_made T.k_made c_made.binds .nil pass0 (pa_cons (pv 5) pa_nil)) pa_nil)) (pa_cons (pv 5) (pa_cons (pe_call c_bench.ok hr_bench rfl T.g_bench T.k_bench c_bench.binds .nil pass0 (pa_cons (pv 5) pa_nil)) pa_nil)))) pa_nil)))))
      (pss_cons (ps_set (i := 6) sc_right.nd rfl (Or.inl rfl) (pe_tup (pa_cons pe_int (pa_cons pe_int (pa_cons pe_int (pa_cons pe_int (pa_cons pe_int pa_nil)))))))
      (pss_cons (ps_for PassesOwn.never rfl (pi_range1 rfl T.b_range (pa_cons pe_int pa_nil)) (pg_name (i := 7) sc_right.nd rfl (Or.inl rfl))
      (pss_cons (ps_asg (pe_ix ix_list (pv 4) (pe_call c_coin.ok hr_coin rfl T.g_coin T.k_coin c_coin.binds .nil pass0 (pa_cons (pv 0) (pa_cons pe_int pa_nil))) (fun _ _ => rfl)) (pg_tup rfl (pgs_cons (pg_name (i := 8) sc_right.nd rfl (Or.inl rfl)) (pgs_cons (pg_name (i := 5) sc_right.nd rfl (Or.inl rfl)) (pgs_cons (pg_name (i := 9) sc_right.nd rfl (Or.inl rfl)) pgs_nil)))))
      (Evl.pss_cut (ps_if (pt_cmpR op_eq (pe_call c_coin.ok hr_coin rfl T.g_coin T.k_coin c_coin.binds .nil pass0 (pa_cons (pv 0) (pa_cons pe_int pa_nil))) pe_int (nomark _)) (pss_one (ps_set (i := 6) sc_right.nd rfl (Or.inl rfl) (pe_call c_deed.ok hr_deed rfl T.g_deed T.k_deed c_deed.binds .nil pass0 (pa_cons (pv 0) (pa_cons (pv 5) (pa_cons (pv 9) pa_nil)))))) pss_nil)
      (pss_cons (ps_par (i := 10) (j := 11) (by rfl) sc_right.nd rfl rfl (by decide) rfl rfl (pa_cons (pe_call c_call_fault.ok hr_call_fault rfl T.g_call_fault T.k_call_fault c_call_fault.binds .nil pass0 (pa_cons (pv 5) (pa_cons (pv 9) (pa_cons (pv 6) pa_nil)))) (pa_cons (pe_callB call_len_seq (by rfl) T.b_len PySem.boot_len (pa_cons (pe_ix ix_list (pv 9) pe_int (fun _ _ => rfl)) pa_nil)) pa_nil)) (by rfl))
      (Evl.pss_cut (ps_if (pt_cmpR (op_neD hr.units) (pv 10) (pe_lst pa_nil) (nomark _)) (pss_one (ps_expr (pe_callG hG c_called.go hr_called rfl T.g_called T.k_called c_called.binds (pa_cons (pv 8) (pa_cons (pv 6) (pa_cons pe_bl pa_nil)))))) (pss_one (ps_if (pt_val (pe_call c_fits.ok hr_fits rfl T.g_fits T.k_fits c_fits.binds .nil pass0 (pa_cons (pv 9) (pa_cons (pv 6) (pa_cons pe_int (pa_cons pe_int pa_nil)))))) (pss_cons (ps_expr (pe_call c_do_.ok hr_do_ rfl T.g_do_ T.k_do_ c_do_.binds .nil pass0 (pa_cons (pv 9) (pa_cons (pv 6) pa_nil))))
      (pss_cons (ps_expr (pe_bm PySem.F.plainAttrs_list PySem.F.slot_list_append PySem.F.type_list_append mt_append (pe_ix ix_list (pv 9) pe_int (fun _ _ => rfl)) (pa_cons (pv 11) pa_nil)))
      (pss_one (ps_expr (pe_callG hG c_called.go hr_called rfl T.g_called T.k_called c_called.binds (pa_cons (pv 8) (pa_cons (pv 6) (pa_cons pe_bl pa_nil)))))))) pss_nil)))
      (Evl.pss_cut (ps_if (PW.pt (pw_and (pt_cmpR (op_neD hr.units) (pe_ix ix_list (pv 9) pe_int (fun _ _ => rfl)) (pe_lst pa_nil) (nomark _)) (pw_and1 (pt_cmpR op_eq (pe_call c_coin.ok hr_coin rfl T.g_coin T.k_coin c_coin.binds .nil pass0 (pa_cons (pv 0) (pa_cons pe_int pa_nil))) pe_int (nomark _))))) (pss_cons (ps_expr (pe_call c_takes_back.ok hr_takes_back rfl T.g_takes_back T.k_takes_back c_takes_back.binds .nil pass0 (pa_cons (pv 9) pa_nil)))
      (pss_one (ps_expr (pe_callG hG c_undone.go hr_undone rfl T.g_undone T.k_undone c_undone.binds (pa_cons (pv 8) pa_nil))))) pss_nil)
      (pss_one (ps_for PassesOwn.never rfl (pi_range1 rfl T.b_range (pa_cons pe_int pa_nil)) (pg_name (i := 12) sc_right.nd rfl (Or.inl rfl))
      (pss_cons (ps_set (i := 13) sc_right.nd rfl (Or.inl rfl) (pe_ix ix_list (pv 4) (pe_op op_mod (pe_callTy call_int1 (by rfl) T.b_int (by decide +kernel) (pa_cons (pe_op op_add (pv 12) pe_int) pa_nil)) pe_int) (fun _ _ => rfl)))
      (Evl.pss_cut (ps_set (i := 14) sc_right.nd rfl (Or.inl rfl) (pe_and (pe_cmpR op_eq (pe_callB (call_repr hG hr.units) (by rfl) T.b_repr (by decide +kernel) (pa_cons (pe_ix ix_tup (pe_ix ix_list (pv 4) (pv 12) (fun _ _ => rfl)) pe_int (fun _ _ => rfl)) pa_nil)) (pe_callB (call_repr hG hr.units) (by rfl) T.b_repr (by decide +kernel) (pa_cons (pe_ix ix_tup (pv 13) pe_int (fun _ _ => rfl)) pa_nil)) (nomark _)) (pe_one (pe_cmpR (op_eqD hr.units) (pe_ix ix_list (pe_ix ix_tup (pe_ix ix_list (pv 4) (pv 12) (fun _ _ => rfl)) pe_int (fun _ _ => rfl)) pe_int (fun _ _ => rfl)) (pe_ix ix_list (pe_ix ix_tup (pv 13) pe_int (fun _ _ => rfl)) pe_int (fun _ _ => rfl)) (nomark _)))))
      (pss_one (ps_if (PW.pt (pw_or (pt_cmpR op_ne (pe_callB (call_repr hG hr.units) (by rfl) T.b_repr (by decide +kernel) (pa_cons (pe_cmpR (op_eqO (K := K) c_Desk___eq__.ok hr_Desk___eq__ T.o_Desk___eq__ T.of_Desk___eq__ c_Desk___eq__.binds pass0) (pe_ix ix_tup (pe_ix ix_list (pv 4) (pv 12) (fun _ _ => rfl)) pe_int (fun _ _ => rfl)) (pe_ix ix_tup (pv 13) pe_int (fun _ _ => rfl)) (nomark _)) pa_nil)) (pe_callB (call_repr hG hr.units) (by rfl) T.b_repr (by decide +kernel) (pa_cons (pv 14) pa_nil)) (nomark _)) (pw_or1 (pt_cmpR op_ne (pe_callB (call_repr hG hr.units) (by rfl) T.b_repr (by decide +kernel) (pa_cons (pe_cmpR (op_eqO (K := K) c_Desk___eq__.ok hr_Desk___eq__ T.o_Desk___eq__ T.of_Desk___eq__ c_Desk___eq__.binds pass0) (pe_ix ix_tup (pv 13) pe_int (fun _ _ => rfl)) (pe_ix ix_tup (pe_ix ix_list (pv 4) (pv 12) (fun _ _ => rfl)) pe_int (fun _ _ => rfl)) (nomark _)) pa_nil)) (pe_callB (call_repr hG hr.units) (by rfl) T.b_repr (by decide +kernel) (pa_cons (pv 14) pa_nil)) (nomark _))))) (pss_one (ps_ret pe_bl)) pss_nil))))))))))))
      (pss_cons (ps_par (i := 15) (j := 16) (by rfl) sc_right.nd rfl rfl (by decide) rfl rfl (pa_cons (pe_call c_made.ok hr_made rfl T.g_made T.k_made c_made.binds .nil pass0 (pa_cons (pv 2) pa_nil)) (pa_cons (pe_meth0 (pe_ix ix_tup (pe_ix ix_list (pv 4) pe_int (fun _ _ => rfl)) pe_int (fun _ _ => rfl)) T.c_Desk T.h_Desk_films c_Desk_films.ok hr_Desk_films c_Desk_films.binds .nil pass0) pa_nil)) (by rfl))
      (pss_cons (ps_set (i := 17) sc_right.nd rfl (Or.inl rfl) (pe_lst (pa_cons (pe_cmpR (op_eqO (K := K) c_Desk___eq__.ok hr_Desk___eq__ T.o_Desk___eq__ T.of_Desk___eq__ c_Desk___eq__.binds pass0) (pe_ix ix_tup (pe_ix ix_list (pv 4) pe_int (fun _ _ => rfl)) pe_int (fun _ _ => rfl)) (pv 15) (nomark _)) (pa_cons (pe_cmpR (op_eqO (K := K) c_Desk___eq__.ok hr_Desk___eq__ T.o_Desk___eq__ T.of_Desk___eq__ c_Desk___eq__.binds pass0) (pe_ix ix_tup (pe_ix ix_list (pv 4) pe_int (fun _ _ => rfl)) pe_int (fun _ _ => rfl)) (pv 16) (nomark _)) (pa_cons (pe_cmpR (op_eqO (K := K) c_Desk___eq__.ok hr_Desk___eq__ T.o_Desk___eq__ T.of_Desk___eq__ c_Desk___eq__.binds pass0) (pe_ix ix_tup (pe_ix ix_list (pv 4) pe_int (fun _ _ => rfl)) pe_int (fun _ _ => rfl)) (pe_callB call_len_seq (by rfl) T.b_len PySem.boot_len (pa_cons (pv 16) pa_nil)) (nomark _)) (pa_cons (pe_cmpR (op_eqO (K := K) c_Box___eq__.ok hr_Box___eq__ T.o_Box___eq__ T.of_Box___eq__ c_Box___eq__.binds pass0) (pv 15) (pe_ix ix_tup (pe_ix ix_list (pv 4) pe_int (fun _ _ => rfl)) pe_int (fun _ _ => rfl)) (nomark _)) pa_nil))))))
      (pss_one (ps_ret (pe_and (pe_cmpR (op_eqD hr.units) (pv 17) (pe_op op_rep (pe_lst (pa_cons pe_bl pa_nil)) pe_int) (nomark _)) (pe_one (pe_callG hG c_lies_there.go hr_lies_there rfl T.g_lies_there T.k_lies_there c_lies_there.binds (pa_cons (pe_ix ix_tup (pe_ix ix_list (pv 4) pe_int (fun _ _ => rfl)) pe_int (fun _ _ => rfl)) (pa_cons (pe_ix ix_tup (pe_ix ix_list (pv 4) pe_int (fun _ _ => rfl)) pe_int (fun _ _ => rfl)) pa_nil)))))))))))))))), ?_⟩
  obtain ⟨sk, n, rfl, hsk, hn, k⟩ := h
  have sG : Same Sf.nil H := nil_same
  have gk : Sf.nil sk = none := rfl
  refine ⟨_, rfl, by show 2 ≤ sizeLine; decide, fun l0 hl0 => ?_⟩
  refine ⟨_, rfl, sk, n, _, rfl, hsk.new hl0, by omega, by decide, by decide, fun z H1 z0 z1 sk1 kp1 => ?_⟩
  obtain ⟨m, rfl⟩ := nat_of z0
  obtain ⟨hi, ehi, h1, h26⟩ : ∃ q : Nat, ([V.int 2, V.int 5] : List V)[m]? = some (V.int q) ∧ 1 ≤ q ∧ q ≤ 26 := by
    have : m = 0 ∨ m = 1 := by omega
    rcases this with rfl | rfl
    · exact ⟨2, rfl, by decide, by decide⟩
    · exact ⟨5, rfl, by decide, by decide⟩
  refine ⟨l0, _, (m : Int), _, rfl, rfl, SqL.of (kp1 l0 _ (hsk.ne hl0) upd_same), atI_nat ehi, ?_⟩
  have e1 : Ext (· = sk) Sf.nil H Sf.nil H1 := ((Ext.refl sG).newM (o := .lst [.int 2, .int 5]) hl0).kp kp1 gk sk1.at
  refine ⟨sk, n + 1, hi, rfl, sk1, by omega, h1, h26, fun s H2 sk2 kp2 ws2 ls2 => ?_⟩
  have e2 := e1.kp kp2 gk sk2.at
  have hs := ws2.mono (show hi ≤ 30 by omega)
  refine ⟨_, rfl, _, rfl, Sf.nil, sk, n + 4, s, rfl, e2.gh, gk, sk2.mono (by omega), by omega, hs, by omega, fun p r g ws js G3 H3 sk3 x3 pl rt w39 => ?_⟩
  have e3 := e2.trans x3
  have gk3 := e3.sk hsk gk
  have wn := rt.wn
  have jn := rt.jn
  refine ⟨_, rfl, _, rfl, _, rfl, G3, sk, n + 4 + 5001, p, r, g, s, ws, js, rfl, e3.gh, gk3, sk3, by omega, pl, rt, w39, hs, by omega, fun p2 r2 g2 ws2 js2 G4 H4 sk4 x4 pl2 rt2 => ?_⟩
  have e4 := e3.trans x4
  have gk4 := e4.sk hsk gk
  have pl4 := pl.mono x4.gg
  refine ⟨small_line (by decide), fun ro hro => ?_⟩
  have nro := sk4.ne hro
  have e5 := e4.newM (o := .lst []) hro
  have ro5 := upd_same (H := H4) (a := ro) (o := .lst [])
  have sk5 := sk4.new (o := .lst []) hro
  have gro := same_none e4.gh hro
  generalize upd H4 ro _ = H5 at e5 ro5 sk5
  refine ⟨_, rfl, _, rfl, _, rfl, small_line (by show 3 ≤ 100000; decide), fun tq htq => ?_⟩
  have kq : Kp ro H5 (upd H5 tq (.tup [.ref p, .ref p, .ref p2])) := (Kp.refl _ _).new htq
  have tq6 := upd_same (H := H5) (a := tq) (o := .tup [.ref p, .ref p, .ref p2])
  have e6 := e5.newM (o := .tup [.ref p, .ref p, .ref p2]) htq
  have ro6 := upd_old (u := .tup [.ref p, .ref p, .ref p2]) ro5 htq
  have sk6 := sk5.new (o := .tup [.ref p, .ref p, .ref p2]) htq
  have ntr : tq ≠ ro := (ne_of_none ro5 htq).symm
  generalize upd H5 tq _ = H6 at kq tq6 e6 ro6 sk6
  refine ⟨tq, rfl, ⟨_, SqT.of tq6⟩, for_tup (xs := [.ref p, .ref p, .ref p2]) (fun i σ H' => ∃ (x5 : Option V) (es : List (Addr × Row)) (G' : Hp), σ = [some (.ref sk), some (.str s), some (.ref p), some (.ref p2), some (.ref ro), x5, none, none, none, none, none, none, none, none, none, none, none, none] ∧ es.length = i ∧ H' ro = some (.lst (es.map fun e => V.ref e.1)) ∧ Same G4 G' ∧ Same G' H' ∧ G' ro = none ∧ G' sk = none ∧
      Kp ro H6 H' ∧ (∀ e ∈ es, RowOk K a H6 G' H' ro e.1 e.2) ∧ es.Pairwise (fun d e => ∀ v ∈ d.2.all, v ∉ e.2.all)) ⟨_, [], G4, rfl, rfl, ro6, Same.refl _, e6.gh, gro, gk4, Kp.refl _ _, nofun, List.Pairwise.nil⟩ (fun i σ H' _ z => ?_) ?_ ?_⟩
  · obtain ⟨_, _, _, _, _, _, _, _, _, _, kp, _⟩ := z
    exact SqT.of (kp tq _ ntr tq6)
  · rintro i v σ H7 hv ⟨x5, es, G7, rfl, les, dro, g47, s7, gro7, gk7, kp7, oks, pw⟩
    obtain ⟨pp, rr, gg, wx, jx, rfl, plx, rtx⟩ : ∃ (pp rr gg : Addr) (wx : List Str) (jx : Js), v = .ref pp ∧ PlAt K G4 pp rr gg wx jx ∧ Rt 40 wx jx := by
      match i, hv with
      | 0, hv => exact ⟨p, r, g, ws, js, (Option.some.inj hv).symm, pl4, rt.mono (by decide)⟩
      | 1, hv => exact ⟨p, r, g, ws, js, (Option.some.inj hv).symm, pl4, rt.mono (by decide)⟩
      | 2, hv => exact ⟨p2, r2, g2, ws2, js2, (Option.some.inj hv).symm, pl2, rt2⟩
      | m + 3, hv => cases hv
    have wxn := rtx.wn
    have plx7 := plx.mono g47
    refine ⟨_, rfl, .inl ⟨rfl, _, SqL.of dro⟩, _, rfl, G7, 40, pp, rr, gg, wx, jx, rfl, s7, plx7, rtx, by decide, fun bm G8 H8 x8 bx8 => ?_⟩
    have s78 : Same H7 H8 := fun b o e => x8.fr b o id e
    refine fun x dx hx hd nd => desk_made hx hd nd (bx8.mono x8.gh) (by omega) (fun H9 f t nb c hf ht hn hc s9 hm dd cc => ?_)
    have plx9 := ((plx7.mono x8.gg).mono x8.gh).mono s9
    refine ⟨_, rfl, _, rfl, pp, rr, gg, wx, jx, rfl, plx9, by omega, fun H10 B b0 b1 b2 b3 zs fB f0 f1 f2 f3 n30 n31 n32 n3B s10 bs hz e3 => ?_⟩
    refine ⟨small_line (by show 3 ≤ 100000; decide), fun q hq => ?_⟩
    have sG10 : Same G8 H10 := (x8.gh.trans s9).trans s10
    have gq : G8 q = none := same_none sG10 hq
    have dro10 := s10 _ _ (s9 _ _ (s78 _ _ dro))
    have nqr : ro ≠ q := ne_of_none dro10 hq
    have sk7 : ∃ u, H7 sk = some u := by
      obtain ⟨u, hu⟩ := sk6.at
      exact ⟨u, kp7 sk u nro.symm hu⟩
    refine ⟨ro, _, _, rfl, rfl, upd_old dro10 hq, by rw [List.length_map, les]; exact small_lt (by have := (List.getElem?_eq_some_iff.mp hv).1; simp at this; omega), ?_⟩
    have gS : Same G8 (upd G8 q (.tup [.ref x, .ref pp, .ref B])) := same_new (Same.refl _) gq
    have gro8 : upd G8 q (.tup [.ref x, .ref pp, .ref B]) ro = none := upd_none nqr (x8.no ro _ dro gro7)
    have gsk8 : upd G8 q (.tup [.ref x, .ref pp, .ref B]) sk = none := by
      obtain ⟨u, hu⟩ := sk7
      exact upd_none (ne_of_none (s10 _ _ (s9 _ _ (s78 _ _ hu))) hq) (x8.no sk u hu gk7)
    have sGH := same_mut (u := .lst (es.map (fun e => V.ref e.1) ++ [.ref q])) (Same.set (same_new (u := .tup [.ref x, .ref pp, .ref B]) sG10 hq) upd_same) gro8
    have bu7 : But [ro] H7 (upd (upd H10 q (.tup [.ref x, .ref pp, .ref B])) ro (.lst (es.map (fun e => V.ref e.1) ++ [.ref q]))) := But.mut (fun b o _ e => upd_old (s10 _ _ (s9 _ _ (s78 _ _ e))) hq) (by simp)
    have no7 : ∀ b o, H7 b = some o → G7 b = none → upd G8 q (.tup [.ref x, .ref pp, .ref B]) b = none := fun b o h1 h2 => upd_none (ne_of_none (s10 _ _ (s9 _ _ (s78 _ _ h1))) hq) (x8.no b o h1 h2)
    refine ⟨_, es ++ [(q, ⟨x, dx, bm, f, t, nb, c, pp, rr, gg, B, b0, b1, b2, b3, wx, jx⟩)], upd G8 q (.tup [.ref x, .ref pp, .ref B]), rfl, by rw [List.length_append, les]; rfl, by rw [List.map_append]; exact upd_same, (g47.trans x8.gg).trans gS, sGH, gro8, gsk8, kp_self ((kp_same kp7 ((s78.trans s9).trans s10)).new hq), ?_, ?_⟩
    · intro e he
      rcases List.mem_append.mp he with z | z
      · exact (oks e z).up (x8.gg.trans gS) no7 bu7
      · rw [List.mem_singleton.mp z]
        obtain ⟨td, etd, _⟩ := dd.ht
        obtain ⟨tb, etb, _⟩ := bs.h1
        have neI : ∀ {y : Addr} {u : HO}, H9 y = some u → (∀ C z fs, u ≠ .ins C z fs) → x ≠ y := fun h1 h2 z => by
          rw [← z, hm] at h1
          exact h2 _ _ _ (Option.some.inj h1).symm
        have i1 : x ≠ f := neI dd.hf (by intro _ _ _ q; cases q)
        have i2 : x ≠ t := neI etd (by intro _ _ _ q; cases q)
        have i3 : x ≠ nb := neI dd.hn (by intro _ _ _ q; cases q)
        have i4 : x ≠ c := neI cc (by intro _ _ _ q; cases q)
        obtain ⟨j1, j2, j3⟩ := dd.nf
        have j4 := dd.ft
        have j5 := dd.tc
        have j6 := dd.fc
        have kB := bs.nB0
        have kC := bs.nB1
        have kD := bs.nB2
        have kE := bs.n01
        have kF := bs.n02
        have kG := bs.n12
        have far : ∀ {y u}, H9 y = some u → y ≠ B ∧ y ≠ b0 ∧ y ≠ b1 ∧ y ≠ b2 ∧ y ≠ b3 := fun h => ⟨ne_of_none h fB, ne_of_none h f0, ne_of_none h f1, ne_of_none h f2, ne_of_none h f3⟩
        obtain ⟨o1, o2, o3, o4, o5⟩ := far hm
        obtain ⟨p1, p2', p3, p4, p5⟩ := far dd.hf
        obtain ⟨t1, t2, t3, t4, t5⟩ := far etd
        obtain ⟨m1, m2, m3, m4, m5⟩ := far dd.hn
        obtain ⟨c1, c2, c3, c4, c5⟩ := far cc
        have bu10 : But [ro] H10 (upd (upd H10 q (.tup [.ref x, .ref pp, .ref B])) ro (.lst (es.map (fun e => V.ref e.1) ++ [.ref q]))) := But.mut (fun b o _ e => upd_old e hq) (by simp)
        have ro8 := s78 _ _ dro
        have ro9 := s9 _ _ ro8
        have free8 : ∀ {v}, H8 v = none → H6 v = none ∧ v ≠ ro := fun h => ⟨(kp_same kp7 s78).none ro8 h, (ne_of_none ro8 h).symm⟩
        have free9 : ∀ {v}, H9 v = none → H6 v = none ∧ v ≠ ro := fun h => ⟨(kp_same kp7 (s78.trans s9)).none ro9 h, (ne_of_none ro9 h).symm⟩
        have occ : ∀ v ∈ (Row.mk x dx bm f t nb c pp rr gg B b0 b1 b2 b3 wx jx).all, ∃ u, H10 v = some u := fun v hv => by
          unfold Row.all Row.own at hv
          simp at hv
          rcases hv with rfl | rfl | rfl | rfl | rfl | rfl | rfl | rfl | rfl | rfl
          · exact ⟨_, s10 _ _ hm⟩
          · exact ⟨_, bs.hB⟩
          · exact ⟨_, s10 _ _ dd.hf⟩
          · exact ⟨_, s10 _ _ etd⟩
          · exact ⟨_, s10 _ _ dd.hn⟩
          · exact ⟨_, s10 _ _ cc⟩
          · exact ⟨_, bs.h0⟩
          · exact ⟨_, etb⟩
          · exact ⟨_, bs.h2⟩
          · exact ⟨_, e3⟩
        have frs : ∀ v ∈ (Row.mk x dx bm f t nb c pp rr gg B b0 b1 b2 b3 wx jx).all, H6 v = none ∧ v ≠ ro := fun v hv => by
          unfold Row.all Row.own at hv
          simp at hv
          rcases hv with rfl | rfl | rfl | rfl | rfl | rfl | rfl | rfl | rfl | rfl
          · exact free8 hx
          · exact free9 fB
          · exact free8 hf
          · exact free8 ht
          · exact free8 hn
          · exact free8 hc
          · exact free9 f0
          · exact free9 f1
          · exact free9 f2
          · exact free9 f3
        have gS9 : Same G8 H9 := x8.gh.trans s9
        have ap : (Row.mk x dx bm f t nb c pp rr gg B b0 b1 b2 b3 wx jx).all.Nodup := by
          unfold Row.all Row.own
          simp only [List.nodup_cons, List.mem_cons, List.not_mem_nil, or_false, not_or]
          (repeat' apply And.intro)
          all_goals first
            | assumption
            | (intro z; exact absurd z.symm (by assumption))
            | exact not_false
            | exact List.nodup_nil
        refine ⟨SqT.of upd_same, bx8.mono gS, (plx7.mono x8.gg).mono gS, rtx, ap, fun v hv => ?_, frs, fun v hv => ?_, zs, ?_⟩
        · obtain ⟨u, hu⟩ := occ v (List.mem_cons_of_mem _ (List.mem_cons_of_mem _ hv))
          refine upd_none (ne_of_none hu hq) ?_
          unfold Row.own at hv
          simp at hv
          rcases hv with rfl | rfl | rfl | rfl | rfl | rfl | rfl | rfl
          · exact same_none x8.gh hf
          · exact same_none x8.gh ht
          · exact same_none x8.gh hn
          · exact same_none x8.gh hc
          · exact same_none gS9 f0
          · exact same_none gS9 f1
          · exact same_none gS9 f2
          · exact same_none gS9 f3
        · obtain ⟨u, hu⟩ := occ v hv
          exact ⟨u, bu10 v u (fun z => (frs v hv).2 (List.mem_singleton.mp z)) hu⟩
        · refine RowAt.but (X := [ro]) (H := H10) ⟨s10 _ _ hm, dd.same s10, s10 _ _ cc, bs, e3, n30, n31, n32, n3B, addAll_nodup wx [] List.nodup_nil, fun y hy => ?_, fun y hy => ?_, fun l r z e => by simp at e⟩ bu10 fun v hv z => (frs v hv).2 (List.mem_singleton.mp z)
          · rcases addAll_mem hy with z | z
            · cases z
            · exact (rtx.wd y z).1.mono (by decide)
          · rw [hz y hy]
            decide
    · rw [List.pairwise_append]
      refine ⟨pw, List.pairwise_singleton _ _, fun d hd e he v hv => ?_⟩
      rw [List.mem_singleton.mp he]
      obtain ⟨u, hu⟩ := (oks d hd).oc v hv
      intro z
      have h8 := s78 _ _ hu
      have h9 := s9 _ _ h8
      unfold Row.all Row.own at z
      simp at z
      rcases z with rfl | rfl | rfl | rfl | rfl | rfl | rfl | rfl | rfl | rfl
      · exact ne_of_none h8 hx rfl
      · exact ne_of_none h9 fB rfl
      · exact ne_of_none h8 hf rfl
      · exact ne_of_none h8 ht rfl
      · exact ne_of_none h8 hn rfl
      · exact ne_of_none h8 hc rfl
      · exact ne_of_none h9 f0 rfl
      · exact ne_of_none h9 f1 rfl
      · exact ne_of_none h9 f2 rfl
      · exact ne_of_none h9 f3 rfl
  rintro σ H7 ⟨x5, es, G7, rfl, les, dro, g47, s7, gro7, gk7, kp7, oks, pw⟩
  -- the calls
  have s8 : Same (upd G7 ro (.lst (es.map fun e => V.ref e.1))) H7 := Same.set s7 dro
  have g78 : Same G7 (upd G7 ro (.lst (es.map fun e => V.ref e.1))) := same_new (Same.refl _) gro7
  have ro8 : upd G7 ro (.lst (es.map fun e => V.ref e.1)) ro = _ := upd_same
  have gk8 : upd G7 ro (.lst (es.map fun e => V.ref e.1)) sk = none := upd_none nro.symm gk7
  have gn8 : ∀ e ∈ es, ∀ v ∈ e.2.own, upd G7 ro (.lst (es.map fun e => V.ref e.1)) v = none := fun e he v hv => upd_none ((oks e he).fr v (List.mem_cons_of_mem _ (List.mem_cons_of_mem _ hv))).2 ((oks e he).gn v hv)
  have st8 : ∀ e ∈ es, SqT K (upd G7 ro (.lst (es.map fun e => V.ref e.1))) e.1 [.ref e.2.m, .ref e.2.p, .ref e.2.B] ∧ BoxAt K a (upd G7 ro (.lst (es.map fun e => V.ref e.1))) e.2.bm e.2.ws e.2.js ∧ PlAt K (upd G7 ro (.lst (es.map fun e => V.ref e.1))) e.2.p e.2.r e.2.g e.2.ws e.2.js := fun e he => ⟨sameT g78 (oks e he).tp, (oks e he).bx.mono g78, (oks e he).pl.mono g78⟩
  generalize upd G7 ro (.lst (es.map fun e => V.ref e.1)) = G8 at s8 ro8 gk8 gn8 st8 g78
  have sk7 : Sk (n + 4 + 5001 + 100) H7 sk := by
    obtain ⟨y1, y2, y3, e, r⟩ := sk6
    exact ⟨y1, y2, y3, kp7 sk _ nro.symm e, r⟩
  refine ⟨small_line (by show 5 ≤ 100000; decide), fun d0 hd0 => ?_⟩
  have kpH6 : ∀ b o, b ≠ sk → H b = some o → H6 b = some o := fun b o nb e => e6.fr b o nb e
  have own0 : ∀ e ∈ es, ∀ v ∈ e.2.own, H v = none := fun e he v hv => e6.free ((oks e he).fr v (List.mem_cons_of_mem _ (List.mem_cons_of_mem _ hv))).1
  have roH : H ro = none := e4.free hro
  have s9 : Same H7 (upd H7 d0 (.tup [.int 0, .int 0, .int 0, .int 0, .int 0])) := same_new (Same.refl _) hd0
  have ed9 := upd_same (H := H7) (a := d0) (o := .tup [.int 0, .int 0, .int 0, .int 0, .int 0])
  have sk9 := sk_same sk7 s9
  have s89 := s8.trans s9
  obtain ⟨ts0, lts0, hts0⟩ := choose_list (P := fun (e : Addr × Row) (t : List Str × List Int × List Int) => RowAt K a (upd H7 d0 (.tup [.int 0, .int 0, .int 0, .int 0, .int 0])) e.2 t.1 t.2.1 t.2.2 ∧ t.1.length ≤ 40 ∧ t.2.2.length ≤ 0) es (fun e he => by
    obtain ⟨zs, r⟩ := (oks e he).rw
    refine ⟨(addAll [] e.2.ws, zs, []), r.same s9, ?_, Nat.le_refl _⟩
    have := (oks e he).rt.wn
    exact Nat.le_trans (addAll_len e.2.ws []) (by show 0 + _ ≤ _; omega))
  generalize upd H7 d0 _ = H9 at s9 ed9 sk9 s89 hts0
  have gX : ∀ H', But (sk :: es.flatMap fun e => e.2.own) H9 H' → Same G8 H' := fun H' b => b.same s89 fun v hv => by
    rcases List.mem_cons.mp hv with z | z
    · rw [z]; exact gk8
    · obtain ⟨e, he, hv⟩ := List.mem_flatMap.mp z
      exact gn8 e he v hv
  have kpX : ∀ H', But (sk :: es.flatMap fun e => e.2.own) H9 H' → Kp sk H H' := fun H' b v o nv e => b v o (fun hv => by
    rcases List.mem_cons.mp hv with z | z
    · exact nv z
    · obtain ⟨e', he, hv⟩ := List.mem_flatMap.mp z
      rw [own0 e' he v hv] at e
      cases e) (s9 _ _ (kp7 v o (fun z => by rw [z, roH] at e; cases e) (kpH6 v o nv e)))
  have skX : sk ∈ (sk :: es.flatMap fun e => e.2.own) := List.mem_cons_self
  have nsk : ∀ e ∈ es, sk ∉ e.2.all := fun e he m => by
    obtain ⟨u, hu⟩ := sk6.at
    rw [((oks e he).fr sk m).1] at hu
    cases hu
  have all9 : ∀ e ∈ es, e.2.all.Nodup := fun e he => (oks e he).nd
  have rts : ∀ e ∈ es, Rt 40 e.2.ws e.2.js := fun e he => (oks e he).rt
  have tn9 : Tn K a es sk H9 H9 (n + 5110) 40 0 ts0 := ⟨But.refl _ _, sk9.mono (by omega), lts0, hts0⟩
  refine ⟨14, rfl, by decide, by decide, for_range (lo := 0) (n := 14) (fun i σ H' => ∃ (x5 x7 x8 x9 x10 x11 x12 x13 x14 : Option V) (d : Addr) (a1 a2 a3 a4 a5 : Nat) (ts : List (List Str × List Int × List Int)), σ = [some (.ref sk), some (.str s), some (.ref p), some (.ref p2), some (.ref ro), x5, some (.ref d), x7, x8, x9, x10, x11, x12, x13, x14, none, none, none] ∧ Tn K a es sk H9 H' (n + 5110 + 20 * i) (40 + i) i ts ∧
      H' d = some (.tup [.int a1, .int a2, .int a3, .int a4, .int a5]) ∧ (a1 ≤ 6000 ∧ a2 ≤ 6000 ∧ a3 ≤ 6000 ∧ a4 ≤ 6000 ∧ a5 ≤ 6000))
    ⟨_, _, _, _, _, _, _, _, _, d0, 0, 0, 0, 0, 0, ts0, rfl, tn9, ed9, ⟨by decide, by decide, by decide, by decide, by decide⟩⟩ ?_ ?_⟩
  · rintro i σ H10 hi ⟨x5, x7, x8, x9, x10, x11, x12, x13, x14, d, a1, a2, a3, a4, a5, ts, rfl, tn, ed, bd⟩
    have g10 := gX _ tn.bu
    refine ⟨_, rfl, _, rfl, sk, n + 5110 + 20 * i, _, rfl, tn.sk, by omega, by decide, by decide, fun z H11 z0 z1 sk11 kp11 => ?_⟩
    obtain ⟨z, rfl⟩ := nat_of z0
    have dsk : d ≠ sk := fun z => by
      obtain ⟨_, _, _, e, _⟩ := tn.sk
      rw [← z, ed] at e
      cases e
    have tn11 := tn.kp kp11 sk11 nsk
    have ed11 := kp11 d _ dsk ed
    have g11 := gX _ tn11.bu
    have zl : z < es.length := by rw [les]; show z < 3; omega
    have ez : es[z]? = some es[z] := List.getElem?_eq_getElem zl
    have mz : es[z] ∈ es := List.getElem_mem zl
    obtain ⟨tz, bz, pz⟩ := st8 _ mz
    have adz := all9 _ mz
    have rtz := rts _ mz
    have nkz := nsk _ mz
    generalize es[z] = v at ez mz tz bz pz adz rtz nkz
    refine ⟨ro, _, (z : Int), .ref v.1, rfl, rfl, SqL.of (g11 _ _ ro8), atI_nat (by rw [List.getElem?_map, ez]; rfl), ?_⟩
    refine ⟨v.1, _, rfl, sameT g11 tz, rfl, _, _, rfl, _, _, rfl, _, _, rfl, rfl, ?_⟩
    have tl : z < ts.length := by rw [tn.l3]; exact zl
    have et : ts[z]? = some ts[z] := List.getElem?_eq_getElem tl
    generalize ts[z] = t at et
    obtain ⟨xs, zs, ms⟩ := t
    have rw11 := tn11.rw z v _ ez et
    obtain ⟨ra11, lx, lm⟩ := rw11
    have lx : xs.length ≤ 40 + i := lx
    have lm : ms.length ≤ i := lm
    have htx : ∀ x ∈ xs, Tx 2000 x := fun x h => ((ra11.wd x h).tx).mono (by decide)
    have vB : v.2.B ≠ sk := fun z => nkz (by rw [← z]; unfold Row.all; simp)
    have v0 : v.2.b0 ≠ sk := fun z => nkz (by rw [← z]; unfold Row.all Row.own; simp)
    have v1 : v.2.b1 ≠ sk := fun z => nkz (by rw [← z]; unfold Row.all Row.own; simp)
    have v2 : v.2.b2 ≠ sk := fun z => nkz (by rw [← z]; unfold Row.all Row.own; simp)
    -- perhaps another call
    refine ⟨fun σ' H' => ∃ (d : Addr) (a1 a2 a3 a4 a5 : Nat), σ' = [some (.ref sk), some (.str s), some (.ref p), some (.ref p2), some (.ref ro), some (.ref v.2.p), some (.ref d), some (.int (0 + i)), some (.ref v.2.m), some (.ref v.2.B), x10, x11, x12, x13, x14, none, none, none] ∧ Tn K a es sk H9 H' (n + 5110 + 20 * i + 12) (40 + i) i ts ∧
      H' d = some (.tup [.int a1, .int a2, .int a3, .int a4, .int a5]) ∧ (a1 ≤ 6000 ∧ a2 ≤ 6000 ∧ a3 ≤ 6000 ∧ a4 ≤ 6000 ∧ a5 ≤ 6000), ?_, ?_⟩
    · refine ⟨_, rfl, sk, n + 5110 + 20 * i + 1, _, rfl, tn11.sk, by omega, by decide, by decide, fun z12 H12 z120 z121 sk12 kp12 => ?_⟩
      have tn12 := tn11.kp kp12 sk12 nsk
      have ed12 := kp12 d _ dsk ed11
      refine ⟨rfl, _, rfl, ?_⟩
      refine ite2 (fun c => ?_) (fun c => ?_)
      rotate_left
      · exact ⟨d, a1, a2, a3, a4, a5, rfl, tn12.mono (by omega) (by omega) (by omega), ed12, bd⟩
      have ra12 := (tn12.rw z v _ ez et).1
      refine ⟨_, rfl, _, rfl, _, rfl, G8, n + 5110 + 20 * i + 2, 40, sk, v.2.p, v.2.r, v.2.g, v.2.B, v.2.b0, v.2.b1, v.2.b2, v.2.b3, v.2.ws, v.2.js, xs, zs, rfl, gX _ tn12.bu, gk8, tn12.sk, by omega, pz, rtz, by decide, ra12.bs, by omega, htx, vB, v0, v1, v2, fun d' H13 i0 l u o q hi0 hl hu ho hq sk13 kp13 fd ed13 => ?_⟩
      exact ⟨d', i0, l, u, o, q, rfl, (tn12.kp kp13 sk13 nsk).mono (by omega) (by omega) (by omega), ed13, ⟨hi0, hl, hu, ho, hq⟩⟩
    rintro σ H12 ⟨d, a1, a2, a3, a4, a5, rfl, tn12, ed12, bd⟩
    have ra12 := (tn12.rw z v _ ez et).1
    have g12 := gX _ tn12.bu
    refine ⟨_, rfl, _, rfl, _, rfl, 40, v.2.p, v.2.r, v.2.g, v.2.B, v.2.b0, v.2.b1, v.2.b2, v.2.b3, d, v.2.ws, v.2.js, xs, zs, a1, a2, a3, a4, a5, rfl, pz.mono g12, rtz, by decide, ra12.bs, by omega, htx, SqT.of ed12, fun e H13 he s13 e13 => ?_⟩
    have tn13 := tn12.same s13
    have ed13 := s13 _ _ ed12
    have ra13 := (tn13.rw z v _ ez et).1
    have bz13 := bz.mono (gX _ tn13.bu)
    refine ⟨_, rfl, v.2.B, _, 0, _, rfl, rfl, SqL.of ra13.bs.hB, atI_nat (j := 0) rfl, v.2.b0, _, rfl, .inl (SqL.of ra13.bs.h0), _, _, rfl, ?_⟩
    rw [List.length_map]
    -- the call
    refine ⟨fun σ' H' => ∃ (x10 x11 : Option V) (ts : List (List Str × List Int × List Int)), σ' = [some (.ref sk), some (.str s), some (.ref p), some (.ref p2), some (.ref ro), some (.ref v.2.p), some (.ref d), some (.int (0 + i)), some (.ref v.2.m), some (.ref v.2.B), x10, x11, x12, x13, x14, none, none, none] ∧ Tn K a es sk H9 H' (n + 5110 + 20 * i + 12) (40 + (i + 1)) (i + 1) ts ∧
      H' d = some (.tup [.int a1, .int a2, .int a3, .int a4, .int a5]), ?_, ?_⟩
    · refine ⟨_, rfl, small_line (by decide), fun e2 he2 => ?_⟩
      have s14 := same_new (u := .lst []) (Same.refl H13) he2
      refine ⟨_, _, .lst (SqL.of (upd_old e13 he2)) (dp_fa _), .lst (SqL.of upd_same) .nil, shaped_fa _, shaped_nil, _, rfl, ?_⟩
      rw [eqv_fa]
      generalize upd H13 e2 _ = H14 at s14
      have tn14 := tn13.same s14
      have ed14 := s14 _ _ ed13
      have ra14 := (tn14.rw z v _ ez et).1
      have bz14 := bz13.mono s14
      have bdz : ∀ y ∈ [(a1 : Int), a2, a3, a4, a5], y.natAbs ≤ 6000 := by
        intro y hy
        simp only [List.mem_cons, List.not_mem_nil, or_false] at hy
        obtain ⟨_, _, _, _, _⟩ := bd
        rcases hy with rfl | rfl | rfl | rfl | rfl <;> omega
      have lm' : (ms.map V.int).length ≤ 900 := by rw [List.length_map]; omega
      have jn := rtz.jn
      refine ite2 (fun c => ?_) (fun c => ?_)
      · refine ⟨_, rfl, _, rfl, v.2.m, v.2.dx, v.2.bm, v.2.f, v.2.t, v.2.n, v.2.c, d, xs, v.2.ws, v.2.js, ms.map V.int, a1, a2, a3, a4, a5, false, rfl, ra14.hm, ra14.ds, by omega, htx, ra14.hc, lm', bz14, fun j hj => (rtz.jd j hj).n4, by omega, SqT.of ed14, bdz, fun kk zz hf H15 s15 => ?_, fun e => ?_⟩
        · exact ⟨_, _, ts, rfl, (tn14.same s15).mono (by omega) (by omega) (by omega), s15 _ _ ed14⟩
        · rw [e] at c
          exact absurd c (by decide)
      have ok : callFt v.2.js xs a1 a2 a3 a4 a5 = none := fa_none (by
        cases h : (faD (callFt v.2.js xs a1 a2 a3 a4 a5)).isEmpty with
        | true => rfl
        | false => rw [h] at c; exact absurd rfl c)
      obtain ⟨ll, lo, u0, u1, q0, q1⟩ := let_facts ok
      refine ⟨_, rfl, _, rfl, v.2.B, v.2.b0, v.2.b1, v.2.b2, v.2.b3, d, xs, zs, a1, a3, a5, 400, 60, a2, a4, rfl, ra14.bs, htx, SqT.of ed14, ll, lo, _, rfl, ?_⟩
      refine ite2 (fun c2 => ?_) (fun c2 => ?_)
      rotate_left
      · exact ⟨_, _, ts, rfl, tn14.mono (by omega) (by omega) (by omega), ed14⟩
      have c2' := c2
      rw [Bool.and_eq_true, decide_eq_true_eq, decide_eq_true_eq] at c2'
      have hx := ra14.wd
      have hz := ra14.z0
      have ml : xs.getD a2 "" ∈ xs := by rw [List.getD_eq_getElem?_getD, List.getElem?_eq_getElem ll]; exact List.getElem_mem ll
      have mo : xs.getD a4 "" ∈ xs := by rw [List.getD_eq_getElem?_getD, List.getElem?_eq_getElem lo]; exact List.getElem_mem lo
      have zl' : 0 ≤ zs.getD a2 0 := hz _ (by rw [List.getD_eq_getElem?_getD, List.getElem?_eq_getElem (by rw [ra14.bs.lz]; exact ll)]; exact List.getElem_mem _)
      have zo' : 0 ≤ zs.getD a4 0 := hz _ (by rw [List.getD_eq_getElem?_getD, List.getElem?_eq_getElem (by rw [ra14.bs.lz]; exact lo)]; exact List.getElem_mem _)
      have slen := splice_len u0 u1 q0 q1
      have spl : plain (splice (xs.getD a2 "") a3 (xs.getD a4 "") a5) = true := by
        unfold splice
        rw [plain_append, ((hx _ ml).cut _ _).pl, ((hx _ mo).cut _ _).pl]
        rfl
      have wsp : Wd 400 (splice (xs.getD a2 "") a3 (xs.getD a4 "") a5) := ⟨by have := c2'.1; omega, spl⟩
      have zz : 0 ≤ zs.getD a2 0 + zs.getD a4 0 + 1 := by omega
      obtain ⟨⟨p1, p2', p3⟩, ⟨p4, p5⟩, p6, p7, p8, _, _⟩ := Row.apart adz
      refine ⟨_, rfl, _, rfl, v.2.B, v.2.b0, v.2.b1, v.2.b2, v.2.b3, d, xs, zs, a1, a3, a5, a2, a4, rfl, ra14.bs, by omega, htx, SqT.of ed14, ll, lo, fun H15 bu15 bs15 => ?_⟩
      have n3 : v.2.b3 ∉ [v.2.b0, v.2.b1, v.2.b2] := by
        simp only [List.mem_cons, List.not_mem_nil, or_false, not_or]
        exact ⟨ra14.n30, ra14.n31, ra14.n32⟩
      have h315 := bu15 _ _ n3 ra14.h3
      refine ⟨_, rfl, v.2.B, _, 3, _, rfl, rfl, SqL.of bs15.hB, atI_nat (j := 3) rfl, .inl ⟨rfl, _, SqL.of h315⟩, _, rfl, v.2.b3, _, _, rfl, rfl, h315, by rw [List.length_map]; exact small_lt (by omega), ?_⟩
      have em : ms.map V.int ++ [.int (xs.length : Int)] = (ms ++ [(xs.length : Int)]).map V.int := by rw [List.map_append]; rfl
      rw [em]
      have bu16 : But [v.2.b3] H15 (upd H15 v.2.b3 (.lst ((ms ++ [(xs.length : Int)]).map V.int))) := (But.refl _ _).mut (List.mem_singleton.mpr rfl)
      have m16 := upd_same (H := H15) (a := v.2.b3) (o := .lst ((ms ++ [(xs.length : Int)]).map V.int))
      generalize upd H15 v.2.b3 _ = H16 at bu16 m16
      have own_no := ra14.own_no ed14
      have ow : ∀ {q : Addr}, q ∈ v.2.own → d ≠ q := fun h z => own_no (by rw [z]; exact h)
      have ed16 : H16 d = some (.tup [.int a1, .int a2, .int a3, .int a4, .int a5]) := bu16 _ _ (fun z => ow (by unfold Row.own; simp) (List.mem_singleton.mp z)) (bu15 _ _ (fun z => by
        simp at z
        rcases z with z | z | z <;> exact ow (by unfold Row.own; simp) z) ed14)
      have hm16 := bu16 _ _ p2' (bu15 _ _ p1 ra14.hm)
      have q8 : ∀ q ∈ [v.2.f, v.2.t, v.2.n, v.2.c], q ∉ [v.2.b0, v.2.b1, v.2.b2] ∧ q ∉ [v.2.b3] := fun q hq => ⟨fun z => p8 q hq (by simp at z ⊢; rcases z with z | z | z <;> simp [z]), fun z => p8 q hq (by simp at z ⊢; simp [z])⟩
      have qf := q8 v.2.f (by simp)
      have qt := q8 v.2.t (by simp)
      have qn := q8 v.2.n (by simp)
      have qc := q8 v.2.c (by simp)
      have ds16 := (ra14.ds.but bu15 qf.1 qt.1 qn.1 qc.1).but bu16 qf.2 qt.2 qn.2 qc.2
      have hc16 := bu16 _ _ qc.2 (bu15 _ _ qc.1 ra14.hc)
      have gown : ∀ {G' : Hp}, But v.2.own H14 G' → Same G8 G' := fun b => gX _ (tn14.bu.trans (b.sub fun q hq => List.mem_cons_of_mem _ (List.mem_flatMap.mpr ⟨v, mz, hq⟩)))
      have bo16 : But v.2.own H14 H16 := (bu15.sub (by intro y hy; unfold Row.own; simp at hy ⊢; rcases hy with rfl | rfl | rfl <;> simp)).trans (bu16.sub (by intro y hy; unfold Row.own; simp at hy ⊢; rw [hy]; simp))
      refine ⟨_, rfl, _, rfl, v.2.m, v.2.dx, v.2.bm, v.2.f, v.2.t, v.2.n, v.2.c, d, xs, v.2.ws, v.2.js, ms.map V.int, a1, a2, a3, a4, a5, false, rfl, hm16, ds16, by omega, htx, hc16, lm', bz.mono (gown bo16), fun j hj => (rtz.jd j hj).n4, by omega, SqT.of ed16, bdz, fun kk zz hf => (by rw [ok] at hf; cases hf), fun _ H17 bu17 d17 c17 => ?_⟩
      rw [em] at c17
      simp only [Int.toNat_natCast] at d17
      obtain ⟨ra17, bo17⟩ := ra14.done adz wsp zz bu15 bs15 bu16 m16 bu17 d17 c17
      have lx2 := addX_len xs (splice (xs.getD a2 "") a3 (xs.getD a4 "") a5)
      have l1 : (addX xs (splice (xs.getD a2 "") a3 (xs.getD a4 "") a5)).length ≤ 40 + (i + 1) := by omega
      have l2 : (ms ++ [(xs.length : Int)]).length ≤ i + 1 := by rw [List.length_append]; show ms.length + 1 ≤ _; omega
      have tn17 := tn14.one (wd' := 40 + (i + 1)) (mk' := i + 1) (t := (_, _, _)) pw nsk ez ra17 bo17 l1 l2 (by omega) (by omega)
      exact ⟨_, _, _, rfl, tn17.mono (by omega) (Nat.le_refl _) (Nat.le_refl _), bo17 _ _ own_no ed14⟩
    rintro σ H14 ⟨x10, x11, ts, rfl, tn14, ed14⟩
    -- perhaps it is taken back
    refine ⟨fun σ' H' => ∃ (x10 x11 : Option V) (ts : List (List Str × List Int × List Int)), σ' = [some (.ref sk), some (.str s), some (.ref p), some (.ref p2), some (.ref ro), some (.ref v.2.p), some (.ref d), some (.int (0 + i)), some (.ref v.2.m), some (.ref v.2.B), x10, x11, x12, x13, x14, none, none, none] ∧ Tn K a es sk H9 H' (n + 5110 + 20 * i + 13) (40 + (i + 1)) (i + 1) ts ∧
      H' d = some (.tup [.int a1, .int a2, .int a3, .int a4, .int a5]), ?_, ?_⟩
    · clear lx lm htx ra11 ra12 ra13 et
      have tl : z < ts.length := by rw [tn14.l3]; exact zl
      have et : ts[z]? = some ts[z] := List.getElem?_eq_getElem tl
      generalize ts[z] = t at et
      obtain ⟨xs, zs, ms⟩ := t
      obtain ⟨ra14, lx, lm⟩ := tn14.rw z v _ ez et
      have lx : xs.length ≤ 40 + (i + 1) := lx
      have lm : ms.length ≤ i + 1 := lm
      refine ⟨_, rfl, v.2.B, _, 3, _, rfl, rfl, SqL.of ra14.bs.hB, atI_nat (j := 3) rfl, small_line (by decide), fun e2 he2 => ?_⟩
      have s15 := same_new (u := .lst []) (Same.refl H14) he2
      refine ⟨_, _, .lst (SqL.of (s15 _ _ ra14.h3)) (DpAll.ints ms), .lst (SqL.of upd_same) .nil, shaped_ints ms, shaped_nil, _, rfl, ?_⟩
      rw [eqv_ints_nil]
      generalize upd H14 e2 _ = H15 at s15
      have tn15 := tn14.same s15
      have ed15 := s15 _ _ ed14
      refine ite2 (fun c => ?_) (fun c => ?_)
      rotate_left
      · exact ⟨_, _, ts, rfl, tn15.mono (by omega) (Nat.le_refl _) (Nat.le_refl _), ed15⟩
      refine ⟨_, rfl, sk, n + 5110 + 20 * i + 12, _, rfl, tn15.sk, by omega, by decide, by decide, fun z16 H16 z160 z161 sk16 kp16 => ?_⟩
      have tn16 := tn15.kp kp16 sk16 nsk
      have ed16 := kp16 d _ (fun z => by
        obtain ⟨_, _, _, e, _⟩ := tn15.sk
        rw [← z, ed15] at e
        cases e) ed15
      have ra16 := (tn16.rw z v _ ez et).1
      refine ⟨rfl, _, rfl, ?_⟩
      refine ite2 (fun c2 => ?_) (fun c2 => ?_)
      rotate_left
      · exact ⟨_, _, ts, rfl, tn16.mono (by omega) (Nat.le_refl _) (Nat.le_refl _), ed16⟩
      obtain ⟨l, k0, rfl⟩ : ∃ (l : List Int) (k0 : Nat), ms = l ++ [(k0 : Int)] := by
        rcases List.eq_nil_or_concat ms with e0 | ⟨l, w', e0⟩
        · rw [e0] at c
          exact absurd c (by decide)
        · rw [List.concat_eq_append] at e0
          obtain ⟨k1, e1, _⟩ := ra16.mks l [] w' e0
          exact ⟨l, k1, by rw [e0, e1]⟩
      obtain ⟨kx, _⟩ := mks_back ra16.mks
      obtain ⟨⟨p1, p2', p3⟩, ⟨p4, p5⟩, p6, p7, p8, p9, _⟩ := Row.apart adz
      refine ⟨_, rfl, v.2.B, v.2.b0, v.2.b1, v.2.b2, v.2.b3, xs, zs, l, k0, rfl, ra16.bs, ra16.h3, ra16.n30, ra16.n31, ra16.n32, ra16.n3B, kx, by omega, fun H17 bu17 bs17 m17 => ?_⟩
      have qf := p8 v.2.f (by simp)
      have qt := p8 v.2.t (by simp)
      have qn := p8 v.2.n (by simp)
      have qc := p8 v.2.c (by simp)
      refine ⟨_, rfl, v.2.m, v.2.dx, v.2.bm, v.2.f, v.2.t, v.2.n, v.2.c, xs, l, k0, rfl, bu17 _ _ p9 ra16.hm, ra16.ds.but bu17 qf qt qn qc, bu17 _ _ qc ra16.hc, ra16.nd, by omega, kx, fun y H18 bu18 d18 c18 => ?_⟩
      obtain ⟨ra18, bo18⟩ := ra16.back adz bu17 bs17 m17 bu18 d18 c18
      have l1 : (xs.take k0).length ≤ 40 + (i + 1) := by rw [List.length_take]; omega
      have l2 : l.length ≤ i + 1 := by rw [List.length_append] at lm; omega
      have tn18 := tn16.one (wd' := 40 + (i + 1)) (mk' := i + 1) (t := (_, _, _)) pw nsk ez ra18 bo18 l1 l2 (Nat.le_refl _) (Nat.le_refl _)
      exact ⟨_, _, _, rfl, tn18.mono (by omega) (Nat.le_refl _) (Nat.le_refl _), bo18 _ _ (ra16.own_no ed16) ed16⟩
    -- the desks are compared
    clear lx lm htx ra11 ra12 ra13 et tn11 tn12 tn13 tn14
    rintro σ H14 ⟨x10, x11, ts, rfl, tn, ed⟩
    have h100 : 100000 ≤ sizeLine := small_line (by decide)
    have szb : ∀ b : Bool, Sz 0 5 (.bool b) := fun b => Sz.bool b
    refine ⟨3, rfl, by decide, by decide, for_range (lo := 0) (n := 3) (fun (_ : Nat) σ H' => ∃ (x12 x13 x14 : Option V), σ = [some (.ref sk), some (.str s), some (.ref p), some (.ref p2), some (.ref ro), some (.ref v.2.p), some (.ref d), some (.int (0 + i)), some (.ref v.2.m), some (.ref v.2.B), x10, x11, x12, x13, x14, none, none, none] ∧ Tn K a es sk H9 H' (n + 5110 + 20 * i + 13) (40 + (i + 1)) (i + 1) ts ∧
      H' d = some (.tup [.int a1, .int a2, .int a3, .int a4, .int a5])) ⟨_, _, _, rfl, tn, ed⟩ ?_ ?_⟩
    rotate_left
    · rintro σ H20 ⟨x12, x13, x14, rfl, tn20, ed20⟩
      exact ⟨_, _, _, _, _, _, _, _, _, d, a1, a2, a3, a4, a5, ts, rfl, tn20.mono (by omega) (Nat.le_refl _) (Nat.le_refl _), ed20, bd⟩
    rintro j σ H20 hj ⟨x12, x13, x14, rfl, tn20, ed20⟩
    have g20 := gX _ tn20.bu
    obtain ⟨w, ew, w3⟩ : ∃ w : Nat, ((0 + (j : Int)) + 1) % 3 = (w : Int) ∧ w < 3 := ⟨(j + 1) % 3, by omega, by omega⟩
    have jl : j < es.length := by rw [les]; exact hj
    have wl : w < es.length := by rw [les]; exact w3
    have ej : es[j]? = some es[j] := List.getElem?_eq_getElem jl
    have ew' : es[w]? = some es[w] := List.getElem?_eq_getElem wl
    have mj : es[j] ∈ es := List.getElem_mem jl
    have mw : es[w] ∈ es := List.getElem_mem wl
    obtain ⟨tj, bj, pj⟩ := st8 _ mj
    obtain ⟨tw, bw, pw'⟩ := st8 _ mw
    have rtj := rts _ mj
    have rtw := rts _ mw
    generalize es[j] = y at ej tj bj pj rtj
    generalize es[w] = u at ew' tw bw pw' rtw
    have tjl : j < ts.length := by rw [tn20.l3]; exact jl
    have twl : w < ts.length := by rw [tn20.l3]; exact wl
    have etj : ts[j]? = some ts[j] := List.getElem?_eq_getElem tjl
    have etw : ts[w]? = some ts[w] := List.getElem?_eq_getElem twl
    generalize ts[j] = tq at etj
    generalize ts[w] = tr at etw
    obtain ⟨xs, zs, ms⟩ := tq
    obtain ⟨ys, us, ns⟩ := tr
    have raj := (tn20.rw j y _ ej etj).1
    have raw := (tn20.rw w u _ ew' etw).1
    have z1 := sz_plan rtj (Nat.le_refl _)
    have z2 := sz_plan rtw (Nat.le_refl _)
    have atj : ∀ {H' : Hp}, Same H20 H' → SqL K H' ro (es.map fun e => V.ref e.1) := fun s => SqL.of (s _ _ (g20 _ _ ro8))
    have ixj : atI (es.map fun e => V.ref e.1) (0 + (j : Int)) = some (.ref y.1) := by
      have : (0 + (j : Int)) = ((j : Nat) : Int) := by omega
      rw [this]
      exact atI_nat (by rw [List.getElem?_map, ej]; rfl)
    refine ⟨_, rfl, _, rfl, _, _, rfl, rfl, .inl ⟨_, rfl, ?_⟩⟩
    refine ⟨_, _, rfl, rfl, (by show (0 : Int) < 3; decide), ?_⟩
    refine ⟨ro, _, ((0 + (j : Int)) + 1) % 3, .ref u.1, rfl, rfl, atj (Same.refl _), by rw [ew]; exact atI_nat (by rw [List.getElem?_map, ew']; rfl), ?_⟩
    -- what is due
    refine ⟨fun σ' H' => σ' = [some (.ref sk), some (.str s), some (.ref p), some (.ref p2), some (.ref ro), some (.ref v.2.p), some (.ref d), some (.int (0 + i)), some (.ref v.2.m), some (.ref v.2.B), x10, x11, some (.int (0 + j)), some (.ref u.1), some (.bl (eqB y.2.ws u.2.ws y.2.js u.2.js && decide (xs = ys))), none, none, none] ∧ H' = H20, ?_, ?_⟩
    · refine ⟨_, rfl, _, rfl, ro, _, _, .ref y.1, rfl, rfl, atj (Same.refl _), ixj, y.1, _, 1, _, rfl, rfl, sameT g20 tj, atI_nat (j := 1) rfl, _, .tuple [wDat y.2.ws, jDat y.2.js], rfl, dp_plan (pj.mono g20), z1.sh, Nat.le_trans z1.ln h100, Nat.le_trans z1.dp (by decide), _, rfl, u.1, _, 1, _, rfl, rfl, sameT g20 tw, atI_nat (j := 1) rfl, _, .tuple [wDat u.2.ws, jDat u.2.js], rfl, dp_plan (pw'.mono g20), z2.sh, Nat.le_trans z2.ln h100, Nat.le_trans z2.dp (by decide), rfl, ?_⟩
      have du : decide (V.str (PyData.shown (.tuple [wDat y.2.ws, jDat y.2.js])) = V.str (PyData.shown (.tuple [wDat u.2.ws, jDat u.2.js]))) = eqB y.2.ws u.2.ws y.2.js u.2.js := by
        rw [← plan_eq rtj rtw]
        exact decide_eq_decide.mpr ⟨fun h => V.str.inj h, fun h => congrArg V.str h⟩
      rw [du]
      refine ⟨_, rfl, ?_⟩
      refine ite2 (fun c => ?_) (fun c => ?_)
      rotate_left
      · rw [Bool.eq_false_iff.mpr c]
        exact ⟨rfl, rfl⟩
      rw [c]
      refine ⟨_, rfl, _, rfl, ro, _, _, .ref y.1, rfl, rfl, atj (Same.refl _), ixj, y.1, _, 2, _, rfl, rfl, sameT g20 tj, atI_nat (j := 2) rfl, y.2.B, _, 0, _, rfl, rfl, SqL.of raj.bs.hB, atI_nat (j := 0) rfl, ?_⟩
      refine ⟨_, rfl, u.1, _, 2, _, rfl, rfl, sameT g20 tw, atI_nat (j := 2) rfl, u.2.B, _, 0, _, rfl, rfl, SqL.of raw.bs.hB, atI_nat (j := 0) rfl, ?_⟩
      refine ⟨_, _, dp_w (SqL.of raj.bs.h0), dp_w (SqL.of raw.bs.h0), shaped_strs (fun x h => ((raj.wd x h).tx).mono (by decide)), shaped_strs (fun x h => ((raw.wd x h).tx).mono (by decide)), ?_⟩
      rw [eqv_w, Bool.true_and]
      exact ⟨rfl, rfl⟩
    rintro σ H' ⟨rfl, rfl⟩
    generalize edu : (eqB y.2.ws u.2.ws y.2.js u.2.js && decide (xs = ys)) = due
    have edv : (eqB u.2.ws y.2.ws u.2.js y.2.js && decide (ys = xs)) = due := by
      rw [← edu, eqB_comm]
      congr 1
      exact decide_eq_decide.mpr ⟨Eq.symm, Eq.symm⟩
    refine ⟨_, rfl, _, rfl, ro, _, _, .ref y.1, rfl, rfl, atj (Same.refl _), ixj, y.1, _, 0, _, rfl, rfl, sameT g20 tj, atI_nat (j := 0) rfl, _, rfl, u.1, _, 0, _, rfl, rfl, sameT g20 tw, atI_nat (j := 0) rfl, ?_⟩
    refine desks_eq T raj raw (bj.mono g20) (bw.mono g20) rtj rtw fun H21 s21 => ⟨_, .bool due, rfl, by rw [edu]; exact .bl _, (szb _).sh, Nat.le_trans (szb _).ln (small_line (by decide)), Nat.le_trans (szb _).dp (by decide), _, rfl, _, .bool due, rfl, .bl _, (szb _).sh, Nat.le_trans (szb _).ln (small_line (by decide)), Nat.le_trans (szb _).dp (by decide), rfl, _, rfl, ?_⟩
    refine iteNS rfl ?_
    have g21 := g20.trans s21
    refine ⟨_, rfl, u.1, _, 0, _, rfl, rfl, sameT g21 tw, atI_nat (j := 0) rfl, _, rfl, _, rfl, ro, _, _, .ref y.1, rfl, rfl, atj s21, ixj, y.1, _, 0, _, rfl, rfl, sameT g21 tj, atI_nat (j := 0) rfl, ?_⟩
    refine desks_eq T (raw.same s21) (raj.same s21) (bw.mono g21) (bj.mono g21) rtw rtj fun H22 s22 => ⟨_, .bool due, rfl, by rw [edv]; exact .bl _, (szb _).sh, Nat.le_trans (szb _).ln (small_line (by decide)), Nat.le_trans (szb _).dp (by decide), _, rfl, _, .bool due, rfl, .bl _, (szb _).sh, Nat.le_trans (szb _).ln (small_line (by decide)), Nat.le_trans (szb _).dp (by decide), rfl, _, rfl, ?_⟩
    refine iteNS rfl ?_
    exact ⟨_, _, _, rfl, (tn20.same s21).same s22, s22 _ _ (s21 _ _ ed20)⟩
  · rintro σ H10 ⟨x5, x7, x8, x9, x10, x11, x12, x13, x14, d, a1, a2, a3, a4, a5, ts, rfl, tn, ed, bd⟩
    have g10 := gX _ tn.bu
    have pl8 := (pl4.mono g47).mono g78
    have zl : 0 < es.length := by rw [les]; show 0 < 3; decide
    have ez : es[0]? = some es[0] := List.getElem?_eq_getElem zl
    have mz : es[0] ∈ es := List.getElem_mem zl
    obtain ⟨tz, bz, pz⟩ := st8 _ mz
    have rtz := rts _ mz
    generalize es[0] = v at ez mz tz bz pz rtz
    have tl : 0 < ts.length := by rw [tn.l3]; exact zl
    have et : ts[0]? = some ts[0] := List.getElem?_eq_getElem tl
    generalize ts[0] = t at et
    obtain ⟨xs, zs, ms⟩ := t
    have ix0 : atI (es.map fun e => V.ref e.1) 0 = some (.ref v.1) := atI_nat (j := 0) (by rw [List.getElem?_map, ez]; rfl)
    refine ⟨_, rfl, G8, 28, p, r, g, ws, js, rfl, g10, pl8, rt, by decide, fun bm G11 H11 x11 bx11 => ?_⟩
    have s11 : Same H10 H11 := fun b o e => x11.fr b o id e
    have tn11 := tn.same s11
    have ra11 := (tn11.rw 0 v _ ez et).1
    obtain ⟨_, lx, lm⟩ := tn11.rw 0 v _ ez et
    have lx : xs.length ≤ 40 + 14 := lx
    have g11 := gX _ tn11.bu
    refine ⟨_, rfl, ro, _, 0, .ref v.1, rfl, rfl, SqL.of (g11 _ _ ro8), ix0, v.1, _, 0, _, rfl, rfl, sameT g11 tz, atI_nat (j := 0) rfl, v.2.m, v.2.dx, _, rfl, ra11.hm, rfl, v.2.m, v.2.dx, v.2.bm, v.2.f, v.2.t, v.2.n, v.2.c, xs, rfl, ra11.hm, ra11.ds, fun fw hfw => ?_⟩
    have s12 := same_new (u := .lst (xs.map V.str)) (Same.refl H11) hfw
    have fw12 := upd_same (H := H11) (a := fw) (o := .lst (xs.map V.str))
    generalize upd H11 fw _ = H12 at s12 fw12
    have tn12 := tn11.same s12
    have ra12 := (tn12.rw 0 v _ ez et).1
    have g12 := gX _ tn12.bu
    have bx12 := (bx11.mono x11.gh).mono s12
    obtain ⟨dbx, fbx, hbx, tybx⟩ := box_ty bx12 T
    have a40 : Any5 v.2.ws v.2.js := rtz.any5 (by decide)
    have txd : ∀ x ∈ xs, Tx 5000 x := fun x h => ((ra12.wd x h).tx).mono (by decide)
    have off : ∀ {y : V} {t : Value} (_ : TyX K H12 y t) (_ : PySem.W.kitOne K t (.ref a.Desk) = some false) (_ : PySem.W.notFirst K a.Desk t = true) {Q : VK}, Q (.bl false) H12 → rEqO K a.Desk (spDEq K a) (.ref v.2.m) y H12 Q := @fun _ _ ty no nf Q q =>
      ⟨v.2.m, v.2.dx, _, _, rfl, ra12.hm, ty, nf, v.2.m, v.2.dx, v.2.bm, v.2.f, v.2.t, v.2.n, v.2.c, _, v.2.ws, v.2.js, xs, rfl, ra12.hm, ra12.ds, bz.mono g12, a40, txd, .inr ⟨_, ty, no, q⟩⟩
    refine ⟨_, _, rfl, ?_⟩
    refine ⟨_, rfl, ro, _, 0, .ref v.1, rfl, rfl, SqL.of (g12 _ _ ro8), ix0, v.1, _, 0, _, rfl, rfl, sameT g12 tz, atI_nat (j := 0) rfl, _, rfl, ?_⟩
    refine off tybx T.no_Desk_Box T.nf_Desk_Box ?_
    refine ⟨_, rfl, ro, _, 0, .ref v.1, rfl, rfl, SqL.of (g12 _ _ ro8), ix0, v.1, _, 0, _, rfl, rfl, sameT g12 tz, atI_nat (j := 0) rfl, _, rfl, ?_⟩
    refine off (.base (.lst fw12)) T.no_Desk_list T.nf_Desk_list ?_
    refine ⟨_, rfl, ro, _, 0, .ref v.1, rfl, rfl, SqL.of (g12 _ _ ro8), ix0, v.1, _, 0, _, rfl, rfl, sameT g12 tz, atI_nat (j := 0) rfl, _, rfl, fw, _, rfl, .inl (SqL.of fw12), ?_⟩
    refine off (.base (.int _)) T.no_Desk_int T.nf_Desk_int ?_
    refine ⟨_, rfl, _, rfl, ro, _, 0, .ref v.1, rfl, rfl, SqL.of (g12 _ _ ro8), ix0, v.1, _, 0, _, rfl, rfl, sameT g12 tz, atI_nat (j := 0) rfl, ?_⟩
    have tyd : TyX K H12 (.ref v.2.m) (.ref a.Desk) := .base (.ins ra12.hm T.c_Desk T.kl_Desk T.spO T.tkO T.ob_Desk)
    refine ⟨bm, dbx, fbx, _, rfl, hbx, tyd, T.nf_Box_Desk, bm, _, ws, js, rfl, bx12, rt.any5 (by decide), .inr ⟨_, tyd, T.no_Box_Desk, ?_⟩⟩
    refine ⟨small_line (by show 4 ≤ 100000; decide), fun l hl => ?_⟩
    have s13 := same_new (u := .lst [.bl false, .bl false, .bl false, .bl false]) (Same.refl H12) hl
    have dD := upd_same (H := H12) (a := l) (o := .lst [.bl false, .bl false, .bl false, .bl false])
    generalize upd H12 l _ = H13 at s13 dD
    refine ⟨_, rfl, small_line (by show 1 ≤ 100000; decide), fun l1 hl1 => ?_⟩
    have s14 := same_new (u := .lst [.bl false]) s13 hl1
    have dD := upd_old (u := .lst [.bl false]) dD hl1
    have d1 := upd_same (H := H13) (a := l1) (o := .lst [.bl false])
    generalize upd H13 l1 _ = H14 at s14 dD d1
    refine ⟨l1, 4, _, rfl, rfl, d1, by decide, by decide, small_line (by decide), fun l2 hl2 => ?_⟩
    have s15 := same_new (u := .lst (List.replicate (4 : Int).toNat [V.bl false]).flatten) s14 hl2
    have dD := upd_old (u := .lst (List.replicate (4 : Int).toNat [V.bl false]).flatten) dD hl2
    have d2 := upd_same (H := H14) (a := l2) (o := .lst (List.replicate (4 : Int).toNat [V.bl false]).flatten)
    generalize upd H14 l2 _ = H15 at s15 dD d2
    have dps : DpAll K H15 (List.replicate 4 (.bl false)) ((List.replicate 4 false).map PyData.bool) := DpAll.bools (List.replicate 4 false)
    refine ⟨.list ((List.replicate 4 false).map PyData.bool), .list ((List.replicate 4 false).map PyData.bool), .lst (SqL.of dD) dps, .lst (SqL.of d2) dps, by decide, by decide, _, rfl, ?_⟩
    refine ite2 (fun _ => ?_) (fun c => absurd (by decide) c)
    have tn15 := tn12.same s15
    have ra15 := (tn15.rw 0 v _ ez et).1
    have g15 := gX _ tn15.bu
    refine ⟨_, rfl, ro, _, 0, .ref v.1, rfl, rfl, SqL.of (g15 _ _ ro8), ix0, v.1, _, 0, _, rfl, rfl, sameT g15 tz, atI_nat (j := 0) rfl, _, rfl, ro, _, 0, .ref v.1, rfl, rfl, SqL.of (g15 _ _ ro8), ix0, v.1, _, 2, _, rfl, rfl, sameT g15 tz, atI_nat (j := 2) rfl, ?_⟩
    refine ⟨v.2.m, v.2.dx, v.2.bm, v.2.f, v.2.t, v.2.n, v.2.c, v.2.B, v.2.b0, v.2.b1, v.2.b2, v.2.b3, xs, zs, rfl, ra15.hm, ra15.ds, ra15.bs, by omega, fun x h => (ra15.wd x h).tx, fun H16 s16 => ?_⟩
    exact k _ (kpX _ (tn15.same s16).bu)
end
end K52

namespace K52
open PySem PySem.Spec PyProof.Rows L2 Sf
section
variable {P : Program} {w : World} {K : PySem.W.Frag} {mg : Str → Option Value} {base : Heap} {a : Ad}
abbrev s_purse : Stmt := top 37
theorem sc_purse : FnScope ["script", "spot", "cell"] ["script", "spot"] (defScope s_purse) := ⟨rfl, rfl, rfl, by decide +kernel, rfl, by decide +kernel, by decide +kernel⟩
def spPurse (K : PySem.W.Frag) : Sp := fun vs H Q _ => ∃ (a : Addr) (ns : List Int) (s : Nat), vs = [.ref a, .int s] ∧ SqL K H a (ns.map V.int) ∧ ns.length ≤ 63 ∧ (∀ z ∈ ns, Builtin.Int.intBits z ≤ 1048576) ∧ s ≤ 100 ∧
  ∀ p H', H p = none → Sk 0 H' p → Kp p H H' → Q (.ref p) H'
theorem ok_purse {f : Addr} {fd : FuncData} (F : Fun K "_law_fm_purse" "_law_fm_purse" s_purse f fd) (T : Txt K mg a) : FnOk P w K mg base CX0 1 f fd ["script", "spot"] (spPurse K) := by
  refine F.ok sc_purse (fun vs H Q E h => by obtain ⟨a, ns, s, rfl, _⟩ := h; rfl) (fun cdv A outer s H vs Q E hr h => ?_)
  refine ⟨_, (pss_cons (ps_set (i := 2) sc_purse.nd rfl (Or.inl rfl) (pe_ifExp (pt_cmpR op_lt (pv 1) (pe_callB call_len_seq (by rfl) T.b_len PySem.boot_len (pa_cons (pv 0) pa_nil)) (nomark _)) (pe_ix ix_list (pv 0) (pv 1) (fun _ _ => rfl)) pe_int))
      (pss_one (ps_ret (pe_lst (pa_cons (pe_callB (call_max2 rfl) (by rfl) T.b_max (by decide +kernel) (pa_cons pe_int (pa_cons (pe_op op_sub (pe_callB call_abs (by rfl) T.b_abs (by decide +kernel) (pa_cons (pv 2) pa_nil)) (pe_op op_powX pe_int pe_int)) pa_nil))) (pa_cons (pe_op op_mod (pe_callTy call_int1 (by rfl) T.b_int (by decide +kernel) (pa_cons (pe_op op_add (pe_op op_add (pe_op op_mulX (pv 2) pe_int) (pe_op op_mulX (pv 1) pe_int)) pe_int) pa_nil)) (pe_op op_add (pe_op op_powX pe_int pe_int) pe_int)) (pa_cons pe_int pa_nil))))))), ?_⟩
  obtain ⟨a, ns, s, rfl, hS, hl, hb, hs, k⟩ := h
  have lit : Builtin.Int.intBits 30011 ≤ 15 := bits_le (by decide)
  have lit2 : Builtin.Int.intBits 7368787 ≤ 23 := bits_le (by decide)
  have lit3 : Builtin.Int.intBits (s : Int) ≤ 7 := bits_in (by omega) (by omega)
  have z0 : Builtin.Int.intBits 0 ≤ 1048576 := by decide
  refine ⟨_, rfl, _, rfl, a, _, rfl, .inl hS, _, _, rfl, rfl, _, rfl, ?_⟩
  rw [List.length_map]
  have cell : ∀ x : Nat, (h : x < ns.length) → Builtin.Int.intBits ns[x] ≤ 1048576 := fun x h => hb _ (List.getElem_mem h)
  refine ite2 (fun c => ?_) (fun c => ?_)
  · have lt : s < ns.length := by
      have := of_decide_eq_true c
      omega
    have hm : ns[s]? = some ns[s] := List.getElem?_eq_getElem lt
    have z0 := cell s lt
    refine ⟨_, rfl, _, rfl, a, _, s, .int ns[s], rfl, rfl, hS, atI_nat (by rw [List.getElem?_map, hm]; rfl), ?_⟩
    refine ⟨_, rfl, _, rfl, _, _, rfl, rfl, ⟨by decide, pow_ok (n := 4) (by decide) (by decide) (by decide) (by decide)⟩, _, _, rfl, rfl, _, _, rfl, ?_⟩
    refine ⟨_, rfl, _, _, rfl, rfl, (by show _ + _ ≤ _; omega), _, rfl, _, _, rfl, rfl, (by show _ + _ ≤ _; omega), _, _, rfl, rfl, _, _, rfl, rfl, .inl ⟨_, rfl, ?_⟩⟩
    refine ⟨_, _, rfl, rfl, ⟨by decide, pow_ok (n := 4) (by decide) (by decide) (by decide) (by decide)⟩, _, _, rfl, rfl, _, _, rfl, rfl, (by show (0 : Int) < _; decide), ?_⟩
    refine ⟨by show 3 ≤ sizeLine; decide, fun p hp => ?_⟩
    refine k p _ hp ⟨_, _, _, upd_same, Int.emod_nonneg _ (by decide), Int.lt_of_lt_of_le (Int.emod_lt_of_pos _ (by decide)) (by decide), Int.le_refl _, Int.le_refl _⟩ (fun b o nb h => by rw [upd_ne nb]; exact h)
  · refine ⟨_, rfl, _, rfl, _, _, rfl, rfl, ⟨by decide, pow_ok (n := 4) (by decide) (by decide) (by decide) (by decide)⟩, _, _, rfl, rfl, _, _, rfl, ?_⟩
    refine ⟨_, rfl, _, _, rfl, rfl, (by show _ + _ ≤ _; omega), _, rfl, _, _, rfl, rfl, (by show _ + _ ≤ _; omega), _, _, rfl, rfl, _, _, rfl, rfl, .inl ⟨_, rfl, ?_⟩⟩
    refine ⟨_, _, rfl, rfl, ⟨by decide, pow_ok (n := 4) (by decide) (by decide) (by decide) (by decide)⟩, _, _, rfl, rfl, _, _, rfl, rfl, (by show (0 : Int) < _; decide), ?_⟩
    refine ⟨by show 3 ≤ sizeLine; decide, fun p hp => ?_⟩
    refine k p _ hp ⟨_, _, _, upd_same, Int.emod_nonneg _ (by decide), Int.lt_of_lt_of_le (Int.emod_lt_of_pos _ (by decide)) (by decide), Int.le_refl _, Int.le_refl _⟩ (fun b o nb h => by rw [upd_ne nb]; exact h)
abbrev s_law : Stmt := top 50
theorem sc_law : FnScope ["script", "spot", "sack"] ["script"] (defScope s_law) := ⟨rfl, rfl, rfl, by decide +kernel, rfl, by decide +kernel, by decide +kernel⟩
def spLaw (K : PySem.W.Frag) : Sp := fun vs H Q _ => ∃ (a : Addr) (ns : List Int), vs = [.ref a] ∧ SqL K H a (ns.map V.int) ∧ ns.length ≤ 63 ∧ (∀ z ∈ ns, Builtin.Int.intBits z ≤ 1048576) ∧ ∀ H', Q (.bl true) H'
theorem ok_law {f : Addr} {fd fdP fdR : FuncData} (F : Fun K "law" "law" s_law f fd) (T : Txt K mg a) (c_purse : Cal P w K mg base 1 a.purse fdP ["script", "spot"] (spPurse K)) (c_right : CalG P w K mg base 9 a.right fdR ["sack"] (spRight K)) :
    Gd P w K mg base (9 + 1) f fd ["script"] (spLaw K) := by
  refine okG F sc_law (fun vs H Q E h => by obtain ⟨a, ns, rfl, _⟩ := h; rfl) (fun cdv A outer s H vs Q E hG hr h => ?_)
  have hr_purse := hr.mono (show 1 ≤ 9 by decide)
  have hr_right := hr
  refine ⟨_, (pss_cons (ps_for PassesOwn.never rfl (pi_range1 rfl T.b_range (pa_cons (pe_callB (call_max2 rfl) (by rfl) T.b_max (by decide +kernel) (pa_cons pe_int (pa_cons (pe_callB (call_min2 rfl) (by rfl) T.b_min (by decide +kernel) (pa_cons pe_int (pa_cons (pe_callB call_len_seq (by rfl) T.b_len PySem.boot_len (pa_cons (pv 0) pa_nil)) pa_nil))) pa_nil))) pa_nil)) (pg_name (i := 1) sc_law.nd rfl (Or.inl rfl))
      (pss_cons (ps_set (i := 2) sc_law.nd rfl (Or.inl rfl) (pe_call c_purse.ok hr_purse rfl T.g_purse T.k_purse c_purse.binds .nil pass0 (pa_cons (pv 0) (pa_cons (pv 1) pa_nil))))
      (pss_one (ps_if (pt_not (pt_val (pe_callG hG c_right.go hr_right rfl T.g_right T.k_right c_right.binds (pa_cons (pv 2) pa_nil)))) (pss_one (ps_ret pe_bl)) pss_nil))))
      (pss_one (ps_ret pe_bl))), ?_⟩
  obtain ⟨sc, ns, rfl, hS, hl, hb, k⟩ := h
  refine ⟨_, rfl, sc, _, rfl, .inl hS, _, _, rfl, _, _, rfl, _, rfl, ?_⟩
  rw [List.length_map]
  generalize hm : (if (if ((ns.length : Nat) : Int) < 4 then ((ns.length : Nat) : Int) else 4) > 1 then (if ((ns.length : Nat) : Int) < 4 then ((ns.length : Nat) : Int) else 4) else 1) = m
  have hm8 : 1 ≤ m ∧ m ≤ 4 := by
    subst hm
    split <;> split <;> omega
  refine ⟨by omega, by omega, for_range (lo := 0) (n := m.toNat) (fun i σ H' => ∃ x1 x2, σ = [some (.ref sc), x1, x2] ∧ SqL K H' sc (ns.map V.int)) ⟨_, _, rfl, hS⟩ ?_ ?_⟩
  · rintro i σ H1 hi ⟨x1, x2, rfl, h1⟩
    rw [Int.zero_add]
    refine ⟨_, rfl, _, rfl, sc, ns, i, rfl, h1, hl, hb, by omega, fun p H2 np sk kp => ?_⟩
    refine ⟨_, rfl, p, 0, rfl, sk, by omega, fun H3 kp3 => ⟨_, rfl, ?_⟩⟩
    exact iteF ⟨_, _, rfl, seq_kp h1 np (kp.trans kp3)⟩
  · rintro σ H1 ⟨x1, x2, rfl, h1⟩
    exact k _
end
/-! ### the end -/
theorem all_mk {P : Program} {w : World} {K : PySem.W.Frag} {h : Heap} {mg : Str → Option Value} {fa c0 c1 c2 c3 c4 c5 c6 c7 fI fis_piece fis_film fcheck_film fcheck_piece fcheck_rule fsplice_of_films fstand_at fcoin fsigns fword fpair fjoin fpurse fplan fgreat fmade fbent fnear fsites fbench fput fcall_fault fdo_ ftakes_back ffits fdeed fcalled fundone flies_there fany_plan fright flaw CWorkings fWorkings___init__ CBox fBox___init__ fBox___eq__ fBox_strips pBox_strips fBox_rules pBox_rules CDesk fDesk___init__ fDesk__put fDesk__splice fDesk__check_number fDesk_films fDesk_undo fDesk___len__ fDesk___call__ fDesk___eq__ : Addr} (X : K.In h) (G : h.Ns mainGlobals mg) (hfa : mg "law" = some (.ref fa))
    {nm0 q0 : Str} {N0 : Addr} {bs0 bm0 : List Value} {sn0 : List Str} {sb0 : List Value} {ab0 : Bool} {co0 : Option Bool} {dd0 : Option Addr} {ma0 mb0 mc0 md0 me0 : Option Value}
    {nm1 q1 : Str} {N1 : Addr} {bs1 bm1 : List Value} {sn1 : List Str} {sb1 : List Value} {ab1 : Bool} {co1 : Option Bool} {dd1 : Option Addr} {ma1 mb1 mc1 md1 me1 : Option Value}
    {nm2 q2 : Str} {N2 : Addr} {bs2 bm2 : List Value} {sn2 : List Str} {sb2 : List Value} {ab2 : Bool} {co2 : Option Bool} {dd2 : Option Addr} {ma2 mb2 mc2 md2 me2 : Option Value}
    {nm3 q3 : Str} {N3 : Addr} {bs3 bm3 : List Value} {sn3 : List Str} {sb3 : List Value} {ab3 : Bool} {co3 : Option Bool} {dd3 : Option Addr} {ma3 mb3 mc3 md3 me3 : Option Value}
    {nm4 q4 : Str} {N4 : Addr} {bs4 bm4 : List Value} {sn4 : List Str} {sb4 : List Value} {ab4 : Bool} {co4 : Option Bool} {dd4 : Option Addr} {ma4 mb4 mc4 md4 me4 : Option Value}
    {nm5 q5 : Str} {N5 : Addr} {bs5 bm5 : List Value} {sn5 : List Str} {sb5 : List Value} {ab5 : Bool} {co5 : Option Bool} {dd5 : Option Addr} {ma5 mb5 mc5 md5 me5 : Option Value}
    {nm6 q6 : Str} {N6 : Addr} {bs6 bm6 : List Value} {sn6 : List Str} {sb6 : List Value} {ab6 : Bool} {co6 : Option Bool} {dd6 : Option Addr} {ma6 mb6 mc6 md6 me6 : Option Value}
    {nm7 q7 : Str} {N7 : Addr} {bs7 bm7 : List Value} {sn7 : List Str} {sb7 : List Value} {ab7 : Bool} {co7 : Option Bool} {dd7 : Option Addr} {ma7 mb7 mc7 md7 me7 : Option Value}
    {odI anI : Option Addr} {slI : Array (Option Value)} {ocI kVI dcI pmI cdI ctI : Value}
    {odis_piece anis_piece : Option Addr} {slis_piece : Array (Option Value)} {ocis_piece kVis_piece dcis_piece pmis_piece cdis_piece ctis_piece : Value}
    {odis_film anis_film : Option Addr} {slis_film : Array (Option Value)} {ocis_film kVis_film dcis_film pmis_film cdis_film ctis_film : Value}
    {odcheck_film ancheck_film : Option Addr} {slcheck_film : Array (Option Value)} {occheck_film kVcheck_film dccheck_film pmcheck_film cdcheck_film ctcheck_film : Value}
    {odcheck_piece ancheck_piece : Option Addr} {slcheck_piece : Array (Option Value)} {occheck_piece kVcheck_piece dccheck_piece pmcheck_piece cdcheck_piece ctcheck_piece : Value}
    {odcheck_rule ancheck_rule : Option Addr} {slcheck_rule : Array (Option Value)} {occheck_rule kVcheck_rule dccheck_rule pmcheck_rule cdcheck_rule ctcheck_rule : Value}
    {odsplice_of_films ansplice_of_films : Option Addr} {slsplice_of_films : Array (Option Value)} {ocsplice_of_films kVsplice_of_films dcsplice_of_films pmsplice_of_films cdsplice_of_films ctsplice_of_films : Value}
    {odstand_at anstand_at : Option Addr} {slstand_at : Array (Option Value)} {ocstand_at kVstand_at dcstand_at pmstand_at cdstand_at ctstand_at : Value}
    {odcoin ancoin : Option Addr} {slcoin : Array (Option Value)} {occoin kVcoin dccoin pmcoin cdcoin ctcoin : Value}
    {odsigns ansigns : Option Addr} {slsigns : Array (Option Value)} {ocsigns kVsigns dcsigns pmsigns cdsigns ctsigns : Value}
    {odword anword : Option Addr} {slword : Array (Option Value)} {ocword kVword dcword pmword cdword ctword : Value}
    {odpair anpair : Option Addr} {slpair : Array (Option Value)} {ocpair kVpair dcpair pmpair cdpair ctpair : Value}
    {odjoin anjoin : Option Addr} {sljoin : Array (Option Value)} {ocjoin kVjoin dcjoin pmjoin cdjoin ctjoin : Value}
    {odpurse anpurse : Option Addr} {slpurse : Array (Option Value)} {ocpurse kVpurse dcpurse pmpurse cdpurse ctpurse : Value}
    {odplan anplan : Option Addr} {slplan : Array (Option Value)} {ocplan kVplan dcplan pmplan cdplan ctplan : Value}
    {odgreat angreat : Option Addr} {slgreat : Array (Option Value)} {ocgreat kVgreat dcgreat pmgreat cdgreat ctgreat : Value}
    {odmade anmade : Option Addr} {slmade : Array (Option Value)} {ocmade kVmade dcmade pmmade cdmade ctmade : Value}
    {odbent anbent : Option Addr} {slbent : Array (Option Value)} {ocbent kVbent dcbent pmbent cdbent ctbent : Value}
    {odnear annear : Option Addr} {slnear : Array (Option Value)} {ocnear kVnear dcnear pmnear cdnear ctnear : Value}
    {odsites ansites : Option Addr} {slsites : Array (Option Value)} {ocsites kVsites dcsites pmsites cdsites ctsites : Value}
    {odbench anbench : Option Addr} {slbench : Array (Option Value)} {ocbench kVbench dcbench pmbench cdbench ctbench : Value}
    {odput anput : Option Addr} {slput : Array (Option Value)} {ocput kVput dcput pmput cdput ctput : Value}
    {odcall_fault ancall_fault : Option Addr} {slcall_fault : Array (Option Value)} {occall_fault kVcall_fault dccall_fault pmcall_fault cdcall_fault ctcall_fault : Value}
    {oddo_ ando_ : Option Addr} {sldo_ : Array (Option Value)} {ocdo_ kVdo_ dcdo_ pmdo_ cddo_ ctdo_ : Value}
    {odtakes_back antakes_back : Option Addr} {sltakes_back : Array (Option Value)} {octakes_back kVtakes_back dctakes_back pmtakes_back cdtakes_back cttakes_back : Value}
    {odfits anfits : Option Addr} {slfits : Array (Option Value)} {ocfits kVfits dcfits pmfits cdfits ctfits : Value}
    {oddeed andeed : Option Addr} {sldeed : Array (Option Value)} {ocdeed kVdeed dcdeed pmdeed cddeed ctdeed : Value}
    {odcalled ancalled : Option Addr} {slcalled : Array (Option Value)} {occalled kVcalled dccalled pmcalled cdcalled ctcalled : Value}
    {odundone anundone : Option Addr} {slundone : Array (Option Value)} {ocundone kVundone dcundone pmundone cdundone ctundone : Value}
    {odlies_there anlies_there : Option Addr} {sllies_there : Array (Option Value)} {oclies_there kVlies_there dclies_there pmlies_there cdlies_there ctlies_there : Value}
    {odany_plan anany_plan : Option Addr} {slany_plan : Array (Option Value)} {ocany_plan kVany_plan dcany_plan pmany_plan cdany_plan ctany_plan : Value}
    {odright anright : Option Addr} {slright : Array (Option Value)} {ocright kVright dcright pmright cdright ctright : Value}
    {odlaw anlaw : Option Addr} {sllaw : Array (Option Value)} {oclaw kVlaw dclaw pmlaw cdlaw ctlaw : Value}
    {odWorkings___init__ anWorkings___init__ : Option Addr} {slWorkings___init__ : Array (Option Value)} {ocWorkings___init__ kVWorkings___init__ dcWorkings___init__ pmWorkings___init__ cdWorkings___init__ ctWorkings___init__ : Value}
    {odBox___init__ anBox___init__ : Option Addr} {slBox___init__ : Array (Option Value)} {ocBox___init__ kVBox___init__ dcBox___init__ pmBox___init__ cdBox___init__ ctBox___init__ : Value}
    {odBox___eq__ anBox___eq__ : Option Addr} {slBox___eq__ : Array (Option Value)} {ocBox___eq__ kVBox___eq__ dcBox___eq__ pmBox___eq__ cdBox___eq__ ctBox___eq__ : Value}
    {rsBox_strips : List Value}
    {odBox_strips anBox_strips : Option Addr} {slBox_strips : Array (Option Value)} {ocBox_strips kVBox_strips dcBox_strips pmBox_strips cdBox_strips ctBox_strips : Value}
    {rsBox_rules : List Value}
    {odBox_rules anBox_rules : Option Addr} {slBox_rules : Array (Option Value)} {ocBox_rules kVBox_rules dcBox_rules pmBox_rules cdBox_rules ctBox_rules : Value}
    {odDesk___init__ anDesk___init__ : Option Addr} {slDesk___init__ : Array (Option Value)} {ocDesk___init__ kVDesk___init__ dcDesk___init__ pmDesk___init__ cdDesk___init__ ctDesk___init__ : Value}
    {odDesk__put anDesk__put : Option Addr} {slDesk__put : Array (Option Value)} {ocDesk__put kVDesk__put dcDesk__put pmDesk__put cdDesk__put ctDesk__put : Value}
    {odDesk__splice anDesk__splice : Option Addr} {slDesk__splice : Array (Option Value)} {ocDesk__splice kVDesk__splice dcDesk__splice pmDesk__splice cdDesk__splice ctDesk__splice : Value}
    {odDesk__check_number anDesk__check_number : Option Addr} {slDesk__check_number : Array (Option Value)} {ocDesk__check_number kVDesk__check_number dcDesk__check_number pmDesk__check_number cdDesk__check_number ctDesk__check_number : Value}
    {odDesk_films anDesk_films : Option Addr} {slDesk_films : Array (Option Value)} {ocDesk_films kVDesk_films dcDesk_films pmDesk_films cdDesk_films ctDesk_films : Value}
    {odDesk_undo anDesk_undo : Option Addr} {slDesk_undo : Array (Option Value)} {ocDesk_undo kVDesk_undo dcDesk_undo pmDesk_undo cdDesk_undo ctDesk_undo : Value}
    {odDesk___len__ anDesk___len__ : Option Addr} {slDesk___len__ : Array (Option Value)} {ocDesk___len__ kVDesk___len__ dcDesk___len__ pmDesk___len__ cdDesk___len__ ctDesk___len__ : Value}
    {odDesk___call__ anDesk___call__ : Option Addr} {slDesk___call__ : Array (Option Value)} {ocDesk___call__ kVDesk___call__ dcDesk___call__ pmDesk___call__ cdDesk___call__ ctDesk___call__ : Value}
    {odDesk___eq__ anDesk___eq__ : Option Addr} {slDesk___eq__ : Array (Option Value)} {ocDesk___eq__ kVDesk___eq__ dcDesk___eq__ pmDesk___eq__ cdDesk___eq__ ctDesk___eq__ : Value}
    {tPICTURES : Tok}
    (a0 : PySem.W.nsIn K mainGlobals "FilmError" = some (some (.ref c0)))
    (x0 : K.lookup c0 = some (excClassObj nm0 q0 c0 N0 bs0 bm0 true sn0 sb0 ab0 co0 dd0 ma0 mb0 mc0 md0 me0 "ValueError.__new__"))
    (r0 : PySem.HandSPX.refsVE bm0 = true)
    (sa0 : PySem.W.findIn K (.ref c0) "__setattr__" = some (some (.builtin "object.__setattr__")))
    (ga0 : PySem.W.findIn K (.ref c0) "__getattribute__" = some (some (.builtin "BaseException.__getattribute__")))
    (gg0 : PySem.W.findIn K (.ref c0) "__getattr__" = some none)
    (no0 : PySem.W.findIn K (.ref c0) "value" = some none)
    (ini0 : PySem.W.findIn K (.ref c0) "__init__" = some (some (.ref fI)))
    (kp0 : PySem.W.keepIn K (.ref c0) = true)
    (ex0 : PySem.W.subIn K (.ref c0) (.type "BaseException") = some true)
    (ty0 : PySem.W.typeIn K (.ref c0) = some (.type "type"))
    (kl0 : PySem.W.findIn K (.ref c0) "__class__" = some (some (.builtin "object.__class__")))
    (hd0 : PySem.W.hasDictIn K c0 = true)
    (ic0 : PySem.W.isClsIn K c0 = true)
    (ob0 : PySem.W.mroIn K c0 (.type "object") = some true)
    (v0 : PySem.W.subIn K (.ref c0) (.type "ValueError") = some true)
    (a1 : PySem.W.nsIn K mainGlobals "InvalidFilm" = some (some (.ref c1)))
    (x1 : K.lookup c1 = some (excClassObj nm1 q1 c1 N1 bs1 bm1 true sn1 sb1 ab1 co1 dd1 ma1 mb1 mc1 md1 me1 "ValueError.__new__"))
    (r1 : PySem.HandSPX.refsVE bm1 = true)
    (sa1 : PySem.W.findIn K (.ref c1) "__setattr__" = some (some (.builtin "object.__setattr__")))
    (ga1 : PySem.W.findIn K (.ref c1) "__getattribute__" = some (some (.builtin "BaseException.__getattribute__")))
    (gg1 : PySem.W.findIn K (.ref c1) "__getattr__" = some none)
    (no1 : PySem.W.findIn K (.ref c1) "value" = some none)
    (ini1 : PySem.W.findIn K (.ref c1) "__init__" = some (some (.ref fI)))
    (kp1 : PySem.W.keepIn K (.ref c1) = true)
    (ex1 : PySem.W.subIn K (.ref c1) (.type "BaseException") = some true)
    (ty1 : PySem.W.typeIn K (.ref c1) = some (.type "type"))
    (kl1 : PySem.W.findIn K (.ref c1) "__class__" = some (some (.builtin "object.__class__")))
    (hd1 : PySem.W.hasDictIn K c1 = true)
    (ic1 : PySem.W.isClsIn K c1 = true)
    (ob1 : PySem.W.mroIn K c1 (.type "object") = some true)
    (v1 : PySem.W.subIn K (.ref c1) (.type "ValueError") = some true)
    (a2 : PySem.W.nsIn K mainGlobals "InvalidPiece" = some (some (.ref c2)))
    (x2 : K.lookup c2 = some (excClassObj nm2 q2 c2 N2 bs2 bm2 true sn2 sb2 ab2 co2 dd2 ma2 mb2 mc2 md2 me2 "ValueError.__new__"))
    (r2 : PySem.HandSPX.refsVE bm2 = true)
    (sa2 : PySem.W.findIn K (.ref c2) "__setattr__" = some (some (.builtin "object.__setattr__")))
    (ga2 : PySem.W.findIn K (.ref c2) "__getattribute__" = some (some (.builtin "BaseException.__getattribute__")))
    (gg2 : PySem.W.findIn K (.ref c2) "__getattr__" = some none)
    (no2 : PySem.W.findIn K (.ref c2) "value" = some none)
    (ini2 : PySem.W.findIn K (.ref c2) "__init__" = some (some (.ref fI)))
    (kp2 : PySem.W.keepIn K (.ref c2) = true)
    (ex2 : PySem.W.subIn K (.ref c2) (.type "BaseException") = some true)
    (ty2 : PySem.W.typeIn K (.ref c2) = some (.type "type"))
    (kl2 : PySem.W.findIn K (.ref c2) "__class__" = some (some (.builtin "object.__class__")))
    (hd2 : PySem.W.hasDictIn K c2 = true)
    (ic2 : PySem.W.isClsIn K c2 = true)
    (ob2 : PySem.W.mroIn K c2 (.type "object") = some true)
    (v2 : PySem.W.subIn K (.ref c2) (.type "ValueError") = some true)
    (a3 : PySem.W.nsIn K mainGlobals "InvalidRule" = some (some (.ref c3)))
    (x3 : K.lookup c3 = some (excClassObj nm3 q3 c3 N3 bs3 bm3 true sn3 sb3 ab3 co3 dd3 ma3 mb3 mc3 md3 me3 "ValueError.__new__"))
    (r3 : PySem.HandSPX.refsVE bm3 = true)
    (sa3 : PySem.W.findIn K (.ref c3) "__setattr__" = some (some (.builtin "object.__setattr__")))
    (ga3 : PySem.W.findIn K (.ref c3) "__getattribute__" = some (some (.builtin "BaseException.__getattribute__")))
    (gg3 : PySem.W.findIn K (.ref c3) "__getattr__" = some none)
    (no3 : PySem.W.findIn K (.ref c3) "value" = some none)
    (ini3 : PySem.W.findIn K (.ref c3) "__init__" = some (some (.ref fI)))
    (kp3 : PySem.W.keepIn K (.ref c3) = true)
    (ex3 : PySem.W.subIn K (.ref c3) (.type "BaseException") = some true)
    (ty3 : PySem.W.typeIn K (.ref c3) = some (.type "type"))
    (kl3 : PySem.W.findIn K (.ref c3) "__class__" = some (some (.builtin "object.__class__")))
    (hd3 : PySem.W.hasDictIn K c3 = true)
    (ic3 : PySem.W.isClsIn K c3 = true)
    (ob3 : PySem.W.mroIn K c3 (.type "object") = some true)
    (v3 : PySem.W.subIn K (.ref c3) (.type "ValueError") = some true)
    (a4 : PySem.W.nsIn K mainGlobals "UnknownStrip" = some (some (.ref c4)))
    (x4 : K.lookup c4 = some (excClassObj nm4 q4 c4 N4 bs4 bm4 true sn4 sb4 ab4 co4 dd4 ma4 mb4 mc4 md4 me4 "ValueError.__new__"))
    (r4 : PySem.HandSPX.refsVE bm4 = true)
    (sa4 : PySem.W.findIn K (.ref c4) "__setattr__" = some (some (.builtin "object.__setattr__")))
    (ga4 : PySem.W.findIn K (.ref c4) "__getattribute__" = some (some (.builtin "BaseException.__getattribute__")))
    (gg4 : PySem.W.findIn K (.ref c4) "__getattr__" = some none)
    (no4 : PySem.W.findIn K (.ref c4) "value" = some none)
    (ini4 : PySem.W.findIn K (.ref c4) "__init__" = some (some (.ref fI)))
    (kp4 : PySem.W.keepIn K (.ref c4) = true)
    (ex4 : PySem.W.subIn K (.ref c4) (.type "BaseException") = some true)
    (ty4 : PySem.W.typeIn K (.ref c4) = some (.type "type"))
    (kl4 : PySem.W.findIn K (.ref c4) "__class__" = some (some (.builtin "object.__class__")))
    (hd4 : PySem.W.hasDictIn K c4 = true)
    (ic4 : PySem.W.isClsIn K c4 = true)
    (ob4 : PySem.W.mroIn K c4 (.type "object") = some true)
    (v4 : PySem.W.subIn K (.ref c4) (.type "ValueError") = some true)
    (a5 : PySem.W.nsIn K mainGlobals "UnknownRule" = some (some (.ref c5)))
    (x5 : K.lookup c5 = some (excClassObj nm5 q5 c5 N5 bs5 bm5 true sn5 sb5 ab5 co5 dd5 ma5 mb5 mc5 md5 me5 "ValueError.__new__"))
    (r5 : PySem.HandSPX.refsVE bm5 = true)
    (sa5 : PySem.W.findIn K (.ref c5) "__setattr__" = some (some (.builtin "object.__setattr__")))
    (ga5 : PySem.W.findIn K (.ref c5) "__getattribute__" = some (some (.builtin "BaseException.__getattribute__")))
    (gg5 : PySem.W.findIn K (.ref c5) "__getattr__" = some none)
    (no5 : PySem.W.findIn K (.ref c5) "value" = some none)
    (ini5 : PySem.W.findIn K (.ref c5) "__init__" = some (some (.ref fI)))
    (kp5 : PySem.W.keepIn K (.ref c5) = true)
    (ex5 : PySem.W.subIn K (.ref c5) (.type "BaseException") = some true)
    (ty5 : PySem.W.typeIn K (.ref c5) = some (.type "type"))
    (kl5 : PySem.W.findIn K (.ref c5) "__class__" = some (some (.builtin "object.__class__")))
    (hd5 : PySem.W.hasDictIn K c5 = true)
    (ic5 : PySem.W.isClsIn K c5 = true)
    (ob5 : PySem.W.mroIn K c5 (.type "object") = some true)
    (v5 : PySem.W.subIn K (.ref c5) (.type "ValueError") = some true)
    (a6 : PySem.W.nsIn K mainGlobals "NoSplice" = some (some (.ref c6)))
    (x6 : K.lookup c6 = some (excClassObj nm6 q6 c6 N6 bs6 bm6 true sn6 sb6 ab6 co6 dd6 ma6 mb6 mc6 md6 me6 "ValueError.__new__"))
    (r6 : PySem.HandSPX.refsVE bm6 = true)
    (sa6 : PySem.W.findIn K (.ref c6) "__setattr__" = some (some (.builtin "object.__setattr__")))
    (ga6 : PySem.W.findIn K (.ref c6) "__getattribute__" = some (some (.builtin "BaseException.__getattribute__")))
    (gg6 : PySem.W.findIn K (.ref c6) "__getattr__" = some none)
    (no6 : PySem.W.findIn K (.ref c6) "value" = some none)
    (ini6 : PySem.W.findIn K (.ref c6) "__init__" = some (some (.ref fI)))
    (kp6 : PySem.W.keepIn K (.ref c6) = true)
    (ex6 : PySem.W.subIn K (.ref c6) (.type "BaseException") = some true)
    (ty6 : PySem.W.typeIn K (.ref c6) = some (.type "type"))
    (kl6 : PySem.W.findIn K (.ref c6) "__class__" = some (some (.builtin "object.__class__")))
    (hd6 : PySem.W.hasDictIn K c6 = true)
    (ic6 : PySem.W.isClsIn K c6 = true)
    (ob6 : PySem.W.mroIn K c6 (.type "object") = some true)
    (v6 : PySem.W.subIn K (.ref c6) (.type "ValueError") = some true)
    (a7 : PySem.W.nsIn K mainGlobals "NothingToUndo" = some (some (.ref c7)))
    (x7 : K.lookup c7 = some (excClassObj nm7 q7 c7 N7 bs7 bm7 true sn7 sb7 ab7 co7 dd7 ma7 mb7 mc7 md7 me7 "ValueError.__new__"))
    (r7 : PySem.HandSPX.refsVE bm7 = true)
    (sa7 : PySem.W.findIn K (.ref c7) "__setattr__" = some (some (.builtin "object.__setattr__")))
    (ga7 : PySem.W.findIn K (.ref c7) "__getattribute__" = some (some (.builtin "BaseException.__getattribute__")))
    (gg7 : PySem.W.findIn K (.ref c7) "__getattr__" = some none)
    (no7 : PySem.W.findIn K (.ref c7) "value" = some none)
    (ini7 : PySem.W.findIn K (.ref c7) "__init__" = some (some (.ref fI)))
    (kp7 : PySem.W.keepIn K (.ref c7) = true)
    (ex7 : PySem.W.subIn K (.ref c7) (.type "BaseException") = some true)
    (ty7 : PySem.W.typeIn K (.ref c7) = some (.type "type"))
    (kl7 : PySem.W.findIn K (.ref c7) "__class__" = some (some (.builtin "object.__class__")))
    (hd7 : PySem.W.hasDictIn K c7 = true)
    (ic7 : PySem.W.isClsIn K c7 = true)
    (ob7 : PySem.W.mroIn K c7 (.type "object") = some true)
    (v7 : PySem.W.subIn K (.ref c7) (.type "ValueError") = some true)
    (spO : PySem.W.specialIn K (.builtin "object.__class__") "__get__" = some (some (.builtin "getset_descriptor.__get__")))
    (tkO : PySem.W.takesIn K (.builtin "object.__class__") = some true)
    (tyI : PySem.W.typeIn K (.ref fI) = some (.type "function"))
    (s0_0 : PySem.W.subIn K (.ref c0) (.ref c0) = some true)
    (s0_1 : PySem.W.subIn K (.ref c0) (.ref c1) = some false)
    (s0_2 : PySem.W.subIn K (.ref c0) (.ref c2) = some false)
    (s0_3 : PySem.W.subIn K (.ref c0) (.ref c3) = some false)
    (s0_4 : PySem.W.subIn K (.ref c0) (.ref c4) = some false)
    (s0_5 : PySem.W.subIn K (.ref c0) (.ref c5) = some false)
    (s0_6 : PySem.W.subIn K (.ref c0) (.ref c6) = some false)
    (s0_7 : PySem.W.subIn K (.ref c0) (.ref c7) = some false)
    (s1_0 : PySem.W.subIn K (.ref c1) (.ref c0) = some true)
    (s1_1 : PySem.W.subIn K (.ref c1) (.ref c1) = some true)
    (s1_2 : PySem.W.subIn K (.ref c1) (.ref c2) = some false)
    (s1_3 : PySem.W.subIn K (.ref c1) (.ref c3) = some false)
    (s1_4 : PySem.W.subIn K (.ref c1) (.ref c4) = some false)
    (s1_5 : PySem.W.subIn K (.ref c1) (.ref c5) = some false)
    (s1_6 : PySem.W.subIn K (.ref c1) (.ref c6) = some false)
    (s1_7 : PySem.W.subIn K (.ref c1) (.ref c7) = some false)
    (s2_0 : PySem.W.subIn K (.ref c2) (.ref c0) = some true)
    (s2_1 : PySem.W.subIn K (.ref c2) (.ref c1) = some false)
    (s2_2 : PySem.W.subIn K (.ref c2) (.ref c2) = some true)
    (s2_3 : PySem.W.subIn K (.ref c2) (.ref c3) = some false)
    (s2_4 : PySem.W.subIn K (.ref c2) (.ref c4) = some false)
    (s2_5 : PySem.W.subIn K (.ref c2) (.ref c5) = some false)
    (s2_6 : PySem.W.subIn K (.ref c2) (.ref c6) = some false)
    (s2_7 : PySem.W.subIn K (.ref c2) (.ref c7) = some false)
    (s3_0 : PySem.W.subIn K (.ref c3) (.ref c0) = some true)
    (s3_1 : PySem.W.subIn K (.ref c3) (.ref c1) = some false)
    (s3_2 : PySem.W.subIn K (.ref c3) (.ref c2) = some false)
    (s3_3 : PySem.W.subIn K (.ref c3) (.ref c3) = some true)
    (s3_4 : PySem.W.subIn K (.ref c3) (.ref c4) = some false)
    (s3_5 : PySem.W.subIn K (.ref c3) (.ref c5) = some false)
    (s3_6 : PySem.W.subIn K (.ref c3) (.ref c6) = some false)
    (s3_7 : PySem.W.subIn K (.ref c3) (.ref c7) = some false)
    (s4_0 : PySem.W.subIn K (.ref c4) (.ref c0) = some true)
    (s4_1 : PySem.W.subIn K (.ref c4) (.ref c1) = some false)
    (s4_2 : PySem.W.subIn K (.ref c4) (.ref c2) = some false)
    (s4_3 : PySem.W.subIn K (.ref c4) (.ref c3) = some false)
    (s4_4 : PySem.W.subIn K (.ref c4) (.ref c4) = some true)
    (s4_5 : PySem.W.subIn K (.ref c4) (.ref c5) = some false)
    (s4_6 : PySem.W.subIn K (.ref c4) (.ref c6) = some false)
    (s4_7 : PySem.W.subIn K (.ref c4) (.ref c7) = some false)
    (s5_0 : PySem.W.subIn K (.ref c5) (.ref c0) = some true)
    (s5_1 : PySem.W.subIn K (.ref c5) (.ref c1) = some false)
    (s5_2 : PySem.W.subIn K (.ref c5) (.ref c2) = some false)
    (s5_3 : PySem.W.subIn K (.ref c5) (.ref c3) = some false)
    (s5_4 : PySem.W.subIn K (.ref c5) (.ref c4) = some false)
    (s5_5 : PySem.W.subIn K (.ref c5) (.ref c5) = some true)
    (s5_6 : PySem.W.subIn K (.ref c5) (.ref c6) = some false)
    (s5_7 : PySem.W.subIn K (.ref c5) (.ref c7) = some false)
    (s6_0 : PySem.W.subIn K (.ref c6) (.ref c0) = some true)
    (s6_1 : PySem.W.subIn K (.ref c6) (.ref c1) = some false)
    (s6_2 : PySem.W.subIn K (.ref c6) (.ref c2) = some false)
    (s6_3 : PySem.W.subIn K (.ref c6) (.ref c3) = some false)
    (s6_4 : PySem.W.subIn K (.ref c6) (.ref c4) = some false)
    (s6_5 : PySem.W.subIn K (.ref c6) (.ref c5) = some false)
    (s6_6 : PySem.W.subIn K (.ref c6) (.ref c6) = some true)
    (s6_7 : PySem.W.subIn K (.ref c6) (.ref c7) = some false)
    (s7_0 : PySem.W.subIn K (.ref c7) (.ref c0) = some true)
    (s7_1 : PySem.W.subIn K (.ref c7) (.ref c1) = some false)
    (s7_2 : PySem.W.subIn K (.ref c7) (.ref c2) = some false)
    (s7_3 : PySem.W.subIn K (.ref c7) (.ref c3) = some false)
    (s7_4 : PySem.W.subIn K (.ref c7) (.ref c4) = some false)
    (s7_5 : PySem.W.subIn K (.ref c7) (.ref c5) = some false)
    (s7_6 : PySem.W.subIn K (.ref c7) (.ref c6) = some false)
    (s7_7 : PySem.W.subIn K (.ref c7) (.ref c7) = some true)
    (lI : K.lookup fI = some ⟨ocI, odI, .func (PySem.W.fnOf "__init__" "FilmError.__init__" (defArgs s_FilmError___init__) (defBody s_FilmError___init__) (defScope s_FilmError___init__) .none kVI dcI pmI anI cdI ctI), slI⟩)
    (oI : PySem.W.codeIn K cdI "FilmError.__init__" = true)
    (kI : PySem.W.keepIn K (.ref fI) = true)
    (gis_piece : PySem.W.nsIn K mainGlobals "is_piece" = some (some (.ref fis_piece)))
    (lis_piece : K.lookup fis_piece = some ⟨ocis_piece, odis_piece, .func (PySem.W.fnOf "is_piece" "is_piece" (defArgs s_is_piece) (defBody s_is_piece) (defScope s_is_piece) .none kVis_piece dcis_piece pmis_piece anis_piece cdis_piece ctis_piece), slis_piece⟩)
    (ois_piece : PySem.W.codeIn K cdis_piece "is_piece" = true)
    (kis_piece : PySem.W.keepIn K (.ref fis_piece) = true)
    (gis_film : PySem.W.nsIn K mainGlobals "is_film" = some (some (.ref fis_film)))
    (lis_film : K.lookup fis_film = some ⟨ocis_film, odis_film, .func (PySem.W.fnOf "is_film" "is_film" (defArgs s_is_film) (defBody s_is_film) (defScope s_is_film) .none kVis_film dcis_film pmis_film anis_film cdis_film ctis_film), slis_film⟩)
    (ois_film : PySem.W.codeIn K cdis_film "is_film" = true)
    (kis_film : PySem.W.keepIn K (.ref fis_film) = true)
    (gcheck_film : PySem.W.nsIn K mainGlobals "check_film" = some (some (.ref fcheck_film)))
    (lcheck_film : K.lookup fcheck_film = some ⟨occheck_film, odcheck_film, .func (PySem.W.fnOf "check_film" "check_film" (defArgs s_check_film) (defBody s_check_film) (defScope s_check_film) .none kVcheck_film dccheck_film pmcheck_film ancheck_film cdcheck_film ctcheck_film), slcheck_film⟩)
    (ocheck_film : PySem.W.codeIn K cdcheck_film "check_film" = true)
    (kcheck_film : PySem.W.keepIn K (.ref fcheck_film) = true)
    (gcheck_piece : PySem.W.nsIn K mainGlobals "check_piece" = some (some (.ref fcheck_piece)))
    (lcheck_piece : K.lookup fcheck_piece = some ⟨occheck_piece, odcheck_piece, .func (PySem.W.fnOf "check_piece" "check_piece" (defArgs s_check_piece) (defBody s_check_piece) (defScope s_check_piece) .none kVcheck_piece dccheck_piece pmcheck_piece ancheck_piece cdcheck_piece ctcheck_piece), slcheck_piece⟩)
    (ocheck_piece : PySem.W.codeIn K cdcheck_piece "check_piece" = true)
    (kcheck_piece : PySem.W.keepIn K (.ref fcheck_piece) = true)
    (gcheck_rule : PySem.W.nsIn K mainGlobals "check_rule" = some (some (.ref fcheck_rule)))
    (lcheck_rule : K.lookup fcheck_rule = some ⟨occheck_rule, odcheck_rule, .func (PySem.W.fnOf "check_rule" "check_rule" (defArgs s_check_rule) (defBody s_check_rule) (defScope s_check_rule) .none kVcheck_rule dccheck_rule pmcheck_rule ancheck_rule cdcheck_rule ctcheck_rule), slcheck_rule⟩)
    (ocheck_rule : PySem.W.codeIn K cdcheck_rule "check_rule" = true)
    (kcheck_rule : PySem.W.keepIn K (.ref fcheck_rule) = true)
    (gsplice_of_films : PySem.W.nsIn K mainGlobals "splice_of_films" = some (some (.ref fsplice_of_films)))
    (lsplice_of_films : K.lookup fsplice_of_films = some ⟨ocsplice_of_films, odsplice_of_films, .func (PySem.W.fnOf "splice_of_films" "splice_of_films" (defArgs s_splice_of_films) (defBody s_splice_of_films) (defScope s_splice_of_films) .none kVsplice_of_films dcsplice_of_films pmsplice_of_films ansplice_of_films cdsplice_of_films ctsplice_of_films), slsplice_of_films⟩)
    (osplice_of_films : PySem.W.codeIn K cdsplice_of_films "splice_of_films" = true)
    (ksplice_of_films : PySem.W.keepIn K (.ref fsplice_of_films) = true)
    (gstand_at : PySem.W.nsIn K mainGlobals "_stand_at" = some (some (.ref fstand_at)))
    (lstand_at : K.lookup fstand_at = some ⟨ocstand_at, odstand_at, .func (PySem.W.fnOf "_stand_at" "_stand_at" (defArgs s_stand_at) (defBody s_stand_at) (defScope s_stand_at) .none kVstand_at dcstand_at pmstand_at anstand_at cdstand_at ctstand_at), slstand_at⟩)
    (ostand_at : PySem.W.codeIn K cdstand_at "_stand_at" = true)
    (kstand_at : PySem.W.keepIn K (.ref fstand_at) = true)
    (gcoin : PySem.W.nsIn K mainGlobals "_law_coin" = some (some (.ref fcoin)))
    (lcoin : K.lookup fcoin = some ⟨occoin, odcoin, .func (PySem.W.fnOf "_law_coin" "_law_coin" (defArgs s_coin) (defBody s_coin) (defScope s_coin) .none kVcoin dccoin pmcoin ancoin cdcoin ctcoin), slcoin⟩)
    (ocoin : PySem.W.codeIn K cdcoin "_law_coin" = true)
    (kcoin : PySem.W.keepIn K (.ref fcoin) = true)
    (gsigns : PySem.W.nsIn K mainGlobals "_law_fm_signs" = some (some (.ref fsigns)))
    (lsigns : K.lookup fsigns = some ⟨ocsigns, odsigns, .func (PySem.W.fnOf "_law_fm_signs" "_law_fm_signs" (defArgs s_signs) (defBody s_signs) (defScope s_signs) .none kVsigns dcsigns pmsigns ansigns cdsigns ctsigns), slsigns⟩)
    (osigns : PySem.W.codeIn K cdsigns "_law_fm_signs" = true)
    (ksigns : PySem.W.keepIn K (.ref fsigns) = true)
    (gword : PySem.W.nsIn K mainGlobals "_law_fm_word" = some (some (.ref fword)))
    (lword : K.lookup fword = some ⟨ocword, odword, .func (PySem.W.fnOf "_law_fm_word" "_law_fm_word" (defArgs s_word) (defBody s_word) (defScope s_word) .none kVword dcword pmword anword cdword ctword), slword⟩)
    (oword : PySem.W.codeIn K cdword "_law_fm_word" = true)
    (kword : PySem.W.keepIn K (.ref fword) = true)
    (gpair : PySem.W.nsIn K mainGlobals "_law_fm_pair" = some (some (.ref fpair)))
    (lpair : K.lookup fpair = some ⟨ocpair, odpair, .func (PySem.W.fnOf "_law_fm_pair" "_law_fm_pair" (defArgs s_pair) (defBody s_pair) (defScope s_pair) .none kVpair dcpair pmpair anpair cdpair ctpair), slpair⟩)
    (opair : PySem.W.codeIn K cdpair "_law_fm_pair" = true)
    (kpair : PySem.W.keepIn K (.ref fpair) = true)
    (gjoin : PySem.W.nsIn K mainGlobals "_law_fm_join" = some (some (.ref fjoin)))
    (ljoin : K.lookup fjoin = some ⟨ocjoin, odjoin, .func (PySem.W.fnOf "_law_fm_join" "_law_fm_join" (defArgs s_join) (defBody s_join) (defScope s_join) .none kVjoin dcjoin pmjoin anjoin cdjoin ctjoin), sljoin⟩)
    (ojoin : PySem.W.codeIn K cdjoin "_law_fm_join" = true)
    (kjoin : PySem.W.keepIn K (.ref fjoin) = true)
    (gpurse : PySem.W.nsIn K mainGlobals "_law_fm_purse" = some (some (.ref fpurse)))
    (lpurse : K.lookup fpurse = some ⟨ocpurse, odpurse, .func (PySem.W.fnOf "_law_fm_purse" "_law_fm_purse" (defArgs s_purse) (defBody s_purse) (defScope s_purse) .none kVpurse dcpurse pmpurse anpurse cdpurse ctpurse), slpurse⟩)
    (opurse : PySem.W.codeIn K cdpurse "_law_fm_purse" = true)
    (kpurse : PySem.W.keepIn K (.ref fpurse) = true)
    (gplan : PySem.W.nsIn K mainGlobals "_law_fm_plan" = some (some (.ref fplan)))
    (lplan : K.lookup fplan = some ⟨ocplan, odplan, .func (PySem.W.fnOf "_law_fm_plan" "_law_fm_plan" (defArgs s_plan) (defBody s_plan) (defScope s_plan) .none kVplan dcplan pmplan anplan cdplan ctplan), slplan⟩)
    (oplan : PySem.W.codeIn K cdplan "_law_fm_plan" = true)
    (kplan : PySem.W.keepIn K (.ref fplan) = true)
    (ggreat : PySem.W.nsIn K mainGlobals "_law_fm_great" = some (some (.ref fgreat)))
    (lgreat : K.lookup fgreat = some ⟨ocgreat, odgreat, .func (PySem.W.fnOf "_law_fm_great" "_law_fm_great" (defArgs s_great) (defBody s_great) (defScope s_great) .none kVgreat dcgreat pmgreat angreat cdgreat ctgreat), slgreat⟩)
    (ogreat : PySem.W.codeIn K cdgreat "_law_fm_great" = true)
    (kgreat : PySem.W.keepIn K (.ref fgreat) = true)
    (gmade : PySem.W.nsIn K mainGlobals "_law_fm_made" = some (some (.ref fmade)))
    (lmade : K.lookup fmade = some ⟨ocmade, odmade, .func (PySem.W.fnOf "_law_fm_made" "_law_fm_made" (defArgs s_made) (defBody s_made) (defScope s_made) .none kVmade dcmade pmmade anmade cdmade ctmade), slmade⟩)
    (omade : PySem.W.codeIn K cdmade "_law_fm_made" = true)
    (kmade : PySem.W.keepIn K (.ref fmade) = true)
    (gbent : PySem.W.nsIn K mainGlobals "_law_fm_bent" = some (some (.ref fbent)))
    (lbent : K.lookup fbent = some ⟨ocbent, odbent, .func (PySem.W.fnOf "_law_fm_bent" "_law_fm_bent" (defArgs s_bent) (defBody s_bent) (defScope s_bent) .none kVbent dcbent pmbent anbent cdbent ctbent), slbent⟩)
    (obent : PySem.W.codeIn K cdbent "_law_fm_bent" = true)
    (kbent : PySem.W.keepIn K (.ref fbent) = true)
    (gnear : PySem.W.nsIn K mainGlobals "_law_fm_near" = some (some (.ref fnear)))
    (lnear : K.lookup fnear = some ⟨ocnear, odnear, .func (PySem.W.fnOf "_law_fm_near" "_law_fm_near" (defArgs s_near) (defBody s_near) (defScope s_near) .none kVnear dcnear pmnear annear cdnear ctnear), slnear⟩)
    (onear : PySem.W.codeIn K cdnear "_law_fm_near" = true)
    (knear : PySem.W.keepIn K (.ref fnear) = true)
    (gsites : PySem.W.nsIn K mainGlobals "_law_fm_sites" = some (some (.ref fsites)))
    (lsites : K.lookup fsites = some ⟨ocsites, odsites, .func (PySem.W.fnOf "_law_fm_sites" "_law_fm_sites" (defArgs s_sites) (defBody s_sites) (defScope s_sites) .none kVsites dcsites pmsites ansites cdsites ctsites), slsites⟩)
    (osites : PySem.W.codeIn K cdsites "_law_fm_sites" = true)
    (ksites : PySem.W.keepIn K (.ref fsites) = true)
    (gbench : PySem.W.nsIn K mainGlobals "_law_fm_bench" = some (some (.ref fbench)))
    (lbench : K.lookup fbench = some ⟨ocbench, odbench, .func (PySem.W.fnOf "_law_fm_bench" "_law_fm_bench" (defArgs s_bench) (defBody s_bench) (defScope s_bench) .none kVbench dcbench pmbench anbench cdbench ctbench), slbench⟩)
    (obench : PySem.W.codeIn K cdbench "_law_fm_bench" = true)
    (kbench : PySem.W.keepIn K (.ref fbench) = true)
    (gput : PySem.W.nsIn K mainGlobals "_law_fm_put" = some (some (.ref fput)))
    (lput : K.lookup fput = some ⟨ocput, odput, .func (PySem.W.fnOf "_law_fm_put" "_law_fm_put" (defArgs s_put) (defBody s_put) (defScope s_put) .none kVput dcput pmput anput cdput ctput), slput⟩)
    (oput : PySem.W.codeIn K cdput "_law_fm_put" = true)
    (kput : PySem.W.keepIn K (.ref fput) = true)
    (gcall_fault : PySem.W.nsIn K mainGlobals "_law_fm_call_fault" = some (some (.ref fcall_fault)))
    (lcall_fault : K.lookup fcall_fault = some ⟨occall_fault, odcall_fault, .func (PySem.W.fnOf "_law_fm_call_fault" "_law_fm_call_fault" (defArgs s_call_fault) (defBody s_call_fault) (defScope s_call_fault) .none kVcall_fault dccall_fault pmcall_fault ancall_fault cdcall_fault ctcall_fault), slcall_fault⟩)
    (ocall_fault : PySem.W.codeIn K cdcall_fault "_law_fm_call_fault" = true)
    (kcall_fault : PySem.W.keepIn K (.ref fcall_fault) = true)
    (gdo_ : PySem.W.nsIn K mainGlobals "_law_fm_do" = some (some (.ref fdo_)))
    (ldo_ : K.lookup fdo_ = some ⟨ocdo_, oddo_, .func (PySem.W.fnOf "_law_fm_do" "_law_fm_do" (defArgs s_do_) (defBody s_do_) (defScope s_do_) .none kVdo_ dcdo_ pmdo_ ando_ cddo_ ctdo_), sldo_⟩)
    (odo_ : PySem.W.codeIn K cddo_ "_law_fm_do" = true)
    (kdo_ : PySem.W.keepIn K (.ref fdo_) = true)
    (gtakes_back : PySem.W.nsIn K mainGlobals "_law_fm_takes_back" = some (some (.ref ftakes_back)))
    (ltakes_back : K.lookup ftakes_back = some ⟨octakes_back, odtakes_back, .func (PySem.W.fnOf "_law_fm_takes_back" "_law_fm_takes_back" (defArgs s_takes_back) (defBody s_takes_back) (defScope s_takes_back) .none kVtakes_back dctakes_back pmtakes_back antakes_back cdtakes_back cttakes_back), sltakes_back⟩)
    (otakes_back : PySem.W.codeIn K cdtakes_back "_law_fm_takes_back" = true)
    (ktakes_back : PySem.W.keepIn K (.ref ftakes_back) = true)
    (gfits : PySem.W.nsIn K mainGlobals "_law_fm_fits" = some (some (.ref ffits)))
    (lfits : K.lookup ffits = some ⟨ocfits, odfits, .func (PySem.W.fnOf "_law_fm_fits" "_law_fm_fits" (defArgs s_fits) (defBody s_fits) (defScope s_fits) .none kVfits dcfits pmfits anfits cdfits ctfits), slfits⟩)
    (ofits : PySem.W.codeIn K cdfits "_law_fm_fits" = true)
    (kfits : PySem.W.keepIn K (.ref ffits) = true)
    (gdeed : PySem.W.nsIn K mainGlobals "_law_fm_deed" = some (some (.ref fdeed)))
    (ldeed : K.lookup fdeed = some ⟨ocdeed, oddeed, .func (PySem.W.fnOf "_law_fm_deed" "_law_fm_deed" (defArgs s_deed) (defBody s_deed) (defScope s_deed) .none kVdeed dcdeed pmdeed andeed cddeed ctdeed), sldeed⟩)
    (odeed : PySem.W.codeIn K cddeed "_law_fm_deed" = true)
    (kdeed : PySem.W.keepIn K (.ref fdeed) = true)
    (gcalled : PySem.W.nsIn K mainGlobals "_law_fm_called" = some (some (.ref fcalled)))
    (lcalled : K.lookup fcalled = some ⟨occalled, odcalled, .func (PySem.W.fnOf "_law_fm_called" "_law_fm_called" (defArgs s_called) (defBody s_called) (defScope s_called) .none kVcalled dccalled pmcalled ancalled cdcalled ctcalled), slcalled⟩)
    (ocalled : PySem.W.codeIn K cdcalled "_law_fm_called" = true)
    (kcalled : PySem.W.keepIn K (.ref fcalled) = true)
    (gundone : PySem.W.nsIn K mainGlobals "_law_fm_undone" = some (some (.ref fundone)))
    (lundone : K.lookup fundone = some ⟨ocundone, odundone, .func (PySem.W.fnOf "_law_fm_undone" "_law_fm_undone" (defArgs s_undone) (defBody s_undone) (defScope s_undone) .none kVundone dcundone pmundone anundone cdundone ctundone), slundone⟩)
    (oundone : PySem.W.codeIn K cdundone "_law_fm_undone" = true)
    (kundone : PySem.W.keepIn K (.ref fundone) = true)
    (glies_there : PySem.W.nsIn K mainGlobals "_law_fm_lies_there" = some (some (.ref flies_there)))
    (llies_there : K.lookup flies_there = some ⟨oclies_there, odlies_there, .func (PySem.W.fnOf "_law_fm_lies_there" "_law_fm_lies_there" (defArgs s_lies_there) (defBody s_lies_there) (defScope s_lies_there) .none kVlies_there dclies_there pmlies_there anlies_there cdlies_there ctlies_there), sllies_there⟩)
    (olies_there : PySem.W.codeIn K cdlies_there "_law_fm_lies_there" = true)
    (klies_there : PySem.W.keepIn K (.ref flies_there) = true)
    (gany_plan : PySem.W.nsIn K mainGlobals "_law_fm_any_plan" = some (some (.ref fany_plan)))
    (lany_plan : K.lookup fany_plan = some ⟨ocany_plan, odany_plan, .func (PySem.W.fnOf "_law_fm_any_plan" "_law_fm_any_plan" (defArgs s_any_plan) (defBody s_any_plan) (defScope s_any_plan) .none kVany_plan dcany_plan pmany_plan anany_plan cdany_plan ctany_plan), slany_plan⟩)
    (oany_plan : PySem.W.codeIn K cdany_plan "_law_fm_any_plan" = true)
    (kany_plan : PySem.W.keepIn K (.ref fany_plan) = true)
    (gright : PySem.W.nsIn K mainGlobals "_law_right" = some (some (.ref fright)))
    (lright : K.lookup fright = some ⟨ocright, odright, .func (PySem.W.fnOf "_law_right" "_law_right" (defArgs s_right) (defBody s_right) (defScope s_right) .none kVright dcright pmright anright cdright ctright), slright⟩)
    (oright : PySem.W.codeIn K cdright "_law_right" = true)
    (kright : PySem.W.keepIn K (.ref fright) = true)
    (glaw : PySem.W.nsIn K mainGlobals "law" = some (some (.ref flaw)))
    (llaw : K.lookup flaw = some ⟨oclaw, odlaw, .func (PySem.W.fnOf "law" "law" (defArgs s_law) (defBody s_law) (defScope s_law) .none kVlaw dclaw pmlaw anlaw cdlaw ctlaw), sllaw⟩)
    (olaw : PySem.W.codeIn K cdlaw "law" = true)
    (klaw : PySem.W.keepIn K (.ref flaw) = true)
    (zint : PySem.W.nsIn K mainGlobals "int" = some none)
    (zlen : PySem.W.nsIn K mainGlobals "len" = some none)
    (zmax : PySem.W.nsIn K mainGlobals "max" = some none)
    (zmin : PySem.W.nsIn K mainGlobals "min" = some none)
    (zabs : PySem.W.nsIn K mainGlobals "abs" = some none)
    (zrepr : PySem.W.nsIn K mainGlobals "repr" = some none)
    (zisinstance : PySem.W.nsIn K mainGlobals "isinstance" = some none)
    (zlist : PySem.W.nsIn K mainGlobals "list" = some none)
    (ztuple : PySem.W.nsIn K mainGlobals "tuple" = some none)
    (zrange : PySem.W.nsIn K mainGlobals "range" = some none)
    (zsorted : PySem.W.nsIn K mainGlobals "sorted" = some none)
    (zall : PySem.W.nsIn K mainGlobals "all" = some none)
    (zset : PySem.W.nsIn K mainGlobals "set" = some none)
    (zenumerate : PySem.W.nsIn K mainGlobals "enumerate" = some none)
    (gWorkings : PySem.W.nsIn K mainGlobals "Workings" = some (some (.ref CWorkings)))
    (pgWorkings : PySem.W.plainGet K CWorkings Str.empty = true)
    (hdWorkings : PySem.W.hasDictIn K CWorkings = true)
    (poWorkings : PySem.W.plainOver K CWorkings = true)
    (saWorkings : PySem.W.findIn K (.ref CWorkings) "__setattr__" = some (some (.builtin "object.__setattr__")))
    (naWorkings__strips : PySem.W.findIn K (.ref CWorkings) "_strips" = some none)
    (naWorkings__rules : PySem.W.findIn K (.ref CWorkings) "_rules" = some none)
    (naWorkings__web : PySem.W.findIn K (.ref CWorkings) "_web" = some none)
    (naWorkings__table : PySem.W.findIn K (.ref CWorkings) "_table" = some none)
    (naWorkings__net : PySem.W.findIn K (.ref CWorkings) "_net" = some none)
    (naWorkings__routes : PySem.W.findIn K (.ref CWorkings) "_routes" = some none)
    (naWorkings__parts : PySem.W.findIn K (.ref CWorkings) "_parts" = some none)
    (naWorkings__lots : PySem.W.findIn K (.ref CWorkings) "_lots" = some none)
    (atWorkings___init__ : PySem.W.findIn K (.ref CWorkings) "__init__" = some (some (.ref fWorkings___init__)))
    (ifWorkings___init__ : PySem.W.isFn K (.ref fWorkings___init__) = true)
    (lWorkings___init__ : K.lookup fWorkings___init__ = some ⟨ocWorkings___init__, odWorkings___init__, .func (PySem.W.fnOf "__init__" "Workings.__init__" (defArgs s_Workings___init__) (defBody s_Workings___init__) (defScope s_Workings___init__) .none kVWorkings___init__ dcWorkings___init__ pmWorkings___init__ anWorkings___init__ cdWorkings___init__ ctWorkings___init__), slWorkings___init__⟩)
    (oWorkings___init__ : PySem.W.codeIn K cdWorkings___init__ "Workings.__init__" = true)
    (kWorkings___init__ : PySem.W.keepIn K (.ref fWorkings___init__) = true)
    (mkWorkings : PySem.W.makesIn K CWorkings = true)
    (kcWorkings : PySem.W.keepIn K (.ref CWorkings) = true)
    (gBox : PySem.W.nsIn K mainGlobals "Box" = some (some (.ref CBox)))
    (pgBox : PySem.W.plainGet K CBox Str.empty = true)
    (hdBox : PySem.W.hasDictIn K CBox = true)
    (poBox : PySem.W.plainOver K CBox = true)
    (saBox : PySem.W.findIn K (.ref CBox) "__setattr__" = some (some (.builtin "object.__setattr__")))
    (naBox__strips : PySem.W.findIn K (.ref CBox) "_strips" = some none)
    (naBox__rules : PySem.W.findIn K (.ref CBox) "_rules" = some none)
    (naBox__workings : PySem.W.findIn K (.ref CBox) "_workings" = some none)
    (atBox___init__ : PySem.W.findIn K (.ref CBox) "__init__" = some (some (.ref fBox___init__)))
    (ifBox___init__ : PySem.W.isFn K (.ref fBox___init__) = true)
    (lBox___init__ : K.lookup fBox___init__ = some ⟨ocBox___init__, odBox___init__, .func (PySem.W.fnOf "__init__" "Box.__init__" (defArgs s_Box___init__) (defBody s_Box___init__) (defScope s_Box___init__) .none kVBox___init__ dcBox___init__ pmBox___init__ anBox___init__ cdBox___init__ ctBox___init__), slBox___init__⟩)
    (oBox___init__ : PySem.W.codeIn K cdBox___init__ "Box.__init__" = true)
    (kBox___init__ : PySem.W.keepIn K (.ref fBox___init__) = true)
    (mkBox : PySem.W.makesIn K CBox = true)
    (kcBox : PySem.W.keepIn K (.ref CBox) = true)
    (atBox___eq__ : PySem.W.findIn K (.ref CBox) "__eq__" = some (some (.ref fBox___eq__)))
    (ifBox___eq__ : PySem.W.isFn K (.ref fBox___eq__) = true)
    (lBox___eq__ : K.lookup fBox___eq__ = some ⟨ocBox___eq__, odBox___eq__, .func (PySem.W.fnOf "__eq__" "Box.__eq__" (defArgs s_Box___eq__) (defBody s_Box___eq__) (defScope s_Box___eq__) .none kVBox___eq__ dcBox___eq__ pmBox___eq__ anBox___eq__ cdBox___eq__ ctBox___eq__), slBox___eq__⟩)
    (oBox___eq__ : PySem.W.codeIn K cdBox___eq__ "Box.__eq__" = true)
    (kBox___eq__ : PySem.W.keepIn K (.ref fBox___eq__) = true)
    (sfBox : PySem.W.selfFirst K CBox = true)
    (klBox : PySem.W.findIn K (.ref CBox) "__class__" = some (some (.builtin "object.__class__")))
    (obBox : PySem.W.mroIn K CBox (.type "object") = some true)
    (icBox : PySem.W.isClsIn K CBox = true)
    (tyBox : PySem.W.typeIn K (.ref CBox) = some (.type "type"))
    (suBox : PySem.W.subIn K (.ref CBox) (.ref CBox) = some true)
    (atBox_strips : PySem.W.findIn K (.ref CBox) "strips" = some (some (.ref pBox_strips)))
    (gtBox_strips : PySem.W.specialIn K (.ref pBox_strips) "__get__" = some (some (.builtin "property.__get__")))
    (tkBox_strips : PySem.W.takesIn K (.ref pBox_strips) = some true)
    (rcBox_strips : PySem.W.recIn K pBox_strips "property" = some (.ref fBox_strips :: rsBox_strips))
    (lBox_strips : K.lookup fBox_strips = some ⟨ocBox_strips, odBox_strips, .func (PySem.W.fnOf "strips" "Box.strips" (defArgs s_Box_strips) (defBody s_Box_strips) (defScope s_Box_strips) .none kVBox_strips dcBox_strips pmBox_strips anBox_strips cdBox_strips ctBox_strips), slBox_strips⟩)
    (oBox_strips : PySem.W.codeIn K cdBox_strips "Box.strips" = true)
    (kBox_strips : PySem.W.keepIn K (.ref fBox_strips) = true)
    (atBox_rules : PySem.W.findIn K (.ref CBox) "rules" = some (some (.ref pBox_rules)))
    (gtBox_rules : PySem.W.specialIn K (.ref pBox_rules) "__get__" = some (some (.builtin "property.__get__")))
    (tkBox_rules : PySem.W.takesIn K (.ref pBox_rules) = some true)
    (rcBox_rules : PySem.W.recIn K pBox_rules "property" = some (.ref fBox_rules :: rsBox_rules))
    (lBox_rules : K.lookup fBox_rules = some ⟨ocBox_rules, odBox_rules, .func (PySem.W.fnOf "rules" "Box.rules" (defArgs s_Box_rules) (defBody s_Box_rules) (defScope s_Box_rules) .none kVBox_rules dcBox_rules pmBox_rules anBox_rules cdBox_rules ctBox_rules), slBox_rules⟩)
    (oBox_rules : PySem.W.codeIn K cdBox_rules "Box.rules" = true)
    (kBox_rules : PySem.W.keepIn K (.ref fBox_rules) = true)
    (gDesk : PySem.W.nsIn K mainGlobals "Desk" = some (some (.ref CDesk)))
    (pgDesk : PySem.W.plainGet K CDesk Str.empty = true)
    (hdDesk : PySem.W.hasDictIn K CDesk = true)
    (poDesk : PySem.W.plainOver K CDesk = true)
    (saDesk : PySem.W.findIn K (.ref CDesk) "__setattr__" = some (some (.builtin "object.__setattr__")))
    (naDesk__box : PySem.W.findIn K (.ref CDesk) "_box" = some none)
    (naDesk__films : PySem.W.findIn K (.ref CDesk) "_films" = some none)
    (naDesk__trees : PySem.W.findIn K (.ref CDesk) "_trees" = some none)
    (naDesk__numbers : PySem.W.findIn K (.ref CDesk) "_numbers" = some none)
    (naDesk__calls : PySem.W.findIn K (.ref CDesk) "_calls" = some none)
    (atDesk___init__ : PySem.W.findIn K (.ref CDesk) "__init__" = some (some (.ref fDesk___init__)))
    (ifDesk___init__ : PySem.W.isFn K (.ref fDesk___init__) = true)
    (lDesk___init__ : K.lookup fDesk___init__ = some ⟨ocDesk___init__, odDesk___init__, .func (PySem.W.fnOf "__init__" "Desk.__init__" (defArgs s_Desk___init__) (defBody s_Desk___init__) (defScope s_Desk___init__) .none kVDesk___init__ dcDesk___init__ pmDesk___init__ anDesk___init__ cdDesk___init__ ctDesk___init__), slDesk___init__⟩)
    (oDesk___init__ : PySem.W.codeIn K cdDesk___init__ "Desk.__init__" = true)
    (kDesk___init__ : PySem.W.keepIn K (.ref fDesk___init__) = true)
    (mkDesk : PySem.W.makesIn K CDesk = true)
    (kcDesk : PySem.W.keepIn K (.ref CDesk) = true)
    (atDesk__put : PySem.W.findIn K (.ref CDesk) "_put" = some (some (.ref fDesk__put)))
    (ifDesk__put : PySem.W.isFn K (.ref fDesk__put) = true)
    (lDesk__put : K.lookup fDesk__put = some ⟨ocDesk__put, odDesk__put, .func (PySem.W.fnOf "_put" "Desk._put" (defArgs s_Desk__put) (defBody s_Desk__put) (defScope s_Desk__put) .none kVDesk__put dcDesk__put pmDesk__put anDesk__put cdDesk__put ctDesk__put), slDesk__put⟩)
    (oDesk__put : PySem.W.codeIn K cdDesk__put "Desk._put" = true)
    (kDesk__put : PySem.W.keepIn K (.ref fDesk__put) = true)
    (atDesk__splice : PySem.W.findIn K (.ref CDesk) "_splice" = some (some (.ref fDesk__splice)))
    (ifDesk__splice : PySem.W.isFn K (.ref fDesk__splice) = true)
    (lDesk__splice : K.lookup fDesk__splice = some ⟨ocDesk__splice, odDesk__splice, .func (PySem.W.fnOf "_splice" "Desk._splice" (defArgs s_Desk__splice) (defBody s_Desk__splice) (defScope s_Desk__splice) .none kVDesk__splice dcDesk__splice pmDesk__splice anDesk__splice cdDesk__splice ctDesk__splice), slDesk__splice⟩)
    (oDesk__splice : PySem.W.codeIn K cdDesk__splice "Desk._splice" = true)
    (kDesk__splice : PySem.W.keepIn K (.ref fDesk__splice) = true)
    (atDesk__check_number : PySem.W.findIn K (.ref CDesk) "_check_number" = some (some (.ref fDesk__check_number)))
    (ifDesk__check_number : PySem.W.isFn K (.ref fDesk__check_number) = true)
    (lDesk__check_number : K.lookup fDesk__check_number = some ⟨ocDesk__check_number, odDesk__check_number, .func (PySem.W.fnOf "_check_number" "Desk._check_number" (defArgs s_Desk__check_number) (defBody s_Desk__check_number) (defScope s_Desk__check_number) .none kVDesk__check_number dcDesk__check_number pmDesk__check_number anDesk__check_number cdDesk__check_number ctDesk__check_number), slDesk__check_number⟩)
    (oDesk__check_number : PySem.W.codeIn K cdDesk__check_number "Desk._check_number" = true)
    (kDesk__check_number : PySem.W.keepIn K (.ref fDesk__check_number) = true)
    (atDesk_films : PySem.W.findIn K (.ref CDesk) "films" = some (some (.ref fDesk_films)))
    (ifDesk_films : PySem.W.isFn K (.ref fDesk_films) = true)
    (lDesk_films : K.lookup fDesk_films = some ⟨ocDesk_films, odDesk_films, .func (PySem.W.fnOf "films" "Desk.films" (defArgs s_Desk_films) (defBody s_Desk_films) (defScope s_Desk_films) .none kVDesk_films dcDesk_films pmDesk_films anDesk_films cdDesk_films ctDesk_films), slDesk_films⟩)
    (oDesk_films : PySem.W.codeIn K cdDesk_films "Desk.films" = true)
    (kDesk_films : PySem.W.keepIn K (.ref fDesk_films) = true)
    (atDesk_undo : PySem.W.findIn K (.ref CDesk) "undo" = some (some (.ref fDesk_undo)))
    (ifDesk_undo : PySem.W.isFn K (.ref fDesk_undo) = true)
    (lDesk_undo : K.lookup fDesk_undo = some ⟨ocDesk_undo, odDesk_undo, .func (PySem.W.fnOf "undo" "Desk.undo" (defArgs s_Desk_undo) (defBody s_Desk_undo) (defScope s_Desk_undo) .none kVDesk_undo dcDesk_undo pmDesk_undo anDesk_undo cdDesk_undo ctDesk_undo), slDesk_undo⟩)
    (oDesk_undo : PySem.W.codeIn K cdDesk_undo "Desk.undo" = true)
    (kDesk_undo : PySem.W.keepIn K (.ref fDesk_undo) = true)
    (atDesk___len__ : PySem.W.findIn K (.ref CDesk) "__len__" = some (some (.ref fDesk___len__)))
    (ifDesk___len__ : PySem.W.isFn K (.ref fDesk___len__) = true)
    (lDesk___len__ : K.lookup fDesk___len__ = some ⟨ocDesk___len__, odDesk___len__, .func (PySem.W.fnOf "__len__" "Desk.__len__" (defArgs s_Desk___len__) (defBody s_Desk___len__) (defScope s_Desk___len__) .none kVDesk___len__ dcDesk___len__ pmDesk___len__ anDesk___len__ cdDesk___len__ ctDesk___len__), slDesk___len__⟩)
    (oDesk___len__ : PySem.W.codeIn K cdDesk___len__ "Desk.__len__" = true)
    (kDesk___len__ : PySem.W.keepIn K (.ref fDesk___len__) = true)
    (atDesk___call__ : PySem.W.findIn K (.ref CDesk) "__call__" = some (some (.ref fDesk___call__)))
    (ifDesk___call__ : PySem.W.isFn K (.ref fDesk___call__) = true)
    (lDesk___call__ : K.lookup fDesk___call__ = some ⟨ocDesk___call__, odDesk___call__, .func (PySem.W.fnOf "__call__" "Desk.__call__" (defArgs s_Desk___call__) (defBody s_Desk___call__) (defScope s_Desk___call__) .none kVDesk___call__ dcDesk___call__ pmDesk___call__ anDesk___call__ cdDesk___call__ ctDesk___call__), slDesk___call__⟩)
    (oDesk___call__ : PySem.W.codeIn K cdDesk___call__ "Desk.__call__" = true)
    (kDesk___call__ : PySem.W.keepIn K (.ref fDesk___call__) = true)
    (atDesk___eq__ : PySem.W.findIn K (.ref CDesk) "__eq__" = some (some (.ref fDesk___eq__)))
    (ifDesk___eq__ : PySem.W.isFn K (.ref fDesk___eq__) = true)
    (lDesk___eq__ : K.lookup fDesk___eq__ = some ⟨ocDesk___eq__, odDesk___eq__, .func (PySem.W.fnOf "__eq__" "Desk.__eq__" (defArgs s_Desk___eq__) (defBody s_Desk___eq__) (defScope s_Desk___eq__) .none kVDesk___eq__ dcDesk___eq__ pmDesk___eq__ anDesk___eq__ cdDesk___eq__ ctDesk___eq__), slDesk___eq__⟩)
    (oDesk___eq__ : PySem.W.codeIn K cdDesk___eq__ "Desk.__eq__" = true)
    (kDesk___eq__ : PySem.W.keepIn K (.ref fDesk___eq__) = true)
    (fnDesk___call__ : PySem.W.fnIn K fDesk___call__ = true)
    (sfDesk : PySem.W.selfFirst K CDesk = true)
    (klDesk : PySem.W.findIn K (.ref CDesk) "__class__" = some (some (.builtin "object.__class__")))
    (obDesk : PySem.W.mroIn K CDesk (.type "object") = some true)
    (icDesk : PySem.W.isClsIn K CDesk = true)
    (tyDesk : PySem.W.typeIn K (.ref CDesk) = some (.type "type"))
    (suDesk : PySem.W.subIn K (.ref CDesk) (.ref CDesk) = some true)
    (soDesk_list : PySem.W.subIn K (.type "list") (.ref CDesk) = some false)
    (soDesk_int : PySem.W.subIn K (.type "int") (.ref CDesk) = some false)
    (nPICTURES : PySem.W.nsIn K mainGlobals "PICTURES" = some (some (.str "abcdefghijklmnopqrstuvwxyz" tPICTURES)))
    (soBox_Desk : PySem.W.subIn K (.ref CDesk) (.ref CBox) = some false)
    (soDesk_Box : PySem.W.subIn K (.ref CBox) (.ref CDesk) = some false) :
    ∃ fd : FuncData, (∀ (s : Shared) (v : Value), BindsTo s fd ⟨[v], []⟩ [("script", v)]) ∧ ∀ base : Heap, K.In base → base.Ns mainGlobals mg → Gd P w K mg base (9 + 1) fa fd ["script"] (spLaw K) := by
  have e := hfa.symm.trans (PySem.W.mg_of X G glaw)
  cases e
  have T : Txt K mg ⟨c0, c1, c2, c3, c4, c5, c6, c7, fI, fis_piece, fis_film, fcheck_film, fcheck_piece, fcheck_rule, fsplice_of_films, fstand_at, fcoin, fsigns, fword, fpair, fjoin, fpurse, fplan, fgreat, fmade, fbent, fnear, fsites, fbench, fput, fcall_fault, fdo_, ftakes_back, ffits, fdeed, fcalled, fundone, flies_there, fany_plan, fright, fa, CWorkings, fWorkings___init__, CBox, fBox___init__, fBox___eq__, fBox_strips, fBox_rules, pBox_strips, pBox_rules, CDesk, fDesk___init__, fDesk__put, fDesk__splice, fDesk__check_number, fDesk_films, fDesk_undo, fDesk___len__, fDesk___call__, fDesk___eq__, tPICTURES⟩ := {
    g_FilmError := PySem.W.mg_of X G a0
    g_InvalidFilm := PySem.W.mg_of X G a1
    g_InvalidPiece := PySem.W.mg_of X G a2
    g_InvalidRule := PySem.W.mg_of X G a3
    g_UnknownStrip := PySem.W.mg_of X G a4
    g_UnknownRule := PySem.W.mg_of X G a5
    g_NoSplice := PySem.W.mg_of X G a6
    g_NothingToUndo := PySem.W.mg_of X G a7
    e_FilmError := ⟨⟨⟨_, _, _, _, _, _, _, _, _, _, _, _, _, _, _, x0, r0⟩, sa0, ex0, ty0, kp0⟩, ini0, tyI, no0, ⟨ga0, gg0, ex0, hd0⟩, ⟨ic0, ga0, gg0, ex0, kl0, spO, tkO, ob0⟩⟩
    e_InvalidFilm := ⟨⟨⟨_, _, _, _, _, _, _, _, _, _, _, _, _, _, _, x1, r1⟩, sa1, ex1, ty1, kp1⟩, ini1, tyI, no1, ⟨ga1, gg1, ex1, hd1⟩, ⟨ic1, ga1, gg1, ex1, kl1, spO, tkO, ob1⟩⟩
    e_InvalidPiece := ⟨⟨⟨_, _, _, _, _, _, _, _, _, _, _, _, _, _, _, x2, r2⟩, sa2, ex2, ty2, kp2⟩, ini2, tyI, no2, ⟨ga2, gg2, ex2, hd2⟩, ⟨ic2, ga2, gg2, ex2, kl2, spO, tkO, ob2⟩⟩
    e_InvalidRule := ⟨⟨⟨_, _, _, _, _, _, _, _, _, _, _, _, _, _, _, x3, r3⟩, sa3, ex3, ty3, kp3⟩, ini3, tyI, no3, ⟨ga3, gg3, ex3, hd3⟩, ⟨ic3, ga3, gg3, ex3, kl3, spO, tkO, ob3⟩⟩
    e_UnknownStrip := ⟨⟨⟨_, _, _, _, _, _, _, _, _, _, _, _, _, _, _, x4, r4⟩, sa4, ex4, ty4, kp4⟩, ini4, tyI, no4, ⟨ga4, gg4, ex4, hd4⟩, ⟨ic4, ga4, gg4, ex4, kl4, spO, tkO, ob4⟩⟩
    e_UnknownRule := ⟨⟨⟨_, _, _, _, _, _, _, _, _, _, _, _, _, _, _, x5, r5⟩, sa5, ex5, ty5, kp5⟩, ini5, tyI, no5, ⟨ga5, gg5, ex5, hd5⟩, ⟨ic5, ga5, gg5, ex5, kl5, spO, tkO, ob5⟩⟩
    e_NoSplice := ⟨⟨⟨_, _, _, _, _, _, _, _, _, _, _, _, _, _, _, x6, r6⟩, sa6, ex6, ty6, kp6⟩, ini6, tyI, no6, ⟨ga6, gg6, ex6, hd6⟩, ⟨ic6, ga6, gg6, ex6, kl6, spO, tkO, ob6⟩⟩
    e_NothingToUndo := ⟨⟨⟨_, _, _, _, _, _, _, _, _, _, _, _, _, _, _, x7, r7⟩, sa7, ex7, ty7, kp7⟩, ini7, tyI, no7, ⟨ga7, gg7, ex7, hd7⟩, ⟨ic7, ga7, gg7, ex7, kl7, spO, tkO, ob7⟩⟩
    subs := fun i j hi hj => match i, hi with
      | 0, _ => (match j, hj with | 0, _ => s0_0 | 1, _ => s0_1 | 2, _ => s0_2 | 3, _ => s0_3 | 4, _ => s0_4 | 5, _ => s0_5 | 6, _ => s0_6 | 7, _ => s0_7 | (_ + 8), h => absurd h (by omega))
      | 1, _ => (match j, hj with | 0, _ => s1_0 | 1, _ => s1_1 | 2, _ => s1_2 | 3, _ => s1_3 | 4, _ => s1_4 | 5, _ => s1_5 | 6, _ => s1_6 | 7, _ => s1_7 | (_ + 8), h => absurd h (by omega))
      | 2, _ => (match j, hj with | 0, _ => s2_0 | 1, _ => s2_1 | 2, _ => s2_2 | 3, _ => s2_3 | 4, _ => s2_4 | 5, _ => s2_5 | 6, _ => s2_6 | 7, _ => s2_7 | (_ + 8), h => absurd h (by omega))
      | 3, _ => (match j, hj with | 0, _ => s3_0 | 1, _ => s3_1 | 2, _ => s3_2 | 3, _ => s3_3 | 4, _ => s3_4 | 5, _ => s3_5 | 6, _ => s3_6 | 7, _ => s3_7 | (_ + 8), h => absurd h (by omega))
      | 4, _ => (match j, hj with | 0, _ => s4_0 | 1, _ => s4_1 | 2, _ => s4_2 | 3, _ => s4_3 | 4, _ => s4_4 | 5, _ => s4_5 | 6, _ => s4_6 | 7, _ => s4_7 | (_ + 8), h => absurd h (by omega))
      | 5, _ => (match j, hj with | 0, _ => s5_0 | 1, _ => s5_1 | 2, _ => s5_2 | 3, _ => s5_3 | 4, _ => s5_4 | 5, _ => s5_5 | 6, _ => s5_6 | 7, _ => s5_7 | (_ + 8), h => absurd h (by omega))
      | 6, _ => (match j, hj with | 0, _ => s6_0 | 1, _ => s6_1 | 2, _ => s6_2 | 3, _ => s6_3 | 4, _ => s6_4 | 5, _ => s6_5 | 6, _ => s6_6 | 7, _ => s6_7 | (_ + 8), h => absurd h (by omega))
      | 7, _ => (match j, hj with | 0, _ => s7_0 | 1, _ => s7_1 | 2, _ => s7_2 | 3, _ => s7_3 | 4, _ => s7_4 | 5, _ => s7_5 | 6, _ => s7_6 | 7, _ => s7_7 | (_ + 8), h => absurd h (by omega))
      | (_ + 8), h => absurd h (by omega)
    cls := fun i hi => match i, hi with | 0, _ => ic0 | 1, _ => ic1 | 2, _ => ic2 | 3, _ => ic3 | 4, _ => ic4 | 5, _ => ic5 | 6, _ => ic6 | 7, _ => ic7 | (_ + 8), h => absurd h (by omega)
    g_is_piece := PySem.W.mg_of X G gis_piece
    k_is_piece := kis_piece
    g_is_film := PySem.W.mg_of X G gis_film
    k_is_film := kis_film
    g_check_film := PySem.W.mg_of X G gcheck_film
    k_check_film := kcheck_film
    g_check_piece := PySem.W.mg_of X G gcheck_piece
    k_check_piece := kcheck_piece
    g_check_rule := PySem.W.mg_of X G gcheck_rule
    k_check_rule := kcheck_rule
    g_splice_of_films := PySem.W.mg_of X G gsplice_of_films
    k_splice_of_films := ksplice_of_films
    g_stand_at := PySem.W.mg_of X G gstand_at
    k_stand_at := kstand_at
    g_coin := PySem.W.mg_of X G gcoin
    k_coin := kcoin
    g_signs := PySem.W.mg_of X G gsigns
    k_signs := ksigns
    g_word := PySem.W.mg_of X G gword
    k_word := kword
    g_pair := PySem.W.mg_of X G gpair
    k_pair := kpair
    g_join := PySem.W.mg_of X G gjoin
    k_join := kjoin
    g_purse := PySem.W.mg_of X G gpurse
    k_purse := kpurse
    g_plan := PySem.W.mg_of X G gplan
    k_plan := kplan
    g_great := PySem.W.mg_of X G ggreat
    k_great := kgreat
    g_made := PySem.W.mg_of X G gmade
    k_made := kmade
    g_bent := PySem.W.mg_of X G gbent
    k_bent := kbent
    g_near := PySem.W.mg_of X G gnear
    k_near := knear
    g_sites := PySem.W.mg_of X G gsites
    k_sites := ksites
    g_bench := PySem.W.mg_of X G gbench
    k_bench := kbench
    g_put := PySem.W.mg_of X G gput
    k_put := kput
    g_call_fault := PySem.W.mg_of X G gcall_fault
    k_call_fault := kcall_fault
    g_do_ := PySem.W.mg_of X G gdo_
    k_do_ := kdo_
    g_takes_back := PySem.W.mg_of X G gtakes_back
    k_takes_back := ktakes_back
    g_fits := PySem.W.mg_of X G gfits
    k_fits := kfits
    g_deed := PySem.W.mg_of X G gdeed
    k_deed := kdeed
    g_called := PySem.W.mg_of X G gcalled
    k_called := kcalled
    g_undone := PySem.W.mg_of X G gundone
    k_undone := kundone
    g_lies_there := PySem.W.mg_of X G glies_there
    k_lies_there := klies_there
    g_any_plan := PySem.W.mg_of X G gany_plan
    k_any_plan := kany_plan
    g_right := PySem.W.mg_of X G gright
    k_right := kright
    g_law := PySem.W.mg_of X G glaw
    k_law := klaw
    b_int := PySem.W.mg_none_of X G zint
    b_len := PySem.W.mg_none_of X G zlen
    b_max := PySem.W.mg_none_of X G zmax
    b_min := PySem.W.mg_none_of X G zmin
    b_abs := PySem.W.mg_none_of X G zabs
    b_repr := PySem.W.mg_none_of X G zrepr
    b_isinstance := PySem.W.mg_none_of X G zisinstance
    b_list := PySem.W.mg_none_of X G zlist
    b_tuple := PySem.W.mg_none_of X G ztuple
    b_range := PySem.W.mg_none_of X G zrange
    b_sorted := PySem.W.mg_none_of X G zsorted
    b_all := PySem.W.mg_none_of X G zall
    b_set := PySem.W.mg_none_of X G zset
    b_enumerate := PySem.W.mg_none_of X G zenumerate
    g_PICTURES := PySem.W.mg_of X G nPICTURES
    c_Workings := ⟨pgWorkings, hdWorkings, poWorkings, saWorkings⟩
    g_Workings := PySem.W.mg_of X G gWorkings
    n_Workings_strips := naWorkings__strips
    n_Workings_rules := naWorkings__rules
    n_Workings_web := naWorkings__web
    n_Workings_table := naWorkings__table
    n_Workings_net := naWorkings__net
    n_Workings_routes := naWorkings__routes
    n_Workings_parts := naWorkings__parts
    n_Workings_lots := naWorkings__lots
    m_Workings := ⟨mkWorkings, atWorkings___init__, ifWorkings___init__, kcWorkings⟩
    c_Box := ⟨pgBox, hdBox, poBox, saBox⟩
    g_Box := PySem.W.mg_of X G gBox
    n_Box_strips := naBox__strips
    n_Box_rules := naBox__rules
    n_Box_workings := naBox__workings
    m_Box := ⟨mkBox, atBox___init__, ifBox___init__, kcBox⟩
    p_Box_strips := ⟨atBox_strips, gtBox_strips, tkBox_strips, ⟨_, rcBox_strips⟩⟩
    p_Box_rules := ⟨atBox_rules, gtBox_rules, tkBox_rules, ⟨_, rcBox_rules⟩⟩
    sf_Box := sfBox
    kl_Box := klBox
    ob_Box := obBox
    ki_Box := kit_one icBox tyBox suBox (fun _ => rfl)
    spO := spO
    tkO := tkO
    no_Box_Desk := kit_off icBox tyBox soBox_Desk suBox
    nf_Box_Desk := not_first soBox_Desk
    o_Box___eq__ := atBox___eq__
    of_Box___eq__ := ifBox___eq__
    c_Desk := ⟨pgDesk, hdDesk, poDesk, saDesk⟩
    g_Desk := PySem.W.mg_of X G gDesk
    n_Desk_box := naDesk__box
    n_Desk_films := naDesk__films
    n_Desk_trees := naDesk__trees
    n_Desk_numbers := naDesk__numbers
    n_Desk_calls := naDesk__calls
    m_Desk := ⟨mkDesk, atDesk___init__, ifDesk___init__, kcDesk⟩
    h_Desk__put := ⟨atDesk__put, ifDesk__put, kDesk__put⟩
    h_Desk__splice := ⟨atDesk__splice, ifDesk__splice, kDesk__splice⟩
    h_Desk__check_number := ⟨atDesk__check_number, ifDesk__check_number, kDesk__check_number⟩
    h_Desk_films := ⟨atDesk_films, ifDesk_films, kDesk_films⟩
    h_Desk_undo := ⟨atDesk_undo, ifDesk_undo, kDesk_undo⟩
    l_Desk := atDesk___len__
    lf_Desk := ifDesk___len__
    sf_Desk := sfDesk
    kl_Desk := klDesk
    ob_Desk := obDesk
    ki_Desk := kit_one icDesk tyDesk suDesk (fun _ => rfl)
    no_Desk_list := kit_ty icDesk tyDesk soDesk_list
    nf_Desk_list := not_first soDesk_list
    no_Desk_int := kit_ty icDesk tyDesk soDesk_int
    nf_Desk_int := not_first soDesk_int
    no_Desk_Box := kit_off icDesk tyDesk soDesk_Box suDesk
    nf_Desk_Box := not_first soDesk_Box
    co_Desk := ⟨atDesk___call__, ifDesk___call__, fnDesk___call__⟩
    o_Desk___call__ := atDesk___call__
    of_Desk___call__ := ifDesk___call__
    o_Desk___eq__ := atDesk___eq__
    of_Desk___eq__ := ifDesk___eq__  }
  have Fis_piece := fun_mk (st := s_is_piece) lis_piece ois_piece kis_piece
  have bis_piece := Fis_piece.binds (ps := ["text"]) fun _ _ _ _ _ _ us hl => match us, hl with | [_], _ => rfl
  have Fis_film := fun_mk (st := s_is_film) lis_film ois_film kis_film
  have bis_film := Fis_film.binds (ps := ["text"]) fun _ _ _ _ _ _ us hl => match us, hl with | [_], _ => rfl
  have Fcheck_film := fun_mk (st := s_check_film) lcheck_film ocheck_film kcheck_film
  have bcheck_film := Fcheck_film.binds (ps := ["film"]) fun _ _ _ _ _ _ us hl => match us, hl with | [_], _ => rfl
  have Fcheck_piece := fun_mk (st := s_check_piece) lcheck_piece ocheck_piece kcheck_piece
  have bcheck_piece := Fcheck_piece.binds (ps := ["piece"]) fun _ _ _ _ _ _ us hl => match us, hl with | [_], _ => rfl
  have Fcheck_rule := fun_mk (st := s_check_rule) lcheck_rule ocheck_rule kcheck_rule
  have bcheck_rule := Fcheck_rule.binds (ps := ["rule"]) fun _ _ _ _ _ _ us hl => match us, hl with | [_], _ => rfl
  have Fsplice_of_films := fun_mk (st := s_splice_of_films) lsplice_of_films osplice_of_films ksplice_of_films
  have bsplice_of_films := Fsplice_of_films.binds (ps := ["rule", "film", "cut", "other", "place"]) fun _ _ _ _ _ _ us hl => match us, hl with | [_, _, _, _, _], _ => rfl
  have Fstand_at := fun_mk (st := s_stand_at) lstand_at ostand_at kstand_at
  have bstand_at := Fstand_at.binds (ps := ["left", "right", "film", "cut"]) fun _ _ _ _ _ _ us hl => match us, hl with | [_, _, _, _], _ => rfl
  have Fcoin := fun_mk (st := s_coin) lcoin ocoin kcoin
  have bcoin := Fcoin.binds (ps := ["purse", "many"]) fun _ _ _ _ _ _ us hl => match us, hl with | [_, _], _ => rfl
  have Fsigns := fun_mk (st := s_signs) lsigns osigns ksigns
  have bsigns := Fsigns.binds (ps := ["sack", "high"]) fun _ _ _ _ _ _ us hl => match us, hl with | [_, _], _ => rfl
  have Fword := fun_mk (st := s_word) lword oword kword
  have bword := Fword.binds (ps := ["sack", "signs", "low", "high"]) fun _ _ _ _ _ _ us hl => match us, hl with | [_, _, _, _], _ => rfl
  have Fpair := fun_mk (st := s_pair) lpair opair kpair
  have bpair := Fpair.binds (ps := ["sack", "reels", "signs", "high", "is_first"]) fun _ _ _ _ _ _ us hl => match us, hl with | [_, _, _, _, _], _ => rfl
  have Fjoin := fun_mk (st := s_join) ljoin ojoin kjoin
  have bjoin := Fjoin.binds (ps := ["sack", "reels", "signs", "high"]) fun _ _ _ _ _ _ us hl => match us, hl with | [_, _, _, _], _ => rfl
  have Fpurse := fun_mk (st := s_purse) lpurse opurse kpurse
  have bpurse := Fpurse.binds (ps := ["script", "spot"]) fun _ _ _ _ _ _ us hl => match us, hl with | [_, _], _ => rfl
  have Fplan := fun_mk (st := s_plan) lplan oplan kplan
  have bplan := Fplan.binds (ps := ["sack", "signs", "many", "more"]) fun _ _ _ _ _ _ us hl => match us, hl with | [_, _, _, _], _ => rfl
  have Fgreat := fun_mk (st := s_great) lgreat ogreat kgreat
  have bgreat := Fgreat.binds (ps := ["sack", "signs"]) fun _ _ _ _ _ _ us hl => match us, hl with | [_, _], _ => rfl
  have Fmade := fun_mk (st := s_made) lmade omade kmade
  have bmade := Fmade.binds (ps := ["plan"]) fun _ _ _ _ _ _ us hl => match us, hl with | [_], _ => rfl
  have Fbent := fun_mk (st := s_bent) lbent obent kbent
  have bbent := Fbent.binds (ps := ["sack", "signs", "word"]) fun _ _ _ _ _ _ us hl => match us, hl with | [_, _, _], _ => rfl
  have Fnear := fun_mk (st := s_near) lnear onear knear
  have bnear := Fnear.binds (ps := ["sack", "plan", "signs"]) fun _ _ _ _ _ _ us hl => match us, hl with | [_, _, _], _ => rfl
  have Fsites := fun_mk (st := s_sites) lsites osites ksites
  have bsites := Fsites.binds (ps := ["left", "right", "word"]) fun _ _ _ _ _ _ us hl => match us, hl with | [_, _, _], _ => rfl
  have Fbench := fun_mk (st := s_bench) lbench obench kbench
  have bbench := Fbench.binds (ps := ["plan"]) fun _ _ _ _ _ _ us hl => match us, hl with | [_], _ => rfl
  have Fput := fun_mk (st := s_put) lput oput kput
  have bput := Fput.binds (ps := ["bench", "word", "plant", "size"]) fun _ _ _ _ _ _ us hl => match us, hl with | [_, _, _, _], _ => rfl
  have Fcall_fault := fun_mk (st := s_call_fault) lcall_fault ocall_fault kcall_fault
  have bcall_fault := Fcall_fault.binds (ps := ["plan", "bench", "deed"]) fun _ _ _ _ _ _ us hl => match us, hl with | [_, _, _], _ => rfl
  have Fdo_ := fun_mk (st := s_do_) ldo_ odo_ kdo_
  have bdo_ := Fdo_.binds (ps := ["bench", "deed"]) fun _ _ _ _ _ _ us hl => match us, hl with | [_, _], _ => rfl
  have Ftakes_back := fun_mk (st := s_takes_back) ltakes_back otakes_back ktakes_back
  have btakes_back := Ftakes_back.binds (ps := ["bench"]) fun _ _ _ _ _ _ us hl => match us, hl with | [_], _ => rfl
  have Ffits := fun_mk (st := s_fits) lfits ofits kfits
  have bfits := Ffits.binds (ps := ["bench", "deed", "longest_here", "high"]) fun _ _ _ _ _ _ us hl => match us, hl with | [_, _, _, _], _ => rfl
  have Fdeed := fun_mk (st := s_deed) ldeed odeed kdeed
  have bdeed := Fdeed.binds (ps := ["sack", "plan", "bench"]) fun _ _ _ _ _ _ us hl => match us, hl with | [_, _, _], _ => rfl
  have Fcalled := fun_mk (st := s_called) lcalled ocalled kcalled
  have bcalled := Fcalled.binds (ps := ["desk_here", "deed", "by_name"]) fun _ _ _ _ _ _ us hl => match us, hl with | [_, _, _], _ => rfl
  have Fundone := fun_mk (st := s_undone) lundone oundone kundone
  have bundone := Fundone.binds (ps := ["desk_here"]) fun _ _ _ _ _ _ us hl => match us, hl with | [_], _ => rfl
  have Flies_there := fun_mk (st := s_lies_there) llies_there olies_there klies_there
  have blies_there := Flies_there.binds (ps := ["desk_here", "bench"]) fun _ _ _ _ _ _ us hl => match us, hl with | [_, _], _ => rfl
  have Fany_plan := fun_mk (st := s_any_plan) lany_plan oany_plan kany_plan
  have bany_plan := Fany_plan.binds (ps := ["sack", "signs"]) fun _ _ _ _ _ _ us hl => match us, hl with | [_, _], _ => rfl
  have Fright := fun_mk (st := s_right) lright oright kright
  have bright := Fright.binds (ps := ["sack"]) fun _ _ _ _ _ _ us hl => match us, hl with | [_], _ => rfl
  have Flaw := fun_mk (st := s_law) llaw olaw klaw
  have FI := fun_mk (st := s_FilmError___init__) lI oI kI
  have bI := FI.binds (ps := ["self", "value"]) fun _ _ _ _ _ _ us hl => match us, hl with | [_, _], _ => rfl
  have FWorkings___init__ := fun_mk (st := s_Workings___init__) lWorkings___init__ oWorkings___init__ kWorkings___init__
  have bWorkings___init__ := FWorkings___init__.binds (ps := ["self", "strips", "rules"]) fun _ _ _ _ _ _ us hl => match us, hl with | [_, _, _], _ => rfl
  have FBox___init__ := fun_mk (st := s_Box___init__) lBox___init__ oBox___init__ kBox___init__
  have bBox___init__ := FBox___init__.binds (ps := ["self", "strips", "rules"]) fun _ _ _ _ _ _ us hl => match us, hl with | [_, _, _], _ => rfl
  have FBox___eq__ := fun_mk (st := s_Box___eq__) lBox___eq__ oBox___eq__ kBox___eq__
  have bBox___eq__ := FBox___eq__.binds (ps := ["self", "other"]) fun _ _ _ _ _ _ us hl => match us, hl with | [_, _], _ => rfl
  have FBox_strips := fun_mk (st := s_Box_strips) lBox_strips oBox_strips kBox_strips
  have bBox_strips := FBox_strips.binds (ps := ["self"]) fun _ _ _ _ _ _ us hl => match us, hl with | [_], _ => rfl
  have FBox_rules := fun_mk (st := s_Box_rules) lBox_rules oBox_rules kBox_rules
  have bBox_rules := FBox_rules.binds (ps := ["self"]) fun _ _ _ _ _ _ us hl => match us, hl with | [_], _ => rfl
  have FDesk___init__ := fun_mk (st := s_Desk___init__) lDesk___init__ oDesk___init__ kDesk___init__
  have bDesk___init__ := FDesk___init__.binds (ps := ["self", "box"]) fun _ _ _ _ _ _ us hl => match us, hl with | [_, _], _ => rfl
  have FDesk__put := fun_mk (st := s_Desk__put) lDesk__put oDesk__put kDesk__put
  have bDesk__put := FDesk__put.binds (ps := ["self", "film", "told"]) fun _ _ _ _ _ _ us hl => match us, hl with | [_, _, _], _ => rfl
  have FDesk__splice := fun_mk (st := s_Desk__splice) lDesk__splice oDesk__splice kDesk__splice
  have bDesk__splice := FDesk__splice.binds (ps := ["self", "index", "film", "cut", "other", "place"]) fun _ _ _ _ _ _ us hl => match us, hl with | [_, _, _, _, _, _], _ => rfl
  have FDesk__check_number := fun_mk (st := s_Desk__check_number) lDesk__check_number oDesk__check_number kDesk__check_number
  have bDesk__check_number := FDesk__check_number.binds (ps := ["self", "film"]) fun _ _ _ _ _ _ us hl => match us, hl with | [_, _], _ => rfl
  have FDesk_films := fun_mk (st := s_Desk_films) lDesk_films oDesk_films kDesk_films
  have bDesk_films := FDesk_films.binds (ps := ["self"]) fun _ _ _ _ _ _ us hl => match us, hl with | [_], _ => rfl
  have FDesk_undo := fun_mk (st := s_Desk_undo) lDesk_undo oDesk_undo kDesk_undo
  have bDesk_undo := FDesk_undo.binds (ps := ["self"]) fun _ _ _ _ _ _ us hl => match us, hl with | [_], _ => rfl
  have FDesk___len__ := fun_mk (st := s_Desk___len__) lDesk___len__ oDesk___len__ kDesk___len__
  have bDesk___len__ := FDesk___len__.binds (ps := ["self"]) fun _ _ _ _ _ _ us hl => match us, hl with | [_], _ => rfl
  have FDesk___call__ := fun_mk (st := s_Desk___call__) lDesk___call__ oDesk___call__ kDesk___call__
  have bDesk___call__ := FDesk___call__.binds (ps := ["self", "index", "film", "cut", "other", "place"]) fun _ _ _ _ _ _ us hl => match us, hl with | [_, _, _, _, _, _], _ => rfl
  have FDesk___eq__ := fun_mk (st := s_Desk___eq__) lDesk___eq__ oDesk___eq__ kDesk___eq__
  have bDesk___eq__ := FDesk___eq__.binds (ps := ["self", "other"]) fun _ _ _ _ _ _ us hl => match us, hl with | [_, _], _ => rfl
  refine ⟨PySem.W.fnOf "law" "law" (defArgs s_law) (defBody s_law) (defScope s_law) .none kVlaw dclaw pmlaw anlaw cdlaw ctlaw, fun s v => .of_eq rfl, fun base _ _ => ?_⟩
  have c_purse : Cal P w K mg base 1 fpurse _ ["script", "spot"] (spPurse K) := ⟨ok_purse Fpurse T, bpurse⟩
  have c_coin : Cal P w K mg base 1 fcoin _ ["purse", "many"] spCoin := ⟨ok_coin Fcoin T, bcoin⟩
  have c_signs : Cal P w K mg base 2 fsigns _ ["sack", "high"] spSigns := ⟨ok_signs Fsigns T c_coin, bsigns⟩
  have c_word : Cal P w K mg base 2 fword _ ["sack", "signs", "low", "high"] spWord := ⟨ok_word Fword T c_coin, bword⟩
  have c_pair : Cal P w K mg base 3 fpair _ ["sack", "reels", "signs", "high", "is_first"] (spPair K) := ⟨ok_pair Fpair T c_coin c_word, bpair⟩
  have c_join : Cal P w K mg base 4 fjoin _ ["sack", "reels", "signs", "high"] (spJoin K) := ⟨ok_join Fjoin T c_pair, bjoin⟩
  have c_plan : Cal P w K mg base 5 fplan _ ["sack", "signs", "many", "more"] (spPlan K) := ⟨ok_plan Fplan T c_coin c_word c_join, bplan⟩
  have c_great : Cal P w K mg base 5 fgreat _ ["sack", "signs"] (spGreat K) := ⟨ok_great Fgreat T c_coin c_word c_join, bgreat⟩
  have c_any_plan : Cal P w K mg base 6 fany_plan _ ["sack", "signs"] (spAnyPlan K) := ⟨ok_any_plan Fany_plan T c_coin c_plan c_great, bany_plan⟩
  have c_init : Cal P w K mg base 1 fI _ ["self", "value"] (spErrInit K) := ⟨ok_init FI, bI⟩
  have c_is_piece : Cal P w K mg base 1 fis_piece _ ["text"] spPiece := ⟨ok_is_piece Fis_piece T, bis_piece⟩
  have c_check_piece : CalX P w K mg base 3 fcheck_piece _ ["piece"] (spChkPiece _) := ⟨ok_check_piece Fcheck_piece T c_init c_is_piece, bcheck_piece⟩
  have c_check_rule : CalX P w K mg base 4 fcheck_rule _ ["rule"] (spChkRule K _) := ⟨ok_check_rule Fcheck_rule T c_init c_check_piece, bcheck_rule⟩
  have c_is_film : Cal P w K mg base 2 fis_film _ ["text"] spFilm := ⟨ok_is_film Fis_film T c_is_piece, bis_film⟩
  have c_check_film : CalX P w K mg base 3 fcheck_film _ ["film"] (spChkFilm _) := ⟨ok_check_film Fcheck_film T c_init c_is_film, bcheck_film⟩
  have c_Workings___init__ : Cal P w K mg base 1 fWorkings___init__ _ ["self", "strips", "rules"] (spWkInit K _) := ⟨ok_wk_init FWorkings___init__ T, bWorkings___init__⟩
  have c_Box___init__ : CalX P w K mg base 5 fBox___init__ _ ["self", "strips", "rules"] (spBoxInit K _) := ⟨ok_box_init FBox___init__ T c_check_rule c_check_film c_Workings___init__, bBox___init__⟩
  have c_made : Cal P w K mg base 7 fmade _ ["plan"] (spMade K _) := ⟨ok_made Fmade T c_Box___init__, bmade⟩
  have c_put : Cal P w K mg base 1 fput _ ["bench", "word", "plant", "size"] spPut := ⟨ok_put Fput T, bput⟩
  have c_bench : Cal P w K mg base 2 fbench _ ["plan"] (spBench K) := ⟨ok_bench Fbench T c_put, bbench⟩
  have c_Box_strips : Cal P w K mg base 1 fBox_strips _ ["self"] (spBoxStrips K _) := ⟨ok_box_strips FBox_strips T, bBox_strips⟩
  have c_Desk__put : Cal P w K mg base 1 fDesk__put _ ["self", "film", "told"] (spDPut _) := ⟨ok_dput FDesk__put T, bDesk__put⟩
  have c_Desk___init__ : Cal P w K mg base 3 fDesk___init__ _ ["self", "box"] (spDInit K _) := ⟨ok_dinit FDesk___init__ T c_Box_strips c_Desk__put, bDesk___init__⟩
  have c_bent : Cal P w K mg base 2 fbent _ ["sack", "signs", "word"] spBent := ⟨ok_bent Fbent T c_coin, bbent⟩
  have c_near : Cal P w K mg base 5 fnear _ ["sack", "plan", "signs"] (spNear K) := ⟨ok_near Fnear T c_coin c_word c_join c_bent, bnear⟩
  have c_Desk_films : Cal P w K mg base 1 fDesk_films _ ["self"] (spDFilms _) := ⟨ok_dfilms FDesk_films T, bDesk_films⟩
  have c_Desk___len__ : Cal P w K mg base 1 fDesk___len__ _ ["self"] (spDLen _) := ⟨ok_dlen FDesk___len__ T, bDesk___len__⟩
  have c_lies_there : CalG P w K mg base 3 flies_there _ ["desk_here", "bench"] (spLies K _) := ⟨ok_lies Flies_there T c_Desk_films c_Desk___len__, blies_there⟩
  have c_sites : Cal P w K mg base 1 fsites _ ["left", "right", "word"] spSites := ⟨ok_sites Fsites T, bsites⟩
  have c_deed : Cal P w K mg base 2 fdeed _ ["sack", "plan", "bench"] (spDeed K) := ⟨ok_deed Fdeed T c_coin c_sites, bdeed⟩
  have c_call_fault : Cal P w K mg base 2 fcall_fault _ ["plan", "bench", "deed"] (spCF K) := ⟨ok_call_fault Fcall_fault T c_sites, bcall_fault⟩
  have c_fits : Cal P w K mg base 1 ffits _ ["bench", "deed", "longest_here", "high"] (spFits K) := ⟨ok_fits Ffits T, bfits⟩
  have c_do_ : Cal P w K mg base 2 fdo_ _ ["bench", "deed"] (spDo K) := ⟨ok_do Fdo_ T c_put, bdo_⟩
  have c_Box_rules : Cal P w K mg base 1 fBox_rules _ ["self"] (spBoxRules K _) := ⟨ok_box_rules FBox_rules T, bBox_rules⟩
  have c_Desk__check_number : CalX P w K mg base 3 fDesk__check_number _ ["self", "film"] (spDChk _) := ⟨ok_dchk FDesk__check_number T c_init, bDesk__check_number⟩
  have c_stand_at : Cal P w K mg base 1 fstand_at _ ["left", "right", "film", "cut"] spStand := ⟨ok_stand_at Fstand_at T, bstand_at⟩
  have c_splice_of_films : CalX P w K mg base 4 fsplice_of_films _ ["rule", "film", "cut", "other", "place"] (spSpOf K _) := ⟨ok_splice_of Fsplice_of_films T c_init c_stand_at, bsplice_of_films⟩
  have c_Desk__splice : CalX P w K mg base 5 fDesk__splice _ ["self", "index", "film", "cut", "other", "place"] (spDSpl K _) := ⟨ok_dspl FDesk__splice T c_init c_Box_rules c_Desk__check_number c_splice_of_films c_Desk__put, bDesk__splice⟩
  have c_Desk___call__ : CalX P w K mg base 6 fDesk___call__ _ ["self", "index", "film", "cut", "other", "place"] (spDCall K _) := ⟨ok_dcall FDesk___call__ T c_Desk__splice, bDesk___call__⟩
  have kb_Desk___call___1 := kw1 FDesk___call__ (ps := ["self", "index", "film", "cut", "other", "place"]) (n := 1) (ks := ["index", "film", "cut", "other", "place"]) (fun _ _ _ _ _ _ us ws h1 h2 => match us, ws, h1, h2 with | [_], [_, _, _, _, _], _, _ => rfl)
  have c_called : CalG P w K mg base 7 fcalled _ ["desk_here", "deed", "by_name"] (spCalled K _) := ⟨ok_called Fcalled T c_Desk___call__ kb_Desk___call___1, bcalled⟩
  have c_takes_back : Cal P w K mg base 1 ftakes_back _ ["bench"] spTakes := ⟨ok_takes Ftakes_back T, btakes_back⟩
  have c_Desk_undo : CalX P w K mg base 3 fDesk_undo _ ["self"] (spUndo _) := ⟨ok_undo FDesk_undo T c_init, bDesk_undo⟩
  have c_undone : CalG P w K mg base 5 fundone _ ["desk_here"] (spUndone _) := ⟨ok_undone Fundone T c_Desk_undo, bundone⟩
  have c_Box___eq__ : Cal P w K mg base 1 fBox___eq__ _ ["self", "other"] (spBoxEq K _) := ⟨ok_box_eq FBox___eq__ T, bBox___eq__⟩
  have c_Desk___eq__ : Cal P w K mg base 2 fDesk___eq__ _ ["self", "other"] (spDEq K _) := ⟨ok_desk_eq FDesk___eq__ T c_Box___eq__, bDesk___eq__⟩
  have c_right : CalG P w K mg base 9 fright _ ["sack"] (spRight K) := ⟨ok_right Fright T c_coin c_signs c_any_plan c_made c_bench c_Desk___init__ c_near c_lies_there c_deed c_call_fault c_fits c_do_ c_called c_takes_back c_undone c_Desk___eq__ c_Box___eq__ c_Desk_films, bright⟩
  exact ok_law Flaw T c_purse c_right
end K52
open PySem PySem.W PyProof.Rows
set_option maxRecDepth 100000 in
set_option maxHeartbeats 0 in
theorem PySem.Challenge.cw_splicedfilms_k52_equal_desks_holds : PySem.Challenge.rw_splicedfilms_k52_equal_desks.Holds := by
  w_on; o_law; k_head; (case hw => w_witness2)
  k_fill
  refine Sf.walkG (l := PySem.Challenge.rw_splicedfilms_k52_equal_desks) (k := 9 + 1) (x := "script") (sp := K52.spLaw) rfl (by decide) rfl ⟨rfl, by decide, by decide⟩ (fun w h Y => PySem.W.kIn_of Y) ?F (fun K H a ns hl hb hS => ⟨a, ns, rfl, hS, hl, hb, fun _ => rfl⟩)
  case F =>
    intro w mg fa h KX G hmg
    refine' K52.all_mk KX G hmg ?a0 ?x0 ?r0 ?sa0 ?ga0 ?gg0 ?no0 ?ini0 ?kp0 ?ex0 ?ty0 ?kl0 ?hd0 ?ic0 ?ob0 ?v0 ?a1 ?x1 ?r1 ?sa1 ?ga1 ?gg1 ?no1 ?ini1 ?kp1 ?ex1 ?ty1 ?kl1 ?hd1 ?ic1 ?ob1 ?v1 ?a2 ?x2 ?r2 ?sa2 ?ga2 ?gg2 ?no2 ?ini2 ?kp2 ?ex2 ?ty2 ?kl2 ?hd2 ?ic2 ?ob2 ?v2 ?a3 ?x3 ?r3 ?sa3 ?ga3 ?gg3 ?no3 ?ini3 ?kp3 ?ex3 ?ty3 ?kl3 ?hd3 ?ic3 ?ob3 ?v3 ?a4 ?x4 ?r4 ?sa4 ?ga4 ?gg4 ?no4 ?ini4 ?kp4 ?ex4 ?ty4 ?kl4 ?hd4 ?ic4 ?ob4 ?v4 ?a5 ?x5 ?r5 ?sa5 ?ga5 ?gg5 ?no5 ?ini5 ?kp5 ?ex5 ?ty5 ?kl5 ?hd5 ?ic5 ?ob5 ?v5 ?a6 ?x6 ?r6 ?sa6 ?ga6 ?gg6 ?no6 ?ini6 ?kp6 ?ex6 ?ty6 ?kl6 ?hd6 ?ic6 ?ob6 ?v6 ?a7 ?x7 ?r7 ?sa7 ?ga7 ?gg7 ?no7 ?ini7 ?kp7 ?ex7 ?ty7 ?kl7 ?hd7 ?ic7 ?ob7 ?v7 ?spO ?tkO ?tyI ?s0_0 ?s0_1 ?s0_2 ?s0_3 ?s0_4 ?s0_5 ?s0_6 ?s0_7 ?s1_0 ?s1_1 ?s1_2 ?s1_3 ?s1_4 ?s1_5 ?s1_6 ?s1_7 ?s2_0 ?s2_1 ?s2_2 ?s2_3 ?s2_4 ?s2_5 ?s2_6 ?s2_7 ?s3_0 ?s3_1 ?s3_2 ?s3_3 ?s3_4 ?s3_5 ?s3_6 ?s3_7 ?s4_0 ?s4_1 ?s4_2 ?s4_3 ?s4_4 ?s4_5 ?s4_6 ?s4_7 ?s5_0 ?s5_1 ?s5_2 ?s5_3 ?s5_4 ?s5_5 ?s5_6 ?s5_7 ?s6_0 ?s6_1 ?s6_2 ?s6_3 ?s6_4 ?s6_5 ?s6_6 ?s6_7 ?s7_0 ?s7_1 ?s7_2 ?s7_3 ?s7_4 ?s7_5 ?s7_6 ?s7_7 ?lI ?oI ?kI ?gis_piece ?lis_piece ?ois_piece ?kis_piece ?gis_film ?lis_film ?ois_film ?kis_film ?gcheck_film ?lcheck_film ?ocheck_film ?kcheck_film ?gcheck_piece ?lcheck_piece ?ocheck_piece ?kcheck_piece ?gcheck_rule ?lcheck_rule ?ocheck_rule ?kcheck_rule ?gsplice_of_films ?lsplice_of_films ?osplice_of_films ?ksplice_of_films ?gstand_at ?lstand_at ?ostand_at ?kstand_at ?gcoin ?lcoin ?ocoin ?kcoin ?gsigns ?lsigns ?osigns ?ksigns ?gword ?lword ?oword ?kword ?gpair ?lpair ?opair ?kpair ?gjoin ?ljoin ?ojoin ?kjoin ?gpurse ?lpurse ?opurse ?kpurse ?gplan ?lplan ?oplan ?kplan ?ggreat ?lgreat ?ogreat ?kgreat ?gmade ?lmade ?omade ?kmade ?gbent ?lbent ?obent ?kbent ?gnear ?lnear ?onear ?knear ?gsites ?lsites ?osites ?ksites ?gbench ?lbench ?obench ?kbench ?gput ?lput ?oput ?kput ?gcall_fault ?lcall_fault ?ocall_fault ?kcall_fault ?gdo_ ?ldo_ ?odo_ ?kdo_ ?gtakes_back ?ltakes_back ?otakes_back ?ktakes_back ?gfits ?lfits ?ofits ?kfits ?gdeed ?ldeed ?odeed ?kdeed ?gcalled ?lcalled ?ocalled ?kcalled ?gundone ?lundone ?oundone ?kundone ?glies_there ?llies_there ?olies_there ?klies_there ?gany_plan ?lany_plan ?oany_plan ?kany_plan ?gright ?lright ?oright ?kright ?glaw ?llaw ?olaw ?klaw ?zint ?zlen ?zmax ?zmin ?zabs ?zrepr ?zisinstance ?zlist ?ztuple ?zrange ?zsorted ?zall ?zset ?zenumerate ?gWorkings ?pgWorkings ?hdWorkings ?poWorkings ?saWorkings ?naWorkings__strips ?naWorkings__rules ?naWorkings__web ?naWorkings__table ?naWorkings__net ?naWorkings__routes ?naWorkings__parts ?naWorkings__lots ?atWorkings___init__ ?ifWorkings___init__ ?lWorkings___init__ ?oWorkings___init__ ?kWorkings___init__ ?mkWorkings ?kcWorkings ?gBox ?pgBox ?hdBox ?poBox ?saBox ?naBox__strips ?naBox__rules ?naBox__workings ?atBox___init__ ?ifBox___init__ ?lBox___init__ ?oBox___init__ ?kBox___init__ ?mkBox ?kcBox ?atBox___eq__ ?ifBox___eq__ ?lBox___eq__ ?oBox___eq__ ?kBox___eq__ ?sfBox ?klBox ?obBox ?icBox ?tyBox ?suBox ?atBox_strips ?gtBox_strips ?tkBox_strips ?rcBox_strips ?lBox_strips ?oBox_strips ?kBox_strips ?atBox_rules ?gtBox_rules ?tkBox_rules ?rcBox_rules ?lBox_rules ?oBox_rules ?kBox_rules ?gDesk ?pgDesk ?hdDesk ?poDesk ?saDesk ?naDesk__box ?naDesk__films ?naDesk__trees ?naDesk__numbers ?naDesk__calls ?atDesk___init__ ?ifDesk___init__ ?lDesk___init__ ?oDesk___init__ ?kDesk___init__ ?mkDesk ?kcDesk ?atDesk__put ?ifDesk__put ?lDesk__put ?oDesk__put ?kDesk__put ?atDesk__splice ?ifDesk__splice ?lDesk__splice ?oDesk__splice ?kDesk__splice ?atDesk__check_number ?ifDesk__check_number ?lDesk__check_number ?oDesk__check_number ?kDesk__check_number ?atDesk_films ?ifDesk_films ?lDesk_films ?oDesk_films ?kDesk_films ?atDesk_undo ?ifDesk_undo ?lDesk_undo ?oDesk_undo ?kDesk_undo ?atDesk___len__ ?ifDesk___len__ ?lDesk___len__ ?oDesk___len__ ?kDesk___len__ ?atDesk___call__ ?ifDesk___call__ ?lDesk___call__ ?oDesk___call__ ?kDesk___call__ ?atDesk___eq__ ?ifDesk___eq__ ?lDesk___eq__ ?oDesk___eq__ ?kDesk___eq__ ?fnDesk___call__ ?sfDesk ?klDesk ?obDesk ?icDesk ?tyDesk ?suDesk ?soDesk_list ?soDesk_int ?nPICTURES ?soBox_Desk ?soDesk_Box
    (case a0 => k_is)
    (case x0 => k_is)
    (case r0 => first | rfl | decide +kernel)
    (case sa0 => k_is)
    (case ga0 => k_is)
    (case gg0 => k_is)
    (case no0 => k_is)
    (case ini0 => k_is)
    (case kp0 => k_is)
    (case ex0 => k_is)
    (case ty0 => k_is)
    (case kl0 => k_is)
    (case hd0 => k_is)
    (case ic0 => k_is)
    (case ob0 => k_is)
    (case v0 => k_is)
    (case a1 => k_is)
    (case x1 => k_is)
    (case r1 => first | rfl | decide +kernel)
    (case sa1 => k_is)
    (case ga1 => k_is)
    (case gg1 => k_is)
    (case no1 => k_is)
    (case ini1 => k_is)
    (case kp1 => k_is)
    (case ex1 => k_is)
    (case ty1 => k_is)
    (case kl1 => k_is)
    (case hd1 => k_is)
    (case ic1 => k_is)
    (case ob1 => k_is)
    (case v1 => k_is)
    (case a2 => k_is)
    (case x2 => k_is)
    (case r2 => first | rfl | decide +kernel)
    (case sa2 => k_is)
    (case ga2 => k_is)
    (case gg2 => k_is)
    (case no2 => k_is)
    (case ini2 => k_is)
    (case kp2 => k_is)
    (case ex2 => k_is)
    (case ty2 => k_is)
    (case kl2 => k_is)
    (case hd2 => k_is)
    (case ic2 => k_is)
    (case ob2 => k_is)
    (case v2 => k_is)
    (case a3 => k_is)
    (case x3 => k_is)
    (case r3 => first | rfl | decide +kernel)
    (case sa3 => k_is)
    (case ga3 => k_is)
    (case gg3 => k_is)
    (case no3 => k_is)
    (case ini3 => k_is)
    (case kp3 => k_is)
    (case ex3 => k_is)
    (case ty3 => k_is)
    (case kl3 => k_is)
    (case hd3 => k_is)
    (case ic3 => k_is)
    (case ob3 => k_is)
    (case v3 => k_is)
    (case a4 => k_is)
    (case x4 => k_is)
    (case r4 => first | rfl | decide +kernel)
    (case sa4 => k_is)
    (case ga4 => k_is)
    (case gg4 => k_is)
    (case no4 => k_is)
    (case ini4 => k_is)
    (case kp4 => k_is)
    (case ex4 => k_is)
    (case ty4 => k_is)
    (case kl4 => k_is)
    (case hd4 => k_is)
    (case ic4 => k_is)
    (case ob4 => k_is)
    (case v4 => k_is)
    (case a5 => k_is)
    (case x5 => k_is)
    (case r5 => first | rfl | decide +kernel)
    (case sa5 => k_is)
    (case ga5 => k_is)
    (case gg5 => k_is)
    (case no5 => k_is)
    (case ini5 => k_is)
    (case kp5 => k_is)
    (case ex5 => k_is)
    (case ty5 => k_is)
    (case kl5 => k_is)
    (case hd5 => k_is)
    (case ic5 => k_is)
    (case ob5 => k_is)
    (case v5 => k_is)
    (case a6 => k_is)
    (case x6 => k_is)
    (case r6 => first | rfl | decide +kernel)
    (case sa6 => k_is)
    (case ga6 => k_is)
    (case gg6 => k_is)
    (case no6 => k_is)
    (case ini6 => k_is)
    (case kp6 => k_is)
    (case ex6 => k_is)
    (case ty6 => k_is)
    (case kl6 => k_is)
    (case hd6 => k_is)
    (case ic6 => k_is)
    (case ob6 => k_is)
    (case v6 => k_is)
    (case a7 => k_is)
    (case x7 => k_is)
    (case r7 => first | rfl | decide +kernel)
    (case sa7 => k_is)
    (case ga7 => k_is)
    (case gg7 => k_is)
    (case no7 => k_is)
    (case ini7 => k_is)
    (case kp7 => k_is)
    (case ex7 => k_is)
    (case ty7 => k_is)
    (case kl7 => k_is)
    (case hd7 => k_is)
    (case ic7 => k_is)
    (case ob7 => k_is)
    (case v7 => k_is)
    (case spO => k_is)
    (case tkO => k_is)
    (case tyI => k_is)
    (case s0_0 => k_is)
    (case s0_1 => k_is)
    (case s0_2 => k_is)
    (case s0_3 => k_is)
    (case s0_4 => k_is)
    (case s0_5 => k_is)
    (case s0_6 => k_is)
    (case s0_7 => k_is)
    (case s1_0 => k_is)
    (case s1_1 => k_is)
    (case s1_2 => k_is)
    (case s1_3 => k_is)
    (case s1_4 => k_is)
    (case s1_5 => k_is)
    (case s1_6 => k_is)
    (case s1_7 => k_is)
    (case s2_0 => k_is)
    (case s2_1 => k_is)
    (case s2_2 => k_is)
    (case s2_3 => k_is)
    (case s2_4 => k_is)
    (case s2_5 => k_is)
    (case s2_6 => k_is)
    (case s2_7 => k_is)
    (case s3_0 => k_is)
    (case s3_1 => k_is)
    (case s3_2 => k_is)
    (case s3_3 => k_is)
    (case s3_4 => k_is)
    (case s3_5 => k_is)
    (case s3_6 => k_is)
    (case s3_7 => k_is)
    (case s4_0 => k_is)
    (case s4_1 => k_is)
    (case s4_2 => k_is)
    (case s4_3 => k_is)
    (case s4_4 => k_is)
    (case s4_5 => k_is)
    (case s4_6 => k_is)
    (case s4_7 => k_is)
    (case s5_0 => k_is)
    (case s5_1 => k_is)
    (case s5_2 => k_is)
    (case s5_3 => k_is)
    (case s5_4 => k_is)
    (case s5_5 => k_is)
    (case s5_6 => k_is)
    (case s5_7 => k_is)
    (case s6_0 => k_is)
    (case s6_1 => k_is)
    (case s6_2 => k_is)
    (case s6_3 => k_is)
    (case s6_4 => k_is)
    (case s6_5 => k_is)
    (case s6_6 => k_is)
    (case s6_7 => k_is)
    (case s7_0 => k_is)
    (case s7_1 => k_is)
    (case s7_2 => k_is)
    (case s7_3 => k_is)
    (case s7_4 => k_is)
    (case s7_5 => k_is)
    (case s7_6 => k_is)
    (case s7_7 => k_is)
    (case lI => k_is)
    (case oI => k_is)
    (case kI => k_is)
    (case gis_piece => k_is)
    (case lis_piece => k_is)
    (case ois_piece => k_is)
    (case kis_piece => k_is)
    (case gis_film => k_is)
    (case lis_film => k_is)
    (case ois_film => k_is)
    (case kis_film => k_is)
    (case gcheck_film => k_is)
    (case lcheck_film => k_is)
    (case ocheck_film => k_is)
    (case kcheck_film => k_is)
    (case gcheck_piece => k_is)
    (case lcheck_piece => k_is)
    (case ocheck_piece => k_is)
    (case kcheck_piece => k_is)
    (case gcheck_rule => k_is)
    (case lcheck_rule => k_is)
    (case ocheck_rule => k_is)
    (case kcheck_rule => k_is)
    (case gsplice_of_films => k_is)
    (case lsplice_of_films => k_is)
    (case osplice_of_films => k_is)
    (case ksplice_of_films => k_is)
    (case gstand_at => k_is)
    (case lstand_at => k_is)
    (case ostand_at => k_is)
    (case kstand_at => k_is)
    (case gcoin => k_is)
    (case lcoin => k_is)
    (case ocoin => k_is)
    (case kcoin => k_is)
    (case gsigns => k_is)
    (case lsigns => k_is)
    (case osigns => k_is)
    (case ksigns => k_is)
    (case gword => k_is)
    (case lword => k_is)
    (case oword => k_is)
    (case kword => k_is)
    (case gpair => k_is)
    (case lpair => k_is)
    (case opair => k_is)
    (case kpair => k_is)
    (case gjoin => k_is)
    (case ljoin => k_is)
    (case ojoin => k_is)
    (case kjoin => k_is)
    (case gpurse => k_is)
    (case lpurse => k_is)
    (case opurse => k_is)
    (case kpurse => k_is)
    (case gplan => k_is)
    (case lplan => k_is)
    (case oplan => k_is)
    (case kplan => k_is)
    (case ggreat => k_is)
    (case lgreat => k_is)
    (case ogreat => k_is)
    (case kgreat => k_is)
    (case gmade => k_is)
    (case lmade => k_is)
    (case omade => k_is)
    (case kmade => k_is)
    (case gbent => k_is)
    (case lbent => k_is)
    (case obent => k_is)
    (case kbent => k_is)
    (case gnear => k_is)
    (case lnear => k_is)
    (case onear => k_is)
    (case knear => k_is)
    (case gsites => k_is)
    (case lsites => k_is)
    (case osites => k_is)
    (case ksites => k_is)
    (case gbench => k_is)
    (case lbench => k_is)
    (case obench => k_is)
    (case kbench => k_is)
    (case gput => k_is)
    (case lput => k_is)
    (case oput => k_is)
    (case kput => k_is)
    (case gcall_fault => k_is)
    (case lcall_fault => k_is)
    (case ocall_fault => k_is)
    (case kcall_fault => k_is)
    (case gdo_ => k_is)
    (case ldo_ => k_is)
    (case odo_ => k_is)
    (case kdo_ => k_is)
    (case gtakes_back => k_is)
    (case ltakes_back => k_is)
    (case otakes_back => k_is)
    (case ktakes_back => k_is)
    (case gfits => k_is)
    (case lfits => k_is)
    (case ofits => k_is)
    (case kfits => k_is)
    (case gdeed => k_is)
    (case ldeed => k_is)
    (case odeed => k_is)
    (case kdeed => k_is)
    (case gcalled => k_is)
    (case lcalled => k_is)
    (case ocalled => k_is)
    (case kcalled => k_is)
    (case gundone => k_is)
    (case lundone => k_is)
    (case oundone => k_is)
    (case kundone => k_is)
    (case glies_there => k_is)
    (case llies_there => k_is)
    (case olies_there => k_is)
    (case klies_there => k_is)
    (case gany_plan => k_is)
    (case lany_plan => k_is)
    (case oany_plan => k_is)
    (case kany_plan => k_is)
    (case gright => k_is)
    (case lright => k_is)
    (case oright => k_is)
    (case kright => k_is)
    (case glaw => k_is)
    (case llaw => k_is)
    (case olaw => k_is)
    (case klaw => k_is)
    (case zint => k_is)
    (case zlen => k_is)
    (case zmax => k_is)
    (case zmin => k_is)
    (case zabs => k_is)
    (case zrepr => k_is)
    (case zisinstance => k_is)
    (case zlist => k_is)
    (case ztuple => k_is)
    (case zrange => k_is)
    (case zsorted => k_is)
    (case zall => k_is)
    (case zset => k_is)
    (case zenumerate => k_is)
    (case gWorkings => k_is)
    (case pgWorkings => k_is)
    (case hdWorkings => k_is)
    (case poWorkings => k_is)
    (case saWorkings => k_is)
    (case naWorkings__strips => k_is)
    (case naWorkings__rules => k_is)
    (case naWorkings__web => k_is)
    (case naWorkings__table => k_is)
    (case naWorkings__net => k_is)
    (case naWorkings__routes => k_is)
    (case naWorkings__parts => k_is)
    (case naWorkings__lots => k_is)
    (case atWorkings___init__ => k_is)
    (case ifWorkings___init__ => k_is)
    (case lWorkings___init__ => k_is)
    (case oWorkings___init__ => k_is)
    (case kWorkings___init__ => k_is)
    (case mkWorkings => k_is)
    (case kcWorkings => k_is)
    (case gBox => k_is)
    (case pgBox => k_is)
    (case hdBox => k_is)
    (case poBox => k_is)
    (case saBox => k_is)
    (case naBox__strips => k_is)
    (case naBox__rules => k_is)
    (case naBox__workings => k_is)
    (case atBox___init__ => k_is)
    (case ifBox___init__ => k_is)
    (case lBox___init__ => k_is)
    (case oBox___init__ => k_is)
    (case kBox___init__ => k_is)
    (case mkBox => k_is)
    (case kcBox => k_is)
    (case atBox___eq__ => k_is)
    (case ifBox___eq__ => k_is)
    (case lBox___eq__ => k_is)
    (case oBox___eq__ => k_is)
    (case kBox___eq__ => k_is)
    (case sfBox => k_is)
    (case klBox => k_is)
    (case obBox => k_is)
    (case icBox => k_is)
    (case tyBox => k_is)
    (case suBox => k_is)
    (case atBox_strips => k_is)
    (case gtBox_strips => k_is)
    (case tkBox_strips => k_is)
    (case rcBox_strips => k_is)
    (case lBox_strips => k_is)
    (case oBox_strips => k_is)
    (case kBox_strips => k_is)
    (case atBox_rules => k_is)
    (case gtBox_rules => k_is)
    (case tkBox_rules => k_is)
    (case rcBox_rules => k_is)
    (case lBox_rules => k_is)
    (case oBox_rules => k_is)
    (case kBox_rules => k_is)
    (case gDesk => k_is)
    (case pgDesk => k_is)
    (case hdDesk => k_is)
    (case poDesk => k_is)
    (case saDesk => k_is)
    (case naDesk__box => k_is)
    (case naDesk__films => k_is)
    (case naDesk__trees => k_is)
    (case naDesk__numbers => k_is)
    (case naDesk__calls => k_is)
    (case atDesk___init__ => k_is)
    (case ifDesk___init__ => k_is)
    (case lDesk___init__ => k_is)
    (case oDesk___init__ => k_is)
    (case kDesk___init__ => k_is)
    (case mkDesk => k_is)
    (case kcDesk => k_is)
    (case atDesk__put => k_is)
    (case ifDesk__put => k_is)
    (case lDesk__put => k_is)
    (case oDesk__put => k_is)
    (case kDesk__put => k_is)
    (case atDesk__splice => k_is)
    (case ifDesk__splice => k_is)
    (case lDesk__splice => k_is)
    (case oDesk__splice => k_is)
    (case kDesk__splice => k_is)
    (case atDesk__check_number => k_is)
    (case ifDesk__check_number => k_is)
    (case lDesk__check_number => k_is)
    (case oDesk__check_number => k_is)
    (case kDesk__check_number => k_is)
    (case atDesk_films => k_is)
    (case ifDesk_films => k_is)
    (case lDesk_films => k_is)
    (case oDesk_films => k_is)
    (case kDesk_films => k_is)
    (case atDesk_undo => k_is)
    (case ifDesk_undo => k_is)
    (case lDesk_undo => k_is)
    (case oDesk_undo => k_is)
    (case kDesk_undo => k_is)
    (case atDesk___len__ => k_is)
    (case ifDesk___len__ => k_is)
    (case lDesk___len__ => k_is)
    (case oDesk___len__ => k_is)
    (case kDesk___len__ => k_is)
    (case atDesk___call__ => k_is)
    (case ifDesk___call__ => k_is)
    (case lDesk___call__ => k_is)
    (case oDesk___call__ => k_is)
    (case kDesk___call__ => k_is)
    (case atDesk___eq__ => k_is)
    (case ifDesk___eq__ => k_is)
    (case lDesk___eq__ => k_is)
    (case oDesk___eq__ => k_is)
    (case kDesk___eq__ => k_is)
    (case fnDesk___call__ => k_is)
    (case sfDesk => k_is)
    (case klDesk => k_is)
    (case obDesk => k_is)
    (case icDesk => k_is)
    (case tyDesk => k_is)
    (case suDesk => k_is)
    (case soDesk_list => k_is)
    (case soDesk_int => k_is)
    (case nPICTURES => k_is)
    (case soBox_Desk => k_is)
    (case soDesk_Box => k_is)
#print axioms PySem.Challenge.cw_splicedfilms_k52_equal_desks_holds
