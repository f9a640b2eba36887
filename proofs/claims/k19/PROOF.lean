import PyProof.Rows.All
import Wide.All
import OpenK.AllK
import Wide.FinOn
import PyProof.ReprRoads
import HandS.ForExc
import HandS.ForMost
import HandS.Wide
import HandS.EndBits
import HandS.ExcInit
import HandS.ExcField
import HandS.ExcIs
import HandS.IsInst
import HandS.MakeKwOnly
import KE.KExcIs
import PyProof.StrLawsRepr
import HandS.Evl
import HandS.Text
import HandS.StrMore
import HandS.Walk
import HandS.More
import PyProof.StrLawsFrom
import PyProof.Rows.StrCut
import PyProof.StrBlock2
import HandS.Set
import HandS.Iter
import HandS.SetTxt0
import PyProof.Rows.SetFrom
import PyProof.Rows.SortStr
import HandS.Strs
import PyProof.Rows.SortShellAny
import HandS.Property
import HandS.NamedTupGet
import HandS.OwnEq
import HandS.Style
import HandS.CallSlots
import HandS.Defaults
import HandS.TupLe
import HandS.TryOnly
import HandS.Flow
import HandS.DictTup
import HandS.SetKeys
import PyProof.DictMoreH
import KE.GoesZip
import KE.GoesMore
import HandS.Zip
import PySem.Challenge.RW_splicedfilms_k19_least_tables
import HandS.DictComp
import HandS.TupLen
import HandS.WordsDict
import HandS.List
set_option Elab.async false
set_option linter.all false
set_option maxRecDepth 100000
set_option maxHeartbeats 8000000
namespace Sf
open PySem PySem.Spec PyProof.Rows L2

/-! ### repr of data -/
mutual
theorem Dp.noDict {K : PySem.W.Frag} {H : Hp} : ∀ (d : PyData) (v : V), Dp K H v d → d.hasDict = false
  | .none, _, h => by simp only [PyData.hasDict]
  | .bool _, _, h => by simp only [PyData.hasDict]
  | .int _, _, h => by simp only [PyData.hasDict]
  | .str _, _, h => by simp only [PyData.hasDict]
  | .list ds, _, h => by
    cases h with
    | lst _ a => simp only [PyData.hasDict]; exact DpAll.noDict ds _ a
  | .tuple ds, _, h => by
    cases h with
    | tup _ a => simp only [PyData.hasDict]; exact DpAll.noDict ds _ a
  | .dict _, _, h => by cases h
theorem DpAll.noDict {K : PySem.W.Frag} {H : Hp} : ∀ (ds : List PyData) (vs : List V), DpAll K H vs ds → PyData.hasDictAll ds = false
  | [], _, h => by simp only [PyData.hasDictAll]
  | d :: ds, _, h => by
    cases h with
    | cons a b => simp only [PyData.hasDictAll, Dp.noDict d _ a, DpAll.noDict ds _ b, Bool.or_self]
end
def rRepr (K : PySem.W.Frag) : List V → Hp → VK → Prop := fun xs H Q =>
  ∃ x d, xs = [x] ∧ Dp K H x d ∧ d.showable = true ∧ d.shown.length ≤ sizeLine ∧ d.depth ≤ 60 ∧ Q (.str d.shown) H
theorem call_repr {X : Cx} (hg : X.A.guards = some []) (hu : X.A.units + 64 < cLine) : CallR X (.builtin "repr") (rRepr X.K) := by
  intro pins s σ H xs us Q I r h
  obtain ⟨x, d, rfl, hd, hs, hz, hdep, q⟩ := h
  obtain ⟨u, rfl, ru⟩ := vals1 r
  obtain ⟨as, rd⟩ := Dp.reads I d x u hd ru
  have nd := Dp.noDict d x hd
  cases rd with
  | none => simp only [PyData.shown] at q; exact PySem.P.repr_of_none ⟨.str _, H, I.tok _, ⟨_, rfl⟩, q⟩
  | bool b => simp only [PyData.shown] at q; exact PySem.P.repr_of_bool ⟨.str _, H, I.tok _, ⟨_, rfl⟩, q⟩
  | int i t => simp only [PyData.shown] at q; exact PySem.P.repr_of_int (by simpa [PyData.showable] using hs) ⟨.str _, H, I.tok _, ⟨_, rfl⟩, q⟩
  | str y t => simp only [PyData.shown] at q hz; exact PySem.P.repr_of_str ⟨.str _, H, I.tok _, ⟨_, rfl⟩, q⟩ hz
  | list h1 h2 h3 h4 =>
    exact repr_of_reads' (.list h1 h2 h3 h4) hs (fun z => by rw [nd] at z; cases z) hg (by omega) (fun _ _ e => e)
      (fun h' u tk k => ⟨.str _, H, I.kept (t' := tk) k, ⟨_, rfl⟩, q⟩) hz
  | tuple h1 h2 h3 h4 =>
    exact repr_of_reads' (.tuple h1 h2 h3 h4) hs (fun z => by rw [nd] at z; cases z) hg (by omega) (fun _ _ e => e)
      (fun h' u tk k => ⟨.str _, H, I.kept (t' := tk) k, ⟨_, rfl⟩, q⟩) hz
  | dict h1 h2 h3 h4 h5 => cases hd

/-! ### defs that run where no repr is under way -/
/-- FnOk's like, for stacks without a guard; nothing is let out -/
structure Gd (P : Program) (w : World) (K : PySem.W.Frag) (mg : Str → Option Value) (base : Heap) (k : Nat) (f : Addr) (fd : FuncData) (ps : List Str) (sp : Sp) : Prop where
  size : ∀ vs H Q E, sp vs H Q E → vs.length = ps.length
  go : ∀ (A : Around) (outer : List Env) (s : Shared) (H : Hp) (args : Args) (us : List Value) (vs : List V) (Q : VK) (E : XK), A.guards = some [] → Room k A →
    Env0 P w K mg base A outer s H → BindsTo s fd args (ps.zip us) → Vals vs us → sp vs H Q E → codeAny (model P w) A (.call (.ref f) args) (CR CX0 outer P w H s Q E) s
section
variable {P : Program} {w : World} {K : PySem.W.Frag} {mg : Str → Option Value} {base : Heap}
theorem gd_of {k : Nat} {f : Addr} {fd : FuncData} {ps : List Str} {sp : Sp} (F : FnOk P w K mg base CX0 k f fd ps sp) : Gd P w K mg base k f fd ps sp :=
  ⟨F.len, fun A outer s H args us vs Q E _ hr => F.run A outer s H args us vs Q E hr⟩
theorem gd_mono {j k : Nat} {f : Addr} {fd : FuncData} {ps : List Str} {sp : Sp} (F : Gd P w K mg base j f fd ps sp) (h : j ≤ k) : Gd P w K mg base k f fd ps sp :=
  ⟨F.size, fun A outer s H args us vs Q E hg hr => F.go A outer s H args us vs Q E hg (hr.mono h)⟩
theorem okG {x qual : Str} {st : Stmt} {f : Addr} {fd : FuncData} {N ps : List Str} {k : Nat} {sp : Sp} (F : Fun K x qual st f fd) (S : FnScope N ps (defScope st)) (len : ∀ vs H Q E, sp vs H Q E → vs.length = ps.length)
    (body : ∀ (cdv : Value) (A : Around) (outer : List Env) (s : Shared) (H : Hp) (vs : List V) (Q : VK) (E : XK), (A.deeper (envOfC qual (defScope st) s.heap.objs.size f cdv)).guards = some [] →
      Room k (A.deeper (envOfC qual (defScope st) s.heap.objs.size f cdv)) → sp vs H Q E →
      ∃ t, PSs (cxOf CX0 P w K mg base N qual (defScope st) f cdv A outer s H E).nox (defBody st) t ∧ t { nx := fun _ H' => Q .non H', rt := Q } (start N vs) H) : Gd P w K mg base (k + 1) f fd ps sp := by
  obtain ⟨oc, od, kV, doc, pm, an, cdv, ct, osl, e, lk, hcd⟩ := F.ex
  subst e
  refine ⟨len, ?_⟩
  intro A outer s H args us vs Q E hg hr e0 hb r hsp
  have size := len _ _ _ _ hsp
  have old : ∀ b o, base.get? b = some o → s.heap.get? b = some o := fun b o z => (e0.bs b o z).1
  have KX : K.In s.heap := e0.mod.kin.keeps old
  have kinds : ∀ y ∈ ps.zip us, (defScope st).names.lookup y.1 = some .local ∨ ((defScope st).names.lookup y.1 = some .cell ∧ ((cellsFrom (s.heap.objs.size + 1) (defScope st).names []).lookup y.1).isSome = true) := by
    intro y hy
    obtain ⟨n, v⟩ := y
    cases S.par n (List.of_mem_zip hy).1 with
    | inl q => exact .inl q
    | inr q => exact .inr ⟨q, PySem.W.cellsFrom_some _ _ _ (.inl q)⟩
  apply codeAny_call_function hr.depth (KX _ _ lk) rfl S.co S.gen rfl (PySem.W.codeRec_of KX hcd)
  apply hb
  apply wpAny_newFunctionEnv_cells S.kind kinds
  intro env he s1 x
  subst he
  refine ⟨(e0.mod.nolimit.keeps old).keeps x.toInCall.keep, codeAny_func ?_⟩
  obtain ⟨t, ht, hq⟩ := body cdv A outer s H vs Q E (by exact hg) (hr.deeper _) hsp
  have I := inv_start (CX := CX0) (f := f) (cd := cdv) (qual := qual) (outer := outer) (E := E) S hr.hd e0 size r x
  apply wpAny_mono (ht.nox.run [] s1 (start N vs) H _ I hq)
  · intro fl s' hs
    cases fl with
    | ret u => exact let ⟨v, _, H', J, rv, q⟩ := hs; ⟨v, H', J.os, J.bare, J.base, J.hok, rv, q⟩
    | next => exact let ⟨_, H', J, q⟩ := hs; ⟨V.non, H', J.os, J.bare, J.base, J.hok, rfl, q⟩
    | brk => exact let ⟨_, _, _, q⟩ := hs; q.elim
    | cont => exact let ⟨_, _, _, q⟩ := hs; q.elim
  · exact fun _ _ z => z
end
section
variable {X : Cx} {k : Nat} {f : Addr} {fd : FuncData} {ps : List Str} {sp : Sp} {x : Str} {p pos : Pos} {e : Expr} {es : List Expr} {t : TA}
/-- the call of such a def -/
theorem pe_callG (hG : X.A.guards = some []) (F : Gd X.prog X.w X.K X.mg X.base k f fd ps sp) (hr : Room k X.A) (hg : Gl X x) (hm : X.mg x = some (.ref f)) (hk : PySem.W.keepIn X.K (.ref f) = true) (hb : Binds X.K fd ps [])
    (ha : PA X (e :: es) t) (hdb : (x == ("__debug__" : Str)) = false := by decide) (he : starEach (e :: es) X.env = (false, eval e X.env) :: starEach es X.env := by rfl) (hpl : (backTo pos (starEach es X.env)).any (·.1) = false := by rfl) :
    PE X (.Call (.Name x p) (e :: es) [] pos) (tCall sp [] E0 t) := by
  constructor
  intro pins s σ H Q I h
  apply wpAny_Call_Name_kw (ld_glob I hg hm ?_ hdb)
  apply PySem.W.callWith_K (h₀ := X.base) I.ok.mod.kin hk (thn (ha.run pos pins s σ H _ I h) ?_) he hpl
  rintro us s1 ⟨vs, H1, I1, r, q⟩
  refine ⟨I1.kIn, ?_⟩
  rw [List.append_nil] at q
  have l := F.size _ _ _ _ q
  have b := hb s1 us I1.kIn (by rw [List.append_nil, ← r.length]; exact l)
  rw [List.append_nil] at b
  apply wpAny_call
  apply codeAny_mono (F.go X.A X.stack s1 H1 ⟨us, []⟩ us vs Q E0 hG hr I1.env0 b r q)
  intro res s' hq
  cases res with
  | error er => exact False.elim hq
  | ok fl =>
    cases fl with
    | ret u => exact I1.after hq
    | next => exact hq.elim
    | brk => exact hq.elim
    | cont => exact hq.elim
end

/-! ### the end of a law whose def runs where no repr is under way -/
/-- the law's call, over an abstract heap that tracks the script alone -/
theorem law_at {P : Program} {w : World} {K : PySem.W.Frag} {mg mb : Str → Option Value} {k : Nat} {fa a : Addr} {fd : FuncData} {x : Str} {sp : Sp} {s₁ : Shared} {vs : List Value} (H : Hp)
    (KX : K.In s₁.heap) (gl : s₁.heap.Ns mainGlobals mg) (hb : s₁.heap.Ns builtinsNs mb) (hbb : ∀ x : Str, x ≠ "__name__" → mb x = bootBuiltins x) (hlim : s₁.heap.NoLimit) (hg : s₁.gens = #[])
    (ha : s₁.heap.get? a = some { cls := .type "list", data := .seq vs.toArray }) (hr : Room k callerA)
    (F : ∀ base : Heap, K.In base → base.Ns mainGlobals mg → Gd P w K mg base k fa fd [x] sp) (hbind : ∀ (s : Shared) (u : Value), BindsTo s fd ⟨[u], []⟩ [(x, u)])
    (only : Only H) (lone : ∀ b u, H b = some u → b = a ∧ K.lookup a = none) (hok : HOk P w H s₁.heap) (hsp : sp [.ref a] H (fun v _ => v = .bl true) E0) :
    codeAny (model P w) callerA (.call (.ref fa) ⟨[.ref a], []⟩) (fun r s' => r = .ok (.ret (.bool true)) ∧ OldK s₁.heap s'.heap ∧ s'.os = s₁.os ∧ AllBare s'.gens) s₁ := by
  have isK : ∀ b o, K.lookup b = some o → H b = none := by
    intro b o e
    cases q : H b with
    | none => rfl
    | some u =>
      obtain ⟨z, n⟩ := lone b u q
      rw [z, n] at e
      cases e
  have isD : ∀ b o es ep, s₁.heap.get? b = some o → o.data = .dict es ep → H b = none := by
    intro b o es ep e d
    cases q : H b with
    | none => rfl
    | some u =>
      rw [(lone b u q).1, ha] at e
      cases e
      cases d
  have ns : ∀ {b : Addr} {m : Str → Option Value}, s₁.heap.Ns b m → (hidT s₁.heap H).Ns b m := by
    rintro b m ⟨o, es, ep, e, d, r⟩
    exact ⟨o, es, ep, hidT_get e (isD b o es ep e d), d, r⟩
  have kin : K.In (hidT s₁.heap H) := fun b o e => hidT_get (KX b o e) (isK b o e)
  obtain ⟨mc, l1, l2⟩ := hlim
  have e0 : Env0 P w K mg (hidT s₁.heap H) callerA [] s₁ H := {
    frames := rfl
    mod := ⟨kin, ns gl, ⟨mb, ns hb, hbb⟩, ⟨mc, ns l1, l2⟩⟩
    bs := fun b o e => of_hidT e
    bsz := Nat.le_of_eq (hidT_size _ _)
    funs := trivial
    frf := fun b z => (List.not_mem_nil z).elim
    hok := hok
    bare := .of_eq hg }
  have run := (F _ kin (ns gl)).go callerA [] s₁ H ⟨[.ref a], []⟩ [.ref a] [.ref a] _ _ rfl hr e0 (hbind s₁ (.ref a)) (.cons rfl .nil) hsp
  apply codeAny_mono run
  intro r s' h
  cases r with
  | error er => exact h.elim
  | ok fl =>
    cases fl with
    | next => exact h.elim
    | brk => exact h.elim
    | cont => exact h.elim
    | ret u =>
      obtain ⟨v, H', os, bare, un, hok', r', q⟩ := h
      have q : v = V.bl true := q
      subst q
      have r' : u = Value.bool true := r'
      subst r'
      refine ⟨rfl, OldK.of_keep ?_, os, bare⟩
      intro b o e
      cases q : H b with
      | none => exact un.keep b o e q (List.not_mem_nil) (List.not_mem_nil)
      | some u =>
        rcases only b with z | ⟨ob, xs, z⟩
        · rw [q] at z
          cases z
        · have z2 := (hok' b _ (un.frzs b ob _ z)).1
          rw [(hok b _ z).1] at e
          cases e
          exact z2
theorem law_any {P : Program} {w : World} {K : PySem.W.Frag} {mg mb : Str → Option Value} {k : Nat} {fa a : Addr} {fd : FuncData} {x : Str} {sp : Sp} {s₁ : Shared} {vs : List Value} {ns : List Int}
    (KX : K.In s₁.heap) (gl : s₁.heap.Ns mainGlobals mg) (hb : s₁.heap.Ns builtinsNs mb) (hbb : ∀ x : Str, x ≠ "__name__" → mb x = bootBuiltins x) (hlim : s₁.heap.NoLimit) (hg : s₁.gens = #[])
    (ha : s₁.heap.get? a = some { cls := .type "list", data := .seq vs.toArray }) (hi : IntsAre vs ns) (hl : ns.length ≤ sizeLine) (hr : Room k callerA)
    (F : ∀ base : Heap, K.In base → base.Ns mainGlobals mg → Gd P w K mg base k fa fd [x] sp) (hbind : ∀ (s : Shared) (u : Value), BindsTo s fd ⟨[u], []⟩ [(x, u)])
    (hsp : ∀ H : Hp, Only H → SqL K H a (ns.map V.int) → sp [.ref a] H (fun v _ => v = .bl true) E0) :
    codeAny (model P w) callerA (.call (.ref fa) ⟨[.ref a], []⟩) (fun r s' => r = .ok (.ret (.bool true)) ∧ OldK s₁.heap s'.heap ∧ s'.os = s₁.os ∧ AllBare s'.gens) s₁ := by
  have rv := vals_ints hi
  have len : vs.length = ns.length := hi.length
  cases hk : K.lookup a with
  | some o =>
    have e := KX a o hk
    rw [ha] at e
    cases e
    have sq : SqL K (fun _ => none) a (ns.map V.int) := .inr ⟨_, vs.toArray, _, hk, rfl, rfl, rfl, by rw [List.size_toArray, len]; exact hl, by simpa using rv⟩
    exact law_at (fun _ => none) KX gl hb hbb hlim hg ha hr F hbind (fun _ => .inl rfl) (fun _ _ z => by cases z) (fun b u z => by cases z) (hsp _ (fun _ => .inl rfl) sq)
  | none =>
    let frozen : HO := .frz { cls := .type "list", data := .seq vs.toArray } (.lst (ns.map V.int))
    let H : Hp := fun b => if b = a then some frozen else none
    have at_a : H a = some frozen := if_pos rfl
    have none_else : ∀ b, b ≠ a → H b = none := fun b n => if_neg n
    have one : ∀ b u, H b = some u → b = a ∧ u = frozen := by
      intro b u z
      by_cases n : b = a
      · subst n
        rw [at_a] at z
        exact ⟨rfl, (Option.some.inj z).symm⟩
      · rw [none_else b n] at z
        cases z
    have only : Only H := by
      intro b
      by_cases n : b = a
      · subst n
        exact .inr ⟨_, _, at_a⟩
      · exact .inl (none_else b n)
    refine law_at H KX gl hb hbb hlim hg ha hr F hbind only (fun b u z => ⟨(one b u z).1, hk⟩) ?_ (hsp H only (.inl (.inr ⟨_, at_a⟩)))
    intro b u z
    obtain ⟨e1, e2⟩ := one b u z
    subst e1 e2
    exact ⟨ha, by rw [List.length_map]; exact hl, vs, _, rv, ha⟩
theorem walkG {l : PySem.W.OpenLaw} {n k : Nat} {q : Program} {loose : List Str} {XP : (Str → Option Value) → Heap → Prop} {YP : World → Heap → Prop} {d : DefRec} {K : Params → PySem.W.Frag} {sp : PySem.W.Frag → Sp} {x : Str}
    (hn : l.most = some n) (hn2 : n ≤ sizeLine) (hdf : d.params.defaults = []) (hr : Room k callerA) (hY : ∀ (w : World) (h : Heap), YP w h → (K w.params).In h)
    (F : ∀ (w : World) (mg : Str → Option Value) (fa : Addr) (h : Heap), (K w.params).In h → h.Ns mainGlobals mg → mg d.name = some (.ref fa) →
      ∃ fd : FuncData, (∀ (s : Shared) (u : Value), BindsTo s fd ⟨[u], []⟩ [(x, u)]) ∧ ∀ base : Heap, (K w.params).In base → base.Ns mainGlobals mg → Gd l.prog w (K w.params) mg base k fa fd [x] (sp (K w.params)))
    (hsp : ∀ (K : PySem.W.Frag) (H : Hp) (a : Addr) (ns : List Int), ns.length ≤ n → (∀ z ∈ ns, Builtin.Int.intBits z ≤ 1048576) → SqL K H a (ns.map V.int) → sp K [.ref a] H (fun v _ => v = .bl true) E0) :
    PySem.W.WalkO q loose XP YP l.row.toRowW d [] (fun f vs => PySem.call f vs) := by
  apply Att.attach_callB hn hdf
  intro w s₀ s₁ mg mb fa o pm cd doc a vs ns G Y ho hd hcd hmg hobj hints hlen hbits hg
  have KX := hY w _ Y
  obtain ⟨fd, hb, hF⟩ := F w mg fa _ KX G.T.g hmg
  exact law_any KX G.T.g G.T.b G.T.builtins G.T.nolimit hg hobj hints (Nat.le_trans hlen hn2) hr hF hb fun H _ hS => hsp _ H a ns hlen hbits hS
end Sf

namespace Sf
open PySem PySem.Spec PyProof.Rows L2
/-! ### numbers of any size -/
def CMulX (i j : Int) : Prop := Builtin.Int.intBits i + Builtin.Int.intBits j ≤ 100000000
def CPowX (i j : Int) : Prop := 0 ≤ j ∧ (Builtin.Int.intBits i : Int) * j ≤ 100000000
section
variable {X : Cx}
theorem op_mulX : OpR X (binaryOp .Mult) (rI CMulX fun i j => .int (i * j)) := opI fun i j _ _ _ _ _ hc q => mul_int q (by
  unfold IntMulOk
  intro z
  rw [Bool.and_eq_true] at z
  have z2 := z.2
  unfold Builtin.Int.intTooBig at z2
  have z3 := of_decide_eq_true z2
  have e : bitsLine = 134217728 := by decide
  have hc' : Builtin.Int.intBits i + Builtin.Int.intBits j ≤ 100000000 := hc
  rw [e] at z3
  omega)
theorem op_powX : OpR X (binaryOp .Pow) (rI CPowX fun i j => .int (i ^ j.toNat)) := opI fun i j _ _ _ _ _ hc q => pow_int hc.1 (by
  exact Int.le_trans hc.2 (by decide)) q
end

theorem bits_le {x : Int} {n : Nat} (h : x.natAbs < 2 ^ n) : Builtin.Int.intBits x ≤ n := by
  unfold Builtin.Int.intBits
  split
  · exact Nat.zero_le _
  · rename_i hx
    have x0 : x.natAbs ≠ 0 := fun z => hx (by rw [Int.natAbs_eq_zero.mp z]; rfl)
    have := (Nat.log2_lt x0).mpr h
    omega
theorem bits_in {x : Int} {n : Nat} (h0 : 0 ≤ x) (h : x < 2 ^ n) : Builtin.Int.intBits x ≤ n := by
  apply bits_le
  have e : (x.natAbs : Int) = x := Int.natAbs_of_nonneg h0
  have e2 : ((2 ^ n : Nat) : Int) = 2 ^ n := by simp
  omega
theorem pow_ok {x j : Int} {n : Nat} (h0 : 0 ≤ x) (h : x < 2 ^ n) (hj : 0 ≤ j) (hn : (n : Int) * j ≤ 100000000) : (Builtin.Int.intBits x : Int) * j ≤ 100000000 :=
  Int.le_trans (Int.mul_le_mul_of_nonneg_right (by have := bits_in h0 h; omega) hj) hn

/-! ### where draws come from: three numbers in a list -/
/-- at a the sack, behind at most n draws -/
def Sk (n : Nat) (H : Hp) (a : Addr) : Prop := ∃ p q r : Int, H a = some (.lst [.int p, .int q, .int r]) ∧ 0 ≤ q ∧ q < 2 ^ 90 ∧ 0 ≤ r ∧ r ≤ n
/-- all but what stands at a is as it was -/
def Kp (a : Addr) (H H' : Hp) : Prop := ∀ b o, b ≠ a → H b = some o → H' b = some o
theorem Kp.refl (a : Addr) (H : Hp) : Kp a H H := fun _ _ _ h => h
theorem Kp.trans {a : Addr} {H H1 H2 : Hp} (x : Kp a H H1) (y : Kp a H1 H2) : Kp a H H2 := fun b o n h => y b o n (x b o n h)
theorem Sk.mono {n m : Nat} {H : Hp} {a : Addr} (h : Sk n H a) (l : n ≤ m) : Sk m H a := by
  obtain ⟨p, q, r, e, h1, h2, h3, h4⟩ := h
  exact ⟨p, q, r, e, h1, h2, h3, by omega⟩
def spCoin : Sp := fun vs H Q _ => ∃ (a : Addr) (n : Nat) (m : Int), vs = [.ref a, .int m] ∧ Sk n H a ∧ n ≤ 1000000000 ∧ 0 < m ∧ m < 2 ^ 200 ∧
  ∀ z H', 0 ≤ z → z < m → Sk (n + 1) H' a → Kp a H H' → Q (.int z) H'
/-- a def that can be called: its promise, how its arguments bind -/
structure Cal (P : Program) (w : World) (K : PySem.W.Frag) (mg : Str → Option Value) (base : Heap) (k : Nat) (f : Addr) (fd : FuncData) (ps : List Str) (sp : Sp) : Prop where
  ok : FnOk P w K mg base CX0 k f fd ps sp
  binds : Binds K fd ps []
structure CalG (P : Program) (w : World) (K : PySem.W.Frag) (mg : Str → Option Value) (base : Heap) (k : Nat) (f : Addr) (fd : FuncData) (ps : List Str) (sp : Sp) : Prop where
  go : Gd P w K mg base k f fd ps sp
  binds : Binds K fd ps []
end Sf

namespace Sf
open PySem PySem.Spec PySem.Calls L2 PySem.HandSPX
/-! ### an own error class called with a keyword -/
section
variable {prog : Program} {w : World} {A : Around} {E : Value → Shared → Prop} {R : Result → Shared → Prop} {h : Heap} {g : Array GenState} {d : Drawn} {t : Nat} {os : OsState}
variable {nm q : Str} {C N : Addr} {bs bm bmB : List Value} {hdct : Bool} {sn : List Str} {sub : List Value} {ab : Bool} {col : Option Bool} {dd : Option Addr} {k0 k1 k2 k3 k5 : Option Value} {B newId initId : String}
theorem newK (F : ExcBaseFacts B newId initId bmB) (hT : ∀ Y : String, bm.contains (.type Y) = bmB.contains (.type Y)) {kw : List (Str × Value)}
    (hC : h.get? C = some (excClassObj nm q C N bs bm hdct sn sub ab col dd k0 k1 k2 k3 k5 newId))
    (hq : R (.ok (.ret (.ref (h.objs.size + 1)))) ⟨(h.push (W.kdv_tup [])).push (excO C h.objs.size), g, d, t, os⟩) :
    codeAny (model prog w) A (.builtin newId ⟨[.ref C], kw⟩) R ⟨h, g, d, t, os⟩ := by
  have ends := F.ends
  have isB : (Value.ref C :: bm).contains (.type B) = true := by rw [List.contains_cons, hT, F.hasB, Bool.or_true]
  have noA : (Value.ref C :: bm).contains (.type "AttributeError") = false := by rw [List.contains_cons, hT, F.noAttr]; rfl
  have noN : (Value.ref C :: bm).contains (.type "NameError") = false := by rw [List.contains_cons, hT, F.noName]; rfl
  apply codeAny_builtinAt F.entry
  unfold Builtin.«BaseException.__new__»
  apply wpAt_bind
  show wpAt _ _ _ (stack >>= _) _ _ _
  refine wpAt_bind (wpAt_stack fun _ _ => wpAt_of_wpAny ?_)
  wp_walk
  apply wpAt_of_wpAny
  rw [F.owner]
  repeat (first | with_reducible refine wpAny_madeHere_exc F.canon hC ?_ | with_reducible refine wpAny_loadPart_at hC ?_ | (with_reducible refine wpAny_isSubtype_exc hC ?_; (first | rw [isB] | rw [noA] | rw [noN])) | wp_step)
  show R _ _
  rw [Heap.size_push]
  exact hq
theorem checkK (F : ExcBaseFacts B newId initId bmB) (hT : ∀ Y : String, bm.contains (.type Y) = bmB.contains (.type Y)) {kw : List (Str × Value)} {M : Model} {Q : Unit → Shared → Prop}
    (hC : h.get? C = some (excClassObj nm q C N bs bm hdct sn sub ab col dd k0 k1 k2 k3 k5 newId)) (hq : Q () ⟨h, g, d, t, os⟩) : wpAny M A (checkBuiltinCall newId ⟨[.ref C], kw⟩) Q E ⟨h, g, d, t, os⟩ := by
  have isB : (Value.ref C :: bm).contains (.type B) = true := by rw [List.contains_cons, hT, F.hasB, Bool.or_true]
  have star := F.noStar
  simp only [checkBuiltinCall, F.newKind, F.newSplit, F.newRow]
  repeat (first | refine wpAny_loadPart_at hC ?_ | (refine wpAny_isSubtype_exc hC ?_; rw [isB]) | refine wpAny_staticBase_exc hC ?_ | refine wpAny_madeBy_exc hC ?_ | (simp only [bne_self_eq_false, Bool.false_eq_true, if_false]) | wp_step)
  exact hq
theorem checkTK {M : Model} {kw : List (Str × Value)} {Q : Unit → Shared → Prop} (hC : h.get? C = some (excClassObj nm q C N bs bm hdct sn sub ab col dd k0 k1 k2 k3 k5 newId))
    (hq : Q () ⟨h, g, d, t, os⟩) : wpAny M A (checkBuiltinCall "type.__call__" ⟨[.ref C], kw⟩) Q E ⟨h, g, d, t, os⟩ := by
  have ts := tc_sub
  have ty : (⟨h, g, d, t, os⟩ : Shared).TypeIs (.ref C) "type" := ⟨_, hC, rfl⟩
  simp only [checkBuiltinCall, tc_kind, tc_split]
  repeat (any_goals (first | assumption | with_reducible refine wpAny_loadPart_at hC ?_ | with_reducible refine wpAny_onRaise ?_ | with_reducible refine wpAny_map ?_ | wp_step))
theorem typeK (F : ExcBaseFacts B newId initId bmB) (hT : ∀ Y : String, bm.contains (.type Y) = bmB.contains (.type Y)) {kw : List (Str × Value)} {fI : Addr} {Q : Fin → Shared → Prop}
    (hC : h.get? C = some (excClassObj nm q C N bs bm hdct sn sub ab col dd k0 k1 k2 k3 k5 newId))
    (hi : W.Looks (model prog w) h (typeLookup (.ref C) "__init__") (some (.ref fI))) (hb : ∀ self, W.Looks (model prog w) h (bindSpecial (.ref fI) self) (.ref fI, [self]))
    (hq : codeAny (model prog w) A (.call (.ref fI) ⟨[.ref (h.objs.size + 1)], kw⟩)
      (fun r s' => match r with | .ok (.ret v) => v = .none ∧ Q (.done (.ret (.ref (h.objs.size + 1)))) s' | .ok _ => False | .error e => E e s')
      ⟨(h.push (W.kdv_tup [])).push (excO C h.objs.size), g, d, t, os⟩) :
    wpAny (model prog w) A (Builtin.«type.__call__» ⟨[.ref C], kw⟩) Q E ⟨h, g, d, t, os⟩ := by
  repeat (first | with_reducible refine wpAny_loadPart_at hC ?_ | with_reducible refine wpAny_madeBy_exc hC ?_ | wp_step)
  apply codeAny_call_builtin_code (Code.quiet_builtin _ F.quiet) (checkK F hT hC ?_)
  apply newK F hT hC
  show wpAny _ _ _ _ _ _
  have old : ∀ b o, h.get? b = some o → ((h.push (W.kdv_tup [])).push (excO C h.objs.size)).get? b = some o := fun b o e => Heap.get?_push_of_some _ (Heap.get?_push_of_some _ e)
  have hC2 := old _ _ hC
  have here : ((h.push (W.kdv_tup [])).push (excO C h.objs.size)).get? (h.objs.size + 1) = some (excO C h.objs.size) := by heap_get
  have self : (Value.ref C :: bm).contains (.ref C) = true := by simp
  have look := hi.keeps old
  have bind := (hb (.ref (h.objs.size + 1))).keeps old
  unfold isInstance
  repeat (first | with_reducible refine wpAny_loadPart_at here ?_ | (with_reducible refine wpAny_isSubtype_exc hC2 ?_; rw [self]) | wp_step)
  show wpAny _ _ (typeLookup (.ref C) _) _ _ _
  apply look.at
  apply wpAny_holding (wpAny_bind (bind.at ?_))
  apply wpAny_bind (wpAny_call (codeAny_mono hq ?_))
  intro r s' z
  cases r with
  | error e => exact z
  | ok fl =>
    cases fl with
    | ret v =>
      obtain ⟨rfl, z⟩ := z
      first | exact wpAny_pure (wpAny_pure z) | (wp_walk; exact z)
    | next => exact z.elim
    | brk => exact z.elim
    | cont => exact z.elim
theorem callK (F : ExcBaseFacts B newId initId bmB) (hT : ∀ Y : String, bm.contains (.type Y) = bmB.contains (.type Y)) {kw : List (Str × Value)} {fI : Addr}
    (hC : h.get? C = some (excClassObj nm q C N bs bm hdct sn sub ab col dd k0 k1 k2 k3 k5 newId))
    (hi : W.Looks (model prog w) h (typeLookup (.ref C) "__init__") (some (.ref fI))) (hb : ∀ self, W.Looks (model prog w) h (bindSpecial (.ref fI) self) (.ref fI, [self]))
    (hq : codeAny (model prog w) (A.under (.builtin "type.__call__" ⟨[.ref C], kw⟩)) (.call (.ref fI) ⟨[.ref (h.objs.size + 1)], kw⟩) (W.InitBack (h.objs.size + 1) R)
      ⟨(h.push (W.kdv_tup [])).push (excO C h.objs.size), g, d, t, os⟩) : codeAny (model prog w) A (.call (.ref C) ⟨[], kw⟩) R ⟨h, g, d, t, os⟩ := by
  have lk := tc_lookup
  have bd := tc_bind (.ref C)
  have ty : (⟨h, g, d, t, os⟩ : Shared).TypeIs (.ref C) "type" := ⟨_, hC, rfl⟩
  apply codeAny_of_tree
  show wpAny _ _ (callAny (.ref C) _) _ _ _
  repeat (any_goals (first | assumption | with_reducible refine wpAny_loadPart_at hC ?_ | wp_step))
  refine ⟨rfl, ?_⟩
  apply codeAny_call_builtin_at (Code.quiet_builtin _ (by decide +kernel)) entry_typeCall (checkTK hC (typeK F hT hC hi hb ?_))
  apply codeAny_mono hq
  intro r s' z
  cases r with
  | error e => exact z
  | ok fl => cases fl <;> exact z
end
end Sf
namespace Sf
open PySem PySem.Spec PyProof.Rows L2
/-! ### the readings over it -/
/-- C(k = v, ..), C's __init__ keeping sp -/
def tMkK (C : Addr) (sp : Sp) (gV : List V → List V → List V) (n : Nat) (tk : TA) : L2.St → Hp → XK → Prop := fun σ H Q => tk σ H fun zs H1 => zs.length = n ∧ ∀ a, H1 a = none →
  sp (gV [.ref a] zs) (upd H1 a (exo a C none)) (fun v H2 => v = .non ∧ ∃ (d : Addr) (fs : List (Str × V)), H2 a = some (exo a C (some d)) ∧ H2 d = some (exd d fs) ∧ H1 d = none ∧
    Q (.ref C) (some d) (upd (del H2 a) d (.xd fs))) E0
section
variable {X : Cx} {x : Str} {C fI : Addr} {k : Nat} {fd : FuncData} {ps ks : List Str} {sp : Sp} {g : List Value → List Value → List Value} {gV : List V → List V → List V} {kws : List Keyword} {tk : TA} {p pos : Pos}
theorem pmk_kw (T : OexC X.K C) (iC : PySem.W.findIn X.K (.ref C) "__init__" = some (some (.ref fI))) (tI : PySem.W.typeIn X.K (.ref fI) = some (.type "function"))
    (F1 : FnOk X.prog X.w X.K X.mg X.base CX0 k fI fd ps sp) (hr : Room (k + 1) X.A) (hb : KBn X.K fd ps 1 ks g gV) (hg : Gl X x) (hm : X.mg x = some (.ref C)) (hkw : PK X kws tk)
    (hall : (backToKw pos (keywordEach kws X.env)).all (·.1.isSome) = true := by rfl) (hks : (backToKw pos (keywordEach kws X.env)).filterMap (·.1) = ks := by rfl) (hdb : (x == ("__debug__" : Str)) = false := by decide)
    (hpl : ((backTo pos (starEach [] X.env)).any (·.1) || (backToKw pos (keywordEach kws X.env)).any (·.1.isNone)) = false := by rfl) :
    PMk X (.Call (.Name x p) [] kws pos) (tMkK C sp gV ks.length tk) := by
  intro pins s σ H Q I h
  obtain ⟨nm, q, N, bs, bm, sn, sub, ab, col, dd, k0, k1, k2, k3, k5, hC, hbm⟩ := T.cls
  apply wpAny_Call_Name_kw (ld_glob I hg hm ?_ hdb)
  apply PySem.W.callWith_KW0 (h₀ := X.base) I.ok.mod.kin T.kC hall ?_ hpl
  apply thn (hkw.run pos pins s σ H _ I h)
  rintro ws s1 ⟨zs, H1, I1, rz, len, q1⟩
  refine ⟨I1.kIn, ?_⟩
  rw [hks]
  show wpAny _ _ (call (.ref C) [] (ks.zip ws)) _ _ _
  obtain ⟨hp, g0, dr, t0, os⟩ := s1
  have free : H1 (hp.objs.size + 1) = none := I1.hok.fresh (Nat.le_succ _)
  have want := q1 (hp.objs.size + 1) free
  have old : ∀ b o, hp.get? b = some o → ((hp.push (PySem.W.kdv_tup [])).push (PySem.HandSPX.excO C hp.objs.size)).get? b = some o := fun b o e => Heap.get?_push_of_some _ (Heap.get?_push_of_some _ e)
  have here : ((hp.push (PySem.W.kdv_tup [])).push (PySem.HandSPX.excO C hp.objs.size)).get? (hp.objs.size + 1) = some (PySem.HandSPX.excO C hp.objs.size) := by heap_get
  have I2 := I1.laid (t' := t0) (a := hp.objs.size + 1) (o := exo (hp.objs.size + 1) C none) old (Nat.le_succ _) (exo_ok here)
  have n2 : ws.length = ks.length := by rw [← rz.length]; exact len
  have r2 := hb.rel (Paired.cons (F := RelV) (show RelV (V.ref (hp.objs.size + 1)) (Value.ref (hp.objs.size + 1)) from rfl) .nil) rz
  apply wpAny_call
  apply callK F.excBase_ValueError (fun Y => PySem.HandSPX.refsVE_contains Y bm hbm) (I1.kIn _ _ hC) (PySem.W.looks_findIn I1.kIn iC) (fun self => PySem.W.bind_fn I1.kIn self tI)
  apply codeAny_mono (F1.run _ X.stack _ _ ⟨[Value.ref (hp.objs.size + 1)], ks.zip ws⟩ _ _ _ E0 (hr.make C [] (ks.zip ws)) (I2.env0.make C [] (ks.zip ws)) (hb.to _ [Value.ref (hp.objs.size + 1)] ws I2.kIn rfl n2) r2 want)
  intro r s' hq
  cases r with
  | error er => exact False.elim hq
  | ok fl =>
    cases fl with
    | ret u =>
      obtain ⟨v, H2, os2, bare2, un2, hok2, rv, ev, d, fs, ea, ed, hd1, q2⟩ := hq
      subst ev
      obtain ⟨h2, g2, d2, t2, os'⟩ := s'
      exact ⟨rv, mk_end (raises_own T.exC T.tyC) I1 (Nat.le_succ _) old un2 hok2 os2 bare2 ea ed hd1 q2⟩
    | next => exact hq.elim
    | brk => exact hq.elim
    | cont => exact hq.elim
end
end Sf
namespace Sf
open PySem PySem.Spec PyProof.Rows L2
/-! ### a caught error: isinstance -/
/-- what a class of errors must say, so that isinstance asks its instances rightly -/
structure IsiC (K : PySem.W.Frag) (C : Addr) : Prop where
  cl : (PySem.W.clsIn K C).isSome = true
  ga : PySem.W.findIn K (.ref C) "__getattribute__" = some (some (.builtin "BaseException.__getattribute__"))
  gg : PySem.W.findIn K (.ref C) "__getattr__" = some none
  sub : PySem.W.subIn K (.ref C) (.type "BaseException") = some true
  kl : PySem.W.findIn K (.ref C) "__class__" = some (some (.builtin "object.__class__"))
  sp : PySem.W.specialIn K (.builtin "object.__class__") "__get__" = some (some (.builtin "getset_descriptor.__get__"))
  tk : PySem.W.takesIn K (.builtin "object.__class__") = some true
  ob : PySem.W.mroIn K C (.type "object") = some true
/-- isinstance(e, c), e the error that the suite holds: at a, its class cls, its own dict d -/
def rIsX (K : PySem.W.Frag) (a : Addr) (cls : Value) (d : Option Addr) : List V → Hp → VK → Prop := fun xs H Q => ∃ (C dd : Addr) (fs : List (Str × V)) (c : V) (cv : Value) (b : Bool),
  cls = .ref C ∧ d = some dd ∧ xs = [.ref a, c] ∧ H dd = some (.xd fs) ∧ IsiC K C ∧ (∀ u, RelV c u → u = cv) ∧ PySem.W.kitOne K (.ref C) cv = some b ∧ Q (.bl b) H
theorem call_isX {X : Cx} {a : Addr} {cls : Value} {d : Option Addr} {oe : Obj} {pn : List (Addr × Obj)} (hz : Zc cls d oe) (hf : ∃ vs, oe.data = .fields vs) : CallR (X.suite a ((a, oe) :: pn)) (.builtin "isinstance") (rIsX X.K a cls d) := by
  intro pins s σ H xs us Q I r h
  obtain ⟨C, dd, fs, c, cv, b, ec, ed, rfl, hdd, T, hcv, ek, q⟩ := h
  subst ec
  subst ed
  cases r with
  | cons rx r1 =>
    cases r1 with
    | cons rc r2 =>
      cases r2
      have e1 : _ = Value.ref a := rx
      subst e1
      have e2 := hcv _ rc
      subst e2
      obtain ⟨ha, _⟩ := I.pin (a, oe) (List.mem_append_left _ List.mem_cons_self)
      obtain ⟨vs, hv⟩ := hf
      have ob : ObjOk X.prog X.w H s.heap dd (.xd fs) := I.hok dd _ hdd
      obtain ⟨mA, hns, _⟩ := ob
      obtain ⟨od, ho, _⟩ := lookIn_ns hns
      have J : PySem.W.InstAt s.heap a oe C (some od) := ⟨ha, hz.1, by unfold PySem.W.notCls; rw [hv] <;> rfl, by rw [hz.2]; exact ho⟩
      exact PySem.W.kia_one (PySem.W.kitx_exc T.cl T.ga T.gg T.sub T.kl T.sp T.tk T.ob) I.kIn J ek (fun z => nomatch z) fun t => ⟨.bl b, H, I.kept (t' := t) fun _ _ z => z, rfl, q⟩
/-- a class of errors over FilmError, whose __init__ stands at fI -/
structure ErrC (K : PySem.W.Frag) (C fI : Addr) : Prop where
  oe : OexC K C
  iC : PySem.W.findIn K (.ref C) "__init__" = some (some (.ref fI))
  tI : PySem.W.typeIn K (.ref fI) = some (.type "function")
  no : PySem.W.findIn K (.ref C) "value" = some none
  xf : XfC K C
  isi : IsiC K C
/-- FilmError.__init__(self, value) -/
def spErrInit (K : PySem.W.Frag) : Sp := fun vs H Q _ => ∃ (a C : Addr) (v : V), vs = [.ref a, v] ∧ H a = some (exo a C none) ∧ OexC K C ∧ PySem.W.findIn K (.ref C) "value" = some none ∧
  ∀ dx, H dx = none → dx ≠ a → Q .non (upd (upd H dx (exd dx [(("value" : Str), v)])) a (exo a C (some dx)))
/-- behind the making of an error: its own dict alone is new -/
theorem made_err {H : Hp} {a d : Addr} {o u : HO} {fs : List (Str × V)} (ha : H a = none) (nd : d ≠ a) : upd (del (upd (upd (upd H a o) d (exd d fs)) a u) a) d (.xd fs) = upd H d (.xd fs) := by
  funext b
  by_cases h1 : b = d
  · subst h1
    rw [upd_same, upd_same]
  · rw [upd_ne h1, upd_ne h1]
    by_cases h2 : b = a
    · subst h2
      rw [del_same, ha]
    · rw [del_ne h2, upd_ne h2, upd_ne h1, upd_ne h2]
/-- an error raised: its own dict alone is new -/
theorem err_made {K : PySem.W.Frag} {C fI : Addr} (T : ErrC K C fI) {v : V} {H : Hp} {Q : XK} (k : ∀ d, H d = none → Q (.ref C) (some d) (upd H d (.xd [(("value" : Str), v)]))) : ∀ a, H a = none →
    spErrInit K [.ref a, v] (upd H a (exo a C none)) (fun u H2 => u = .non ∧ ∃ (d : Addr) (fs : List (Str × V)), H2 a = some (exo a C (some d)) ∧ H2 d = some (exd d fs) ∧ H d = none ∧
      Q (.ref C) (some d) (upd (del H2 a) d (.xd fs))) E0 := by
  intro a ha
  refine ⟨a, C, v, rfl, upd_same, T.oe, T.no, fun dx hdx ne => ⟨rfl, dx, [(("value" : Str), v)], upd_same, ?_, ?_, ?_⟩⟩
  · rw [upd_ne ne, upd_same]
  · rw [upd_ne ne] at hdx
    exact hdx
  · rw [made_err ha ne]
    rw [upd_ne ne] at hdx
    exact k dx hdx
/-- e.value in an except suite -/
def tErrV (K : PySem.W.Frag) (a : Addr) (cls : Value) (d : Option Addr) (te : TE) : TE := fun σ H Q => te σ H fun x H1 => x = .ref a ∧ ∃ (C fI dd : Addr) (v : V), cls = .ref C ∧ d = some dd ∧ ErrC K C fI ∧ H1 dd = some (.xd [(("value" : Str), v)]) ∧ Q v H1
theorem pe_errv {X : Cx} {a : Addr} {oe : Obj} {cls : Value} {d : Option Addr} {pn : List (Addr × Obj)} {e : Expr} {te : TE} {pos : Pos} (hz : Zc cls d oe) (hf : ∃ vs, oe.data = .fields vs) (he : PE (X.suite a ((a, oe) :: pn)) e te)
    (hb : attributeBase e "value" X.env (eval e X.env) = eval e X.env := by rfl) : PE (X.suite a ((a, oe) :: pn)) (.Attribute e "value" pos) (tErrV X.K a cls d te) := by
  constructor
  intro pins s σ H Q I h
  apply attr_of hb
  apply thn (he.run pins s σ H _ I h)
  rintro u s1 ⟨x, H1, I1, rx, ex, C, fI, dd, v, ec, ed, T, hdd, q⟩
  subst ex ec ed
  have eu : u = Value.ref a := rx
  subst eu
  obtain ⟨ha, _⟩ := I1.pin (a, oe) (List.mem_append_left _ List.mem_cons_self)
  obtain ⟨vs, hd⟩ := hf
  have ob : ObjOk X.prog X.w H1 s1.heap dd (.xd [(("value" : Str), v)]) := I1.hok dd _ hdd
  obtain ⟨mA, hns, hr⟩ := ob
  obtain ⟨od, ho, hl⟩ := lookIn_ns hns
  have l : List.lookup ("value" : Str) [(("value" : Str), v)] = some v := by simp [List.lookup]
  obtain ⟨u, hu, ru⟩ := RelO.some_of (v := v) (o := mA "value") (by rw [← l]; exact hr "value")
  have J : PySem.W.InstAt s1.heap a oe C (some od) := ⟨ha, hz.1, by unfold PySem.W.notCls; rw [hd] <;> rfl, by rw [hz.2]; exact ho⟩
  exact HandSPX.exc_get I1.kIn J T.xf.ga T.xf.gg T.xf.exC (PySem.W.findObj_own T.xf.hdC T.no rfl (by rw [hl, hu])) (handed_of ru) ⟨v, H1, I1.tok _, ru, q⟩
structure CalX (P : Program) (w : World) (K : PySem.W.Frag) (mg : Str → Option Value) (base : Heap) (k : Nat) (f : Addr) (fd : FuncData) (ps : List Str) (sp : Sp) : Prop where
  ok : FnOk P w K mg base (L2.CX P w) k f fd ps sp
  binds : Binds K fd ps []
theorem upd_old {H : Hp} {d p : Addr} {o u : HO} (h : H d = some o) (n : H p = none) : upd H p u d = some o := (upd_ne (ne_of_none h n)).trans h
theorem free_old {H : Hp} {d p : Addr} {u : HO} (h : upd H p u d = none) : H d = none ∧ d ≠ p := by
  by_cases z : d = p
  · rw [z, upd_same] at h
    cases h
  · rw [upd_ne z] at h
    exact ⟨h, z⟩
theorem same_new {S H : Hp} {p : Addr} {u : HO} (s : Same S H) (n : H p = none) : Same S (upd H p u) := fun b o h => upd_old (s b o h) n
theorem kit_sub {K : PySem.W.Frag} {t : Value} {D : Addr} {b : Bool} (c : PySem.W.isClsIn K D = true) (ty : PySem.W.typeIn K (.ref D) = some (.type "type")) (s : PySem.W.subIn K t (.ref D) = some b) : PySem.W.kitCls K t (.ref D) = some b := by
  have c' : (PySem.W.clsIn K D).isSome = true := c
  have e : ((PySem.W.clsIn K D).isSome && PySem.W.typeIn K (.ref D) == some (.type "type")) = true := by rw [c', ty]; rfl
  show (if ((PySem.W.clsIn K D).isSome && PySem.W.typeIn K (.ref D) == some (.type "type")) = true then PySem.W.subIn K t (.ref D) else none) = some b
  rw [if_pos e]
  exact s
theorem kit_one {K : PySem.W.Frag} {C D : Addr} {b : Bool} (c : PySem.W.isClsIn K D = true) (ty : PySem.W.typeIn K (.ref D) = some (.type "type")) (s : PySem.W.subIn K (.ref C) (.ref D) = some b) (r : C = D → b = true) : PySem.W.kitOne K (.ref C) (.ref D) = some b := by
  unfold PySem.W.kitOne
  split
  · rename_i z
    rw [r (Value.ref.inj (beq_iff_eq.mp z))]
  · exact kit_sub c ty s
theorem kit_exm {K : PySem.W.Frag} {C D : Addr} {b : Bool} (e : PySem.W.subIn K (.ref D) (.type "BaseException") = some true) (c : PySem.W.isClsIn K D = true) (ty : PySem.W.typeIn K (.ref D) = some (.type "type")) (s : PySem.W.subIn K (.ref C) (.ref D) = some b) :
    PySem.W.exmOne K (.ref C) (.ref D) = some b := by
  unfold PySem.W.exmOne
  rw [e, if_pos (by decide)]
  exact kit_sub c ty s
theorem kit_ve {K : PySem.W.Frag} {C : Addr} (s : PySem.W.subIn K (.ref C) (.type "ValueError") = some true) : PySem.W.kitOne K (.ref C) (.type "ValueError") = some true := by
  have e : PySem.W.kitOne K (.ref C) (.type "ValueError") = PySem.W.subIn K (.ref C) (.type "ValueError") := rfl
  rw [e, s]
end Sf

namespace Sf
open PySem PySem.Spec PyProof.Rows L2
/-! ### data: what stays, sizes of what is shown -/
theorem sameL {K : PySem.W.Frag} {S H : Hp} (s : Same S H) {a : Addr} {xs : List V} (h : SqL K S a xs) : SqL K H a xs := s.seq h
theorem sameT {K : PySem.W.Frag} {S H : Hp} (s : Same S H) {a : Addr} {xs : List V} (h : SqT K S a xs) : SqT K H a xs := by
  rcases h with (h | ⟨o, h⟩) | h
  · exact .inl (.inl (s _ _ h))
  · exact .inl (.inr ⟨o, s _ _ h⟩)
  · exact .inr h
mutual
theorem Dp.mono {K : PySem.W.Frag} {S H : Hp} (s : Same S H) : ∀ (d : PyData) (v : V), Dp K S v d → Dp K H v d
  | .none, _, h => by cases h; exact .non
  | .bool _, _, h => by cases h; exact .bl _
  | .int _, _, h => by cases h; exact .int _
  | .str _, _, h => by cases h; exact .str _
  | .list ds, _, h => by cases h with | lst e a => exact .lst (sameL s e) (DpAll.mono s ds _ a)
  | .tuple ds, _, h => by cases h with | tup e a => exact .tup (sameT s e) (DpAll.mono s ds _ a)
  | .dict _, _, h => by cases h
theorem DpAll.mono {K : PySem.W.Frag} {S H : Hp} (s : Same S H) : ∀ (ds : List PyData) (vs : List V), DpAll K S vs ds → DpAll K H vs ds
  | [], _, h => by cases h; exact .nil
  | d :: ds, _, h => by cases h with | cons a b => exact .cons (Dp.mono s d _ a) (DpAll.mono s ds _ b)
end
theorem DpAll.append {K : PySem.W.Frag} {H : Hp} : ∀ {vs ws : List V} {ds es : List PyData}, DpAll K H vs ds → DpAll K H ws es → DpAll K H (vs ++ ws) (ds ++ es)
  | _, _, _, _, .nil, h => h
  | _, _, _, _, .cons a b, h => .cons a (DpAll.append b h)
theorem DpAll.len {K : PySem.W.Frag} {H : Hp} : ∀ {vs : List V} {ds : List PyData}, DpAll K H vs ds → vs.length = ds.length
  | _, _, .nil => rfl
  | _, _, .cons _ b => by rw [List.length_cons, List.length_cons, DpAll.len b]
theorem DpAll.bools {K : PySem.W.Frag} {H : Hp} : ∀ (bs : List Bool), DpAll K H (bs.map V.bl) (bs.map PyData.bool)
  | [] => .nil
  | b :: bs => .cons (.bl b) (DpAll.bools bs)
theorem DpAll.ints {K : PySem.W.Frag} {H : Hp} : ∀ (bs : List Int), DpAll K H (bs.map V.int) (bs.map PyData.int)
  | [] => .nil
  | b :: bs => .cons (.int b) (DpAll.ints bs)
theorem DpAll.strs {K : PySem.W.Frag} {H : Hp} : ∀ (bs : List Str), DpAll K H (bs.map V.str) (bs.map PyData.str)
  | [] => .nil
  | b :: bs => .cons (.str b) (DpAll.strs bs)

theorem listText_le : ∀ ts : List Str, (listText ts).length ≤ piled ts + 2
  | [] => by rw [listText_nil]; exact (by decide)
  | t :: r => by
    have h := textFrom_length_pos r 1 (("[" : Str) ++ (if (0 : Nat) > 0 then ", " else "" : String) ++ t) (Nat.succ_pos 0)
    have e1 : (listText (t :: r)).length = (textFrom 1 (("[" : Str) ++ (if (0 : Nat) > 0 then ", " else "" : String) ++ t) r).length + 1 := by
      show (textFrom 0 "[" (t :: r) ++ "]" : Str).length = _
      rw [Str.length_append]
      rfl
    have e2 : (("[" : Str) ++ (if (0 : Nat) > 0 then ", " else "" : String) ++ t : Str).length = 1 + t.length := by
      rw [Str.length_append, Str.length_append]
      rfl
    rw [e1, h, e2, piled_cons]
    omega
theorem tupleText_le (ts : List Str) : (tupleText ts).length ≤ piled ts + 4 := by
  unfold tupleText
  rw [Str.length_append, Str.length_append]
  have e1 : (("(" : String) : Str).length = 1 := rfl
  have e2 : ((if ts.length == 1 then ",)" else ")" : String) : Str).length ≤ 2 := by split <;> decide
  have e3 : (Str.join ", " ts).length ≤ piled ts := by
    cases ts with
    | nil => exact Nat.zero_le _
    | cons t r => have := join_length_add (t :: r) (by simp); omega
  omega
/-- may be shown: nested at most k deep, at most n signs -/
structure Sz (k n : Nat) (d : PyData) : Prop where
  sh : d.showable = true
  dp : d.depth ≤ k
  ln : d.shown.length ≤ n
structure SzAll (k n : Nat) (ds : List PyData) : Prop where
  sh : PyData.showableAll ds = true
  dp : PyData.depthAll ds ≤ k
  ln : piled (PyData.shownAll ds) ≤ n
theorem SzAll.nil {k : Nat} : SzAll k 0 [] := ⟨rfl, Nat.zero_le _, Nat.le_refl _⟩
theorem SzAll.cons {k n m : Nat} {d : PyData} {ds : List PyData} (a : Sz k n d) (b : SzAll k m ds) : SzAll k (n + 2 + m) (d :: ds) := by
  refine ⟨?_, ?_, ?_⟩
  · show (PyData.showable d && PyData.showableAll ds) = true
    rw [a.sh, b.sh]; rfl
  · show max (PyData.depth d) (PyData.depthAll ds) ≤ k
    have := a.dp; have := b.dp; omega
  · show piled (PyData.shown d :: PyData.shownAll ds) ≤ _
    rw [piled_cons]
    have := a.ln; have := b.ln; omega
theorem SzAll.of {k n : Nat} : ∀ {ds : List PyData}, (∀ d ∈ ds, Sz k n d) → SzAll k (ds.length * (n + 2)) ds
  | [], _ => by rw [List.length_nil, Nat.zero_mul]; exact SzAll.nil
  | d :: ds, h => by
    have a := SzAll.cons (h d List.mem_cons_self) (SzAll.of fun x hx => h x (List.mem_cons_of_mem _ hx))
    rw [List.length_cons, Nat.succ_mul, Nat.add_comm]
    exact a
theorem SzAll.append {k n m : Nat} : ∀ {ds es : List PyData}, SzAll k n ds → SzAll k m es → SzAll k (n + m) (ds ++ es)
  | [], es, a, b => ⟨b.sh, b.dp, Nat.le_trans b.ln (Nat.le_add_left _ _)⟩
  | d :: ds, es, a, b => by
    have a1 : PyData.showable d = true ∧ PyData.showableAll ds = true := by
      have := a.sh
      simp only [PyData.showableAll, Bool.and_eq_true] at this
      exact this
    have a2 : max (PyData.depth d) (PyData.depthAll ds) ≤ k := a.dp
    have a3 : piled (PyData.shown d :: PyData.shownAll ds) ≤ n := a.ln
    rw [piled_cons] at a3
    have r := SzAll.append (n := n - ((PyData.shown d).length + 2)) (ds := ds) ⟨a1.2, by omega, by omega⟩ b
    have c := SzAll.cons (d := d) (n := (PyData.shown d).length) ⟨a1.1, by omega, Nat.le_refl _⟩ r
    exact ⟨c.sh, c.dp, by have := c.ln; show piled (PyData.shownAll (d :: (ds ++ es))) ≤ _; omega⟩
theorem SzAll.mono {k k' n n' : Nat} {ds : List PyData} (a : SzAll k n ds) (h : k ≤ k') (h2 : n ≤ n') : SzAll k' n' ds := ⟨a.sh, Nat.le_trans a.dp h, Nat.le_trans a.ln h2⟩
theorem Sz.mono {k k' n n' : Nat} {d : PyData} (a : Sz k n d) (h : k ≤ k') (h2 : n ≤ n') : Sz k' n' d := ⟨a.sh, Nat.le_trans a.dp h, Nat.le_trans a.ln h2⟩
theorem Sz.list {k n : Nat} {ds : List PyData} (a : SzAll k n ds) : Sz (k + 1) (n + 2) (.list ds) := by
  refine ⟨?_, ?_, ?_⟩
  · simp only [PyData.showable]; exact a.sh
  · simp only [PyData.depth]; have := a.dp; omega
  · simp only [PyData.shown]; exact Nat.le_trans (listText_le _) (by have := a.ln; omega)
theorem Sz.tuple {k n : Nat} {ds : List PyData} (a : SzAll k n ds) : Sz (k + 1) (n + 4) (.tuple ds) := by
  refine ⟨?_, ?_, ?_⟩
  · simp only [PyData.showable]; exact a.sh
  · simp only [PyData.depth]; have := a.dp; omega
  · simp only [PyData.shown]; exact Nat.le_trans (tupleText_le _) (by have := a.ln; omega)
theorem Sz.non {k : Nat} : Sz k 4 .none := ⟨rfl, by simp only [PyData.depth]; omega, by simp only [PyData.shown]; decide⟩
theorem Sz.bool {k : Nat} (b : Bool) : Sz k 5 (.bool b) := ⟨rfl, by simp only [PyData.depth]; omega, by simp only [PyData.shown]; cases b <;> decide⟩
theorem Sz.int {k n : Nat} {i : Int} (h : i.natAbs < 2 ^ n) (hn : 0 < n) (h2 : n ≤ 1900) : Sz k (n + 2) (.int i) := by
  have lg := PySem.Flt.log2_lt_of hn h
  refine ⟨?_, by simp only [PyData.depth]; omega, ?_⟩
  · simp only [PyData.showable]; exact decide_eq_true (by omega)
  · simp only [PyData.shown]
    rw [PySem.ofString_length]
    exact Nat.le_succ_of_le (int_text_length_le hn lg)
theorem Sz.str {k n : Nat} {x : Str} (hx : ∀ c ∈ x.cps.toList, c < 16 ^ 8) (h : x.length ≤ n) : Sz k (10 * n + 2) (.str x) := by
  refine ⟨rfl, by simp only [PyData.depth]; omega, ?_⟩
  simp only [PyData.shown]
  exact Nat.le_trans (PySem.StrLaws.reprText_len x hx) (by omega)
theorem Sk.at {n : Nat} {H : Hp} {a : Addr} (h : Sk n H a) : ∃ o, H a = some o := let ⟨_, _, _, e, _⟩ := h; ⟨_, e⟩
theorem Sk.new {n : Nat} {H : Hp} {a p : Addr} {o : HO} (h : Sk n H a) (f : H p = none) : Sk n (upd H p o) a := let ⟨x, y, z, e, r⟩ := h; ⟨x, y, z, upd_old e f, r⟩
theorem Sk.ne {n : Nat} {H : Hp} {a p : Addr} (h : Sk n H a) (f : H p = none) : p ≠ a := let ⟨_, _, _, e, _⟩ := h; (ne_of_none e f).symm
theorem Kp.new {H H1 : Hp} {a p : Addr} {o : HO} (h : Kp a H H1) (f : H1 p = none) : Kp a H (upd H1 p o) := fun b u n e => upd_old (h b u n e) f
theorem Kp.free {H H1 : Hp} {a p : Addr} (h : Kp a H H1) (n : p ≠ a) (f : H1 p = none) : H p = none := by
  cases q : H p with
  | none => rfl
  | some o => rw [h p o n q] at f; cases f
/-! ### a heap of one object -/
def one (p : Addr) (o : HO) : Hp := fun b => if b = p then some o else none
theorem one_same {p : Addr} {o : HO} {H : Hp} (h : H p = some o) : Same (one p o) H := fun b u e => by
  unfold one at e
  by_cases z : b = p
  · rw [if_pos z] at e
    cases e
    rw [z]
    exact h
  · rw [if_neg z] at e
    cases e
theorem one_at {p : Addr} {o : HO} : one p o p = some o := if_pos rfl
theorem one_no {p q : Addr} {o : HO} (h : q ≠ p) : one p o q = none := if_neg h
def nil : Hp := fun _ => none
theorem nil_same {H : Hp} : Same nil H := fun _ _ e => by cases e
theorem lt16 {x : Str} (h : x.cps.toList.all (fun c => decide (c < 1000)) = true) : ∀ c ∈ x.cps.toList, c < 16 ^ 8 := fun c hc => Nat.lt_trans (of_decide_eq_true (List.all_eq_true.mp h c hc)) (by decide)
theorem same_kp {S H H' : Hp} {a : Addr} (s : Same S H) (k : Kp a H H') (n : S a = none) : Same S H' := fun b o h => k b o (ne_of_none h n) (s b o h)
theorem same_mut {S H : Hp} {p : Addr} {u : HO} (s : Same S H) (n : S p = none) : Same S (upd H p u) := fun b o h => by rw [upd_ne (ne_of_none h n)]; exact s b o h
theorem kp_same {a : Addr} {H H1 H2 : Hp} (k : Kp a H H1) (s : Same H1 H2) : Kp a H H2 := fun b o n h => s b o (k b o n h)
theorem kp_mut {a p : Addr} {H H1 : Hp} {u : HO} (k : Kp a H H1) (n : H p = none) : Kp a H (upd H1 p u) := fun b o m h => by rw [upd_ne (ne_of_none h n)]; exact k b o m h
theorem sk_same {n : Nat} {a : Addr} {H H1 : Hp} (k : Sk n H a) (s : Same H H1) : Sk n H1 a := let ⟨x, y, z, e, r⟩ := k; ⟨x, y, z, s _ _ e, r⟩
theorem sk_mut {n : Nat} {a p : Addr} {H : Hp} {u : HO} (k : Sk n H a) (ne : p ≠ a) : Sk n (upd H p u) a := let ⟨x, y, z, e, r⟩ := k; ⟨x, y, z, by rw [upd_ne ne.symm]; exact e, r⟩
theorem seq_kp {K : PySem.W.Frag} {H H' : Hp} {a p : Addr} {xs : List V} (h : SqL K H a xs) (n : H p = none) (k : Kp p H H') : SqL K H' a xs := by
  rcases h with (h | ⟨o, h⟩) | h
  · exact .inl (.inl (k _ _ (ne_of_none h n) h))
  · exact .inl (.inr ⟨o, k _ _ (ne_of_none h n) h⟩)
  · exact .inr h
theorem kw1 {K : PySem.W.Frag} {x qual : Str} {st : Stmt} {f : Addr} {fd : FuncData} {ps ks : List Str} {n : Nat} (F : Fun K x qual st f fd)
    (h : ∀ (kV doc pm : Value) (an : Option Addr) (cdv ct : Value) (us ws : List Value), us.length = n → ws.length = ks.length → bindArgs (PySem.W.fnOf x qual (defArgs st) (defBody st) (defScope st) .none kV doc pm an cdv ct) ⟨us, ks.zip ws⟩ = pure (ps.zip (us ++ ws))) :
    KBn K fd ps n ks (fun us ws => us ++ ws) (fun vs zs => vs ++ zs) := by
  obtain ⟨oc, od, kV, doc, pm, an, cdv, ct, osl, e, lk, hcd⟩ := F.ex
  subst e
  exact ⟨fun s us ws _ l1 l2 => .of_eq (h kV doc pm an cdv ct us ws l1 l2), fun a b => a.append b⟩
end Sf

namespace Sf
open PySem PySem.Spec PyProof.Rows L2
/-! ### texts as lists of signs -/
def tx (l : List Nat) : Str := ⟨l.toArray⟩
theorem ls_tx (l : List Nat) : (tx l).cps.toList = l := rfl
theorem len_ls (x : Str) : x.length = x.cps.toList.length := by show x.cps.size = _; simp
theorem ext_ls {a b : Str} (h : a.cps.toList = b.cps.toList) : a = b := PySem.Str.ext' (by
  have := congrArg List.toArray h
  simpa using this)
theorem ls_append (a b : Str) : (a ++ b).cps.toList = a.cps.toList ++ b.cps.toList := by rw [Str.cps_append]; simp
def abcS : Str := "abcdefghijklmnopqrstuvwxyz"
/-- letters alone -/
def plain (x : Str) : Bool := x.cps.toList.all fun c => decide (c ∈ abcS.cps.toList)
theorem plain_iff {x : Str} : plain x = true ↔ ∀ c ∈ x.cps.toList, c ∈ abcS.cps.toList := by
  unfold plain
  rw [List.all_eq_true]
  exact ⟨fun h c hc => of_decide_eq_true (h c hc), fun h c hc => decide_eq_true (h c hc)⟩
theorem abc_lt : ∀ c ∈ abcS.cps.toList, c < 1000 := by decide
/-- at most n signs, all of them small -/
structure Tx (n : Nat) (x : Str) : Prop where
  len : x.length ≤ n
  ch : ∀ c ∈ x.cps.toList, c < 1000
/-- letters, at most n -/
structure Wd (n : Nat) (x : Str) : Prop where
  len : x.length ≤ n
  pl : plain x = true
theorem Wd.tx {n : Nat} {x : Str} (h : Wd n x) : Tx n x := ⟨h.len, fun c hc => abc_lt c (plain_iff.mp h.pl c hc)⟩
theorem Tx.mono {n m : Nat} {x : Str} (h : Tx n x) (l : n ≤ m) : Tx m x := ⟨Nat.le_trans h.len l, h.ch⟩
theorem Wd.mono {n m : Nat} {x : Str} (h : Wd n x) (l : n ≤ m) : Wd m x := ⟨Nat.le_trans h.len l, h.pl⟩
theorem Tx.append {n m : Nat} {x y : Str} (h : Tx n x) (k : Tx m y) : Tx (n + m) (x ++ y) := by
  refine ⟨by rw [Str.length_append]; have := h.len; have := k.len; omega, fun c hc => ?_⟩
  rw [ls_append] at hc
  rcases List.mem_append.mp hc with z | z
  · exact h.ch c z
  · exact k.ch c z
theorem plain_append {x y : Str} : plain (x ++ y) = (plain x && plain y) := by
  unfold plain
  rw [ls_append, List.all_append]
theorem Wd.append {n m : Nat} {x y : Str} (h : Wd n x) (k : Wd m y) : Wd (n + m) (x ++ y) := by
  refine ⟨by rw [Str.length_append]; have := h.len; have := k.len; omega, ?_⟩
  rw [plain_append, h.pl, k.pl]
  rfl
theorem Tx.cut {n : Nat} {x : Str} (h : Tx n x) (lo hi : Option Int) : Tx n (cutS x lo hi) :=
  ⟨Nat.le_trans (cutS_length x lo hi) h.len, fun c hc => h.ch c (List.mem_of_mem_drop (List.mem_of_mem_take hc))⟩
theorem plain_sub {x y : Str} (h : plain x = true) (s : ∀ c ∈ y.cps.toList, c ∈ x.cps.toList) : plain y = true := plain_iff.mpr fun c hc => plain_iff.mp h c (s c hc)
theorem mem_cut {x : Str} {lo hi : Option Int} : ∀ c ∈ (cutS x lo hi).cps.toList, c ∈ x.cps.toList := fun c hc => List.mem_of_mem_drop (List.mem_of_mem_take hc)
theorem Wd.cut {n : Nat} {x : Str} (h : Wd n x) (lo hi : Option Int) : Wd n (cutS x lo hi) :=
  ⟨Nat.le_trans (cutS_length x lo hi) h.len, plain_sub h.pl mem_cut⟩
theorem Tx.one {c : Nat} (h : c < 1000) : Tx 1 ⟨#[c]⟩ := ⟨Nat.le_refl _, fun d hd => by
  have : d = c := by simpa using hd
  rw [this]; exact h⟩
theorem Wd.one {x : Str} {i c : Nat} (h : plain x = true) (e : x.cps.toList[i]? = some c) : Wd 1 ⟨#[c]⟩ := ⟨Nat.le_refl _, plain_sub h fun d hd => by
  have : d = c := by simpa using hd
  rw [this]
  exact List.mem_of_getElem? e⟩
theorem Tx.lit {n : Nat} {x : Str} (h : x.cps.toList.all (fun c => decide (c < 1000)) = true) (l : x.length ≤ n) : Tx n x := ⟨l, fun c hc => of_decide_eq_true (List.all_eq_true.mp h c hc)⟩
theorem Tx.sz {n k : Nat} {x : Str} (h : Tx n x) : Sz k (10 * n + 2) (.str x) := Sz.str (fun c hc => Nat.lt_trans (h.ch c hc) (by decide)) h.len
theorem small_line {n : Nat} (h : n ≤ 100000) : n ≤ sizeLine := by rw [sizeLine_eq]; omega
theorem Tx.line {n : Nat} {x : Str} (h : Tx n x) (l : n ≤ 100000) : x.length ≤ sizeLine := Nat.le_trans h.len (small_line l)
/-! ### cuts at a place -/
theorem cut_to {x : Str} {j : Nat} (h : j ≤ x.length) : (cutS x none (some (j : Int))).cps.toList = x.cps.toList.take j := by
  show ((x.cps.toList.drop 0).take (HT.sIx x.length x.length (some (j : Int)) - 0)) = _
  rw [HT.sIx_nat, Nat.min_eq_left h, List.drop_zero, Nat.sub_zero]
theorem cut_from {x : Str} {j : Nat} (h : j ≤ x.length) : (cutS x (some (j : Int)) none).cps.toList = x.cps.toList.drop j := by
  show ((x.cps.toList.drop (HT.sIx x.length 0 (some (j : Int)))).take (x.length - HT.sIx x.length 0 (some (j : Int)))) = _
  rw [HT.sIx_nat, Nat.min_eq_left h]
  apply List.take_of_length_le
  rw [List.length_drop, len_ls]
  omega
theorem cut_in {x : Str} {i j : Nat} (h : i ≤ x.length) : (cutS x (some (i : Int)) (some (j : Int))).cps.toList = (x.cps.toList.drop i).take (min j x.length - i) := by
  show ((x.cps.toList.drop (HT.sIx x.length 0 (some (i : Int)))).take (HT.sIx x.length x.length (some (j : Int)) - HT.sIx x.length 0 (some (i : Int)))) = _
  rw [HT.sIx_nat, HT.sIx_nat, Nat.min_eq_left h]
theorem len_cut_in {x : Str} {i j : Nat} (h : i ≤ x.length) : (cutS x (some (i : Int)) (some (j : Int))).length = min j x.length - i := by
  rw [len_ls, cut_in h, List.length_take, List.length_drop, ← len_ls]
  omega
theorem len_cut_to {x : Str} {j : Nat} (h : j ≤ x.length) : (cutS x none (some (j : Int))).length = j := by
  rw [len_ls, cut_to h, List.length_take, ← len_ls]
  omega
theorem len_cut_from {x : Str} {j : Nat} (h : j ≤ x.length) : (cutS x (some (j : Int)) none).length = x.length - j := by
  rw [len_ls, cut_from h, List.length_drop, ← len_ls]
/-! ### strip: letters alone are stripped to nothing -/
theorem strip_plain (x : Str) : decide (V.str (Txt.stripChars x abcS) = V.str "") = plain x := by
  have e : (V.str (Txt.stripChars x abcS) = V.str "") ↔ Txt.stripChars x abcS = ("" : Str) := ⟨fun h => V.str.inj h, fun h => by rw [h]⟩
  have key : Txt.stripChars x abcS = ("" : Str) ↔ plain x = true := by
    unfold Txt.stripChars
    rw [stripBy_eq]
    have lo := lo_facts abcS.cps.contains x
    have hi := hi_facts abcS.cps.contains x (stripLo abcS.cps.contains true x) lo.1
    have ct : ∀ c, abcS.cps.contains c = true ↔ c ∈ abcS.cps.toList := fun c => by
      rw [Array.contains_iff_mem]
      simp
    constructor
    · intro h
      have h2 : ((x.cps.toList.drop (stripLo abcS.cps.contains true x)).take (stripHi abcS.cps.contains true x (stripLo abcS.cps.contains true x) - stripLo abcS.cps.contains true x)) = [] := by
        rw [← StrLaws.strSub_toList, h]
        rfl
      have h3 := congrArg List.length h2
      rw [List.length_take, List.length_drop, ← len_ls, List.length_nil] at h3
      have le : stripLo abcS.cps.contains true x = stripHi abcS.cps.contains true x (stripLo abcS.cps.contains true x) := by
        have := hi.1
        have := hi.2.1
        omega
      refine plain_iff.mpr fun c hc => ?_
      obtain ⟨k, hk, ek⟩ := List.getElem_of_mem hc
      have kl : k < x.length := by rw [len_ls]; exact hk
      have gk : x.cps.getD k 0 = c := PySem.StrLaws.getD_of_getElem? (by rw [List.getElem?_eq_getElem hk, ek])
      rw [← ct, ← gk]
      by_cases z : k < stripLo abcS.cps.contains true x
      · exact lo.2.1 k z
      · exact hi.2.2.1 k (by omega) kl
    · intro h
      have all : stripLo abcS.cps.contains true x = x.length := by
        rcases lo.2.2 with z | z
        · exact z
        · by_cases l : stripLo abcS.cps.contains true x = x.length
          · exact l
          · exfalso
            have kl : stripLo abcS.cps.contains true x < x.length := by have := lo.1; omega
            have hk : stripLo abcS.cps.contains true x < x.cps.toList.length := by rw [← len_ls]; exact kl
            have gk : x.cps.getD (stripLo abcS.cps.contains true x) 0 = x.cps.toList[stripLo abcS.cps.contains true x] := PySem.StrLaws.getD_of_getElem? (List.getElem?_eq_getElem hk)
            have m := plain_iff.mp h _ (List.getElem_mem hk)
            rw [← ct, ← gk, z] at m
            cases m
      apply ext_ls
      rw [StrLaws.strSub_toList, all]
      have : x.cps.toList.drop x.length = [] := List.drop_of_length_le (by rw [len_ls]; exact Nat.le_refl _)
      rw [this, List.take_nil]
      rfl
  by_cases z : plain x = true
  · rw [z, decide_eq_true (e.mpr (key.mpr z))]
  · have z' : plain x = false := by simpa using z
    rw [z', decide_eq_false fun h => z (key.mp (e.mp h))]
/-! ### where a text stands in another one -/
def atB (x y : Str) (i : Nat) : Bool := decide (i + y.length ≤ x.length) && Builtin.Str.subAt x y i
def occs (x y : Str) : List Nat := (List.range (x.length + 1)).filter (atB x y)
theorem at_iff {x y : Str} {i : Nat} : atB x y i = true ↔ StrLaws.At x y x.length i := by
  unfold atB StrLaws.At
  rw [Bool.and_eq_true, decide_eq_true_eq]
theorem occs_mem {x y : Str} {i : Nat} : i ∈ occs x y ↔ StrLaws.At x y x.length i := by
  unfold occs
  rw [List.mem_filter, List.mem_range, at_iff]
  exact ⟨fun h => h.2, fun h => ⟨by have := h.1; omega, h⟩⟩
theorem occs_lt (x y : Str) : (occs x y).Pairwise (· < ·) := List.Pairwise.filter _ List.pairwise_lt_range
theorem occs_len {x y : Str} (h : 0 < y.length) : (occs x y).length ≤ x.length := by
  have e : occs x y = (List.range x.length).filter (atB x y) := by
    unfold occs
    rw [List.range_succ, List.filter_append]
    have : atB x y x.length = false := by
      unfold atB
      rw [decide_eq_false (by omega)]
      rfl
    simp [this]
  rw [e]
  exact Nat.le_trans (List.length_filter_le _ _) (by rw [List.length_range]; exact Nat.le_refl _)
/-- the i-th place, -1 if there is none -/
def nxt (x y : Str) (i : Nat) : Int := match (occs x y)[i]? with | some v => (v : Int) | none => -1
theorem first_of {x y : Str} {lo m : Nat} (hm : ∀ j v, (occs x y)[j]? = some v → (lo ≤ v ↔ m ≤ j)) :
    (match Builtin.Str.occurrences x y lo x.length 1 with | i :: _ => (i : Int) | [] => -1) = nxt x y m := by
  unfold nxt
  rcases StrLaws.occ_head_from x y lo 1 (Nat.le_refl _) with ⟨e, no⟩ | ⟨i, r, e, li, ai, no⟩
  · rw [e]
    have : (occs x y)[m]? = none := by
      cases q : (occs x y)[m]? with
      | none => rfl
      | some v =>
        exfalso
        exact no v ((hm m v q).mpr (Nat.le_refl _)) (occs_mem.mp (List.mem_of_getElem? q))
    rw [this]
  · rw [e]
    obtain ⟨j, hj, ej⟩ := List.getElem_of_mem (occs_mem.mpr ai)
    have mj : m ≤ j := (hm j i (by rw [List.getElem?_eq_getElem hj, ej])).mp li
    have : j = m := by
      rcases Nat.lt_or_ge m j with z | z
      · exfalso
        have hm2 : m < (occs x y).length := by omega
        have q := List.pairwise_iff_getElem.mp (occs_lt x y) m j hm2 hj z
        rw [ej] at q
        exact no _ ((hm m _ (List.getElem?_eq_getElem hm2)).mpr (Nat.le_refl _)) q (occs_mem.mp (List.getElem_mem hm2))
      · omega
    subst this
    rw [List.getElem?_eq_getElem hj, ej]
theorem find_nxt (x y : Str) : Txt.find x y = nxt x y 0 := first_of (lo := 0) (m := 0) fun j v _ => ⟨fun _ => Nat.zero_le _, fun _ => Nat.zero_le _⟩
theorem find3_nxt {x y : Str} {i v : Nat} (h : (occs x y)[i]? = some v) : Txt.find3 x y ((v : Int) + 1) = nxt x y (i + 1) := by
  unfold Txt.find3
  have at' := occs_mem.mp (List.mem_of_getElem? h)
  by_cases z : v + 1 ≤ x.length
  · have e : PySem.fromIndex x.length ((v : Int) + 1) = v + 1 := by
      unfold PySem.fromIndex
      omega
    rw [e]
    refine first_of fun j w hw => ?_
    obtain ⟨hi, ei⟩ := List.getElem?_eq_some_iff.mp h
    obtain ⟨hj, ej⟩ := List.getElem?_eq_some_iff.mp hw
    rcases Nat.lt_trichotomy i j with q | q | q
    · have := List.pairwise_iff_getElem.mp (occs_lt x y) i j hi hj q
      rw [ei, ej] at this
      exact ⟨fun _ => q, fun _ => this⟩
    · subst q
      rw [ei] at ej
      subst ej
      exact ⟨fun k => by omega, fun k => by omega⟩
    · have := List.pairwise_iff_getElem.mp (occs_lt x y) j i hj hi q
      rw [ei, ej] at this
      exact ⟨fun k => by omega, fun k => by omega⟩
  · have e : PySem.fromIndex x.length ((v : Int) + 1) = v + 1 := by
      have := at'.1
      unfold PySem.fromIndex
      omega
    rw [e]
    refine first_of fun j w hw => ?_
    have wl := (occs_mem.mp (List.mem_of_getElem? hw)).1
    obtain ⟨hi, ei⟩ := List.getElem?_eq_some_iff.mp h
    obtain ⟨hj, ej⟩ := List.getElem?_eq_some_iff.mp hw
    rcases Nat.lt_trichotomy i j with q | q | q
    · have := List.pairwise_iff_getElem.mp (occs_lt x y) i j hi hj q
      rw [ei, ej] at this
      exact ⟨fun _ => q, fun _ => this⟩
    · subst q
      rw [ei] at ej
      subst ej
      exact ⟨fun k => by omega, fun k => by omega⟩
    · have := List.pairwise_iff_getElem.mp (occs_lt x y) j i hj hi q
      rw [ei, ej] at this
      exact ⟨fun k => by omega, fun k => by omega⟩
/-! ### a cut between two pieces -/
def stB (l r x : Str) (c : Nat) : Bool := Txt.endswith (cutS x none (some (c : Int))) l && Txt.startswith (cutS x (some (c : Int)) none) r
theorem stB_eq {l r x : Str} {c : Nat} (h : c ≤ x.length) : stB l r x c = (decide (l.length ≤ c) && atB x (l ++ r) (c - l.length)) := by
  unfold stB Txt.endswith Txt.startswith atB
  rw [StrLaws.subAt_eq, StrLaws.subAt_eq, StrLaws.subAt_eq, cut_to h, cut_from h, len_cut_to h, len_cut_from h, Str.length_append, ls_append, Nat.zero_add, Nat.zero_add, List.drop_zero]
  by_cases z : l.length ≤ c
  · rw [decide_eq_true z, Bool.true_and, Bool.true_and]
    have e1 : ((x.cps.toList.take c).drop (c - l.length)).take l.length = (x.cps.toList.drop (c - l.length)).take l.length := by
      rw [List.drop_take, List.take_take]
      congr 1
      omega
    have e2 : (x.cps.toList.drop (c - l.length)).take (l.length + r.length) = (x.cps.toList.drop (c - l.length)).take l.length ++ (x.cps.toList.drop c).take r.length := by
      rw [List.take_add, List.drop_drop]
      congr 3
      omega
    rw [e1, e2]
    have ll := len_ls l
    have lr := len_ls r
    have lx := len_ls x
    by_cases q : c - l.length + (l.length + r.length) ≤ x.length
    · have q2 : r.length ≤ x.length - c := by omega
      rw [decide_eq_true q, decide_eq_true q2, Bool.true_and, Bool.true_and]
      have h1 : ((x.cps.toList.drop (c - l.length)).take l.length).length = l.cps.toList.length := by rw [List.length_take, List.length_drop]; omega
      rw [Bool.eq_iff_iff, Bool.and_eq_true, beq_iff_eq, beq_iff_eq, beq_iff_eq]
      constructor
      · rintro ⟨a, b⟩
        rw [a, b]
      · intro a
        exact List.append_inj a h1
    · have q2 : ¬ r.length ≤ x.length - c := by omega
      rw [decide_eq_false q, decide_eq_false q2]
      simp
  · rw [decide_eq_false z]
    rfl
theorem filter_shift (p q : Nat → Bool) (n k : Nat) (h : ∀ c, c ≤ n → p c = (decide (k ≤ c) && q (c - k))) (hq : ∀ i, q i = true → i + k ≤ n) :
    (List.range (n + 1)).filter p = ((List.range (n + 1)).filter q).map (· + k) := by
  by_cases z : k ≤ n + 1
  · obtain ⟨m, e⟩ : ∃ m, n + 1 = k + m := ⟨n + 1 - k, by omega⟩
    have e2 : n + 1 = m + k := by omega
    have l1 : (List.range (n + 1)).filter p = ((List.range m).filter q).map (· + k) := by
      rw [e, List.range_add, List.filter_append]
      have a1 : (List.range k).filter p = [] := List.filter_eq_nil_iff.mpr fun c hc => by
        have := List.mem_range.mp hc
        rw [h c (by omega), decide_eq_false (by omega)]
        simp
      rw [a1, List.nil_append, List.filter_map]
      have a2 : (List.range m).filter (p ∘ fun x => k + x) = (List.range m).filter q := List.filter_congr fun c hc => by
        have := List.mem_range.mp hc
        show p (k + c) = q c
        rw [h (k + c) (by omega), decide_eq_true (by omega), Bool.true_and]
        congr 1
        omega
      rw [a2]
      apply List.map_congr_left
      intro c _
      omega
    have l2 : (List.range (n + 1)).filter q = (List.range m).filter q := by
      rw [e2, List.range_add, List.filter_append]
      have a1 : ((List.range k).map fun x => m + x).filter q = [] := List.filter_eq_nil_iff.mpr fun c hc => by
        obtain ⟨j, _, rfl⟩ := List.mem_map.mp hc
        intro z
        have := hq _ z
        omega
      rw [a1, List.append_nil]
    rw [l1, l2]
  · have a1 : (List.range (n + 1)).filter p = [] := List.filter_eq_nil_iff.mpr fun c hc => by
      have := List.mem_range.mp hc
      rw [h c (by omega), decide_eq_false (by omega)]
      simp
    have a2 : (List.range (n + 1)).filter q = [] := List.filter_eq_nil_iff.mpr fun c hc y => by
      have := hq _ y
      omega
    rw [a1, a2]
    rfl
def seats (l r x : Str) : List Nat := (List.range (x.length + 1)).filter (stB l r x)
theorem seats_eq (l r x : Str) : seats l r x = (occs x (l ++ r)).map (· + l.length) := by
  unfold seats occs
  refine filter_shift _ _ x.length l.length (fun c hc => stB_eq hc) fun i hi => ?_
  have := (at_iff.mp hi).1
  rw [Str.length_append] at this
  omega
/-! ### text * number -/
def rRepS : R2 := fun x y H Q => ∃ (z : Str) (n : Nat), x = .str z ∧ y = .int n ∧ z.length * n ≤ 100000 ∧ n ≤ 100000 ∧ Q (.str (Txt.mul z n)) H
theorem mul_ok {z : Str} {n : Nat} (h : z.length * n ≤ 100000) (hn : n ≤ 100000) : MulOk z (n : Int) := by
  refine ⟨?_, fun h1 _ => ?_, fun _ _ => ?_⟩
  · rw [decide_eq_false (by omega), decide_eq_false (by omega)]
    rfl
  · have n1 : 1 ≤ n := by omega
    have zl : z.length ≤ 100000 := Nat.le_trans (Nat.le_mul_of_pos_right _ n1) h
    have b : (100000 : Int) ≤ (2 ^ 63 - 1) / (n : Int) := by
      rw [Int.le_ediv_iff_mul_le (by omega)]
      omega
    omega
  · show decide _ = false
    rw [Int.toNat_natCast]
    exact decide_eq_false (by have e := sizeLine_eq; omega)
theorem op_repS {X : Cx} : OpR X (binaryOp .Mult) rRepS := by
  intro pins s σ H x y v u Q I rx ry h
  obtain ⟨z, n, rfl, rfl, hz, hn, q⟩ := h
  obtain ⟨t, rfl⟩ := rx
  obtain ⟨t', rfl⟩ := ry
  exact PySem.SB.mul (mul_ok hz hn) fun t' k => ⟨.str _, H, I.tok _, ⟨_, rfl⟩, q⟩
theorem foldl_reps (c : Array Nat) : ∀ (n : Nat) (a : Array Nat), ((List.replicate n c).foldl (· ++ ·) a).toList = a.toList ++ (List.replicate n c.toList).flatten
  | 0, a => by simp
  | n + 1, a => by
    rw [List.replicate_succ, List.foldl_cons, foldl_reps c n, List.replicate_succ, List.flatten_cons, Array.toList_append, List.append_assoc]
theorem ls_mul (z : Str) (n : Nat) : (Txt.mul z (n : Int)).cps.toList = (List.replicate n z.cps.toList).flatten := by
  unfold Txt.mul
  by_cases h1 : (n : Int) < 1
  · have : n = 0 := by omega
    subst this
    rw [if_pos h1]
    rfl
  · rw [if_neg h1]
    by_cases h2 : ((n : Int) == 1 || z.length == 0) = true
    · rw [if_pos h2]
      rcases Bool.or_eq_true _ _ ▸ h2 with q | q
      · have : n = 1 := by have := beq_iff_eq.mp q; omega
        subst this
        simp
      · have : z.cps.toList = [] := List.eq_nil_of_length_eq_zero (by rw [← len_ls]; exact beq_iff_eq.mp q)
        rw [this]
        simp
    · rw [if_neg h2, Int.toNat_natCast]
      show ((List.replicate n z.cps).foldl (· ++ ·) #[]).toList = _
      rw [foldl_reps]
      rfl
theorem len_mul (z : Str) (n : Nat) : (Txt.mul z (n : Int)).length = n * z.length := by
  rw [len_ls, ls_mul, List.length_flatten]
  simp
  rfl
theorem plain_mul {z : Str} (h : plain z = true) (n : Nat) : plain (Txt.mul z (n : Int)) = true := plain_sub h fun c hc => by
  rw [ls_mul] at hc
  obtain ⟨l, hl, hc⟩ := List.mem_flatten.mp hc
  rw [(List.mem_replicate.mp hl).2] at hc
  exact hc
/-! ### an own def called by keyword alone, within a try -/
section
variable {X : Cx} {CX : CXT} {k : Nat} {f : Addr} {fd : FuncData} {ps ks : List Str} {sp : Sp} {E : L2.St → XK} {x : Str} {p pos : Pos} {kws : List Keyword} {tk : TA} {g : List Value → List Value → List Value} {gV : List V → List V → List V}
def tCallKS (sp : Sp) (gV : List V → List V → List V) (n : Nat) (E : L2.St → XK) (tk : TA) : TE := fun σ H Q => tk σ H fun zs H1 => zs.length = n ∧ sp (gV [] zs) H1 Q (E σ)
theorem pe_callKS (F : FnOk X.prog X.w X.K X.mg X.base CX k f fd ps sp) (hr : Room k X.A) (hg : Gl X x) (hm : X.mg x = some (.ref f)) (hk : PySem.W.keepIn X.K (.ref f) = true) (hb : KBn X.K fd ps 0 ks g gV) (hx : ∀ σ, PassesAt CX X σ (E σ))
    (hkw : PK X kws tk) (hall : (backToKw pos (keywordEach kws X.env)).all (·.1.isSome) = true := by rfl) (hks : (backToKw pos (keywordEach kws X.env)).filterMap (·.1) = ks := by rfl)
    (hdb : (x == ("__debug__" : Str)) = false := by decide) (hpl : ((backTo pos (starEach [] X.env)).any (·.1) || (backToKw pos (keywordEach kws X.env)).any (·.1.isNone)) = false := by rfl) :
    PE X (.Call (.Name x p) [] kws pos) (tCallKS sp gV ks.length E tk) := by
  constructor
  intro pins s σ H Q I h
  apply wpAny_Call_Name_kw (ld_glob I hg hm ?_ hdb)
  apply PySem.W.callWith_KW0 (h₀ := X.base) I.ok.mod.kin hk hall ?_ hpl
  apply thn (hkw.run pos pins s σ H _ I h)
  rintro ws s1 ⟨zs, H1, I1, rz, len, q1⟩
  refine ⟨I1.kIn, ?_⟩
  rw [hks]
  have r2 := hb.rel (Paired.nil (F := RelV)) rz
  have n2 : ws.length = ks.length := by rw [← rz.length]; exact len
  apply wpAny_call
  apply codeAny_mono (F.run X.A X.stack s1 H1 ⟨[], ks.zip ws⟩ _ _ Q (E σ) hr I1.env0 (hb.to s1 [] ws I1.kIn rfl n2) r2 q1)
  intro r s' hq
  cases r with
  | error e => exact hx σ pins H1 s1 e s' I1 hq
  | ok fl =>
    cases fl with
    | ret u => exact I1.after hq
    | next => exact False.elim hq
    | brk => exact False.elim hq
    | cont => exact False.elim hq
end
end Sf

namespace Sf
open PySem PySem.Spec PyProof.Rows L2
/-! ### what is wrong first -/
inductive Ft
  | rule
  | piece (x : Str)
  | film (x : Str)
  | num (i : Nat) (z : Int)
def Ft.ix : Ft → Nat
  | .film _ => 1 | .piece _ => 2 | .rule => 3 | .num i _ => i
def Ft.val (j : Addr) : Ft → V
  | .film x => .str x | .piece x => .str x | .rule => .ref j | .num _ z => .int z
def eS (x : Str) : Bool := decide (V.str x = V.str "")
theorem eS_iff {x : Str} : eS x = true ↔ x.length = 0 := by
  unfold eS
  rw [decide_eq_true_eq]
  constructor
  · intro h
    rw [V.str.inj h]
    rfl
  · intro h
    have : x = ("" : Str) := ext_ls (by
      rw [len_ls] at h
      rw [List.eq_nil_of_length_eq_zero h]
      rfl)
    rw [this]
/-- of a rule of these texts -/
def ruleFt (xs : List Str) : Option Ft := if xs.length = 4 then (match xs.find? fun p => !plain p with
  | some p => some (.piece p)
  | none => if eS (xs.getD 0 "") || eS (xs.getD 3 "") then some .rule else none) else some .rule
def filmFt (x : Str) : Option Ft := if !eS x && plain x then none else some (.film x)
theorem bn_t {b : Bool} (h : (!b) = true) : b = false := by cases b <;> simp_all
theorem bn_f {b : Bool} (h : ¬ (!b) = true) : b = true := by cases b <;> simp_all
theorem b_f {b : Bool} (h : ¬ b = true) : b = false := Bool.eq_false_iff.mpr h
theorem find_at {xs : List Str} {p : Str → Bool} : ∀ {ys : List Str} {i : Nat} {x : Str}, (∀ m v, m < i → ys[m]? = some v → p v = false) → ys[i]? = some x → p x = true → ys.find? p = some x
  | [], i, x, _, e, _ => by cases e
  | y :: ys, 0, x, _, e, h => by
    cases e
    rw [List.find?_cons_of_pos h]
  | y :: ys, i + 1, x, no, e, h => by
    rw [List.find?_cons_of_neg (by rw [no 0 y (Nat.succ_pos _) rfl]; exact Bool.false_ne_true)]
    exact find_at (xs := xs) (fun m v hm hv => no (m + 1) v (Nat.succ_lt_succ hm) hv) e h
theorem find_no {p : Str → Bool} : ∀ {ys : List Str}, (∀ m v, m < ys.length → ys[m]? = some v → p v = false) → ys.find? p = none
  | [], _ => rfl
  | y :: ys, no => by
    rw [List.find?_cons_of_neg (by rw [no 0 y (Nat.succ_pos _) rfl]; exact Bool.false_ne_true)]
    exact find_no fun m v hm hv => no (m + 1) v (Nat.succ_lt_succ hm) hv
theorem map_at {α β : Type} {f : α → β} {xs : List α} {i : Nat} {v : β} (h : (xs.map f)[i]? = some v) : ∃ x, xs[i]? = some x ∧ v = f x := by
  rw [List.getElem?_map] at h
  cases q : xs[i]? with
  | none => rw [q] at h; cases h
  | some x => rw [q] at h; exact ⟨x, rfl, (Option.some.inj h).symm⟩
theorem of_four {α : Type} {xs : List α} (h : xs.length = 4) : ∃ a b c d, xs = [a, b, c, d] := match xs, h with | [a, b, c, d], _ => ⟨a, b, c, d, rfl⟩
/-- a cut that is perhaps none -/
def stZ (l r x : Str) (c : Int) : Bool := if 0 ≤ c ∧ c ≤ x.length then stB l r x c.toNat else false

def vnats (ns : List Nat) : List V := ns.map fun (c : Nat) => V.int (c : Int)
theorem vnats_ints (ns : List Nat) : vnats ns = (ns.map fun (c : Nat) => (c : Int)).map V.int := by unfold vnats; rw [List.map_map]; rfl
theorem same_none {S H : Hp} {p : Addr} (s : Same S H) (h : H p = none) : S p = none := by
  cases q : S p with
  | none => rfl
  | some o => rw [s p o q] at h; cases h
/-- how a fault is told: its error's name, its value -/
def ftName : Ft → Str
  | .film _ => "InvalidFilm" | .piece _ => "InvalidPiece" | .rule => "InvalidRule" | .num 4 _ => "UnknownStrip" | .num 5 _ => "UnknownRule" | .num _ _ => "NoSplice"
def ftList (j : Addr) : Option Ft → List V
  | none => []
  | some f => [.str (ftName f), f.val j]
def Ft.dat (xs : List Str) : Ft → PyData
  | .film x => .str x | .piece x => .str x | .rule => .tuple (xs.map .str) | .num _ z => .int z
def ftDat (xs : List Str) : Option Ft → List PyData
  | none => []
  | some f => [.str (ftName f), f.dat xs]
theorem Ft.dp {K : PySem.W.Frag} {H : Hp} {j : Addr} {xs : List Str} (h : SqT K H j (xs.map V.str)) (f : Ft) : Dp K H (f.val j) (f.dat xs) := by
  cases f with
  | rule => exact .tup h (DpAll.strs xs)
  | piece x => exact .str x
  | film x => exact .str x
  | num i z => exact .int z
theorem dp_ft {K : PySem.W.Frag} {H : Hp} {j : Addr} {xs : List Str} (h : SqT K H j (xs.map V.str)) : ∀ o : Option Ft, DpAll K H (ftList j o) (ftDat xs o)
  | none => .nil
  | some f => .cons (.str _) (.cons (f.dp h) .nil)
/-- its texts are small, its numbers too -/
structure Ft.Ok (f : Ft) : Prop where
  tx : ∀ x, f = .film x ∨ f = .piece x → Tx 5000 x
  nm : ∀ i z, f = .num i z → z.natAbs < 2 ^ 200 ∧ 4 ≤ i ∧ i ≤ 6
theorem ftName_ok (f : Ft) : (ftName f).cps.toList.all (fun c => decide (c < 1000)) = true ∧ (ftName f).length ≤ 20 := by
  unfold ftName
  split <;> exact ⟨by decide, by decide⟩
theorem str_ok {x : Str} (h : ∀ c ∈ x.cps.toList, c < 1000) : PyData.strOk x = true := by
  unfold PyData.strOk
  rw [← Array.all_toList, List.all_eq_true]
  exact fun c hc => decide_eq_true (Nat.lt_trans (h c hc) (by decide))
theorem lay_strs : ∀ {xs : List Str}, (∀ x ∈ xs, Tx 5000 x) → PyData.canLayAll0 (xs.map PyData.str) = true
  | [], _ => rfl
  | x :: xs, h => by
    show (PyData.canLay0 (.str x) && PyData.canLayAll0 (xs.map PyData.str)) = true
    rw [lay_strs fun y hy => h y (List.mem_cons_of_mem _ hy), Bool.and_true]
    simp only [PyData.canLay0]
    exact str_ok (h x List.mem_cons_self).ch
theorem depth_strs : ∀ (xs : List Str), PyData.depthAll (xs.map PyData.str) = 0
  | [] => rfl
  | x :: xs => by
    show max (PyData.depth (.str x)) (PyData.depthAll (xs.map PyData.str)) = 0
    rw [depth_strs xs]
    simp only [PyData.depth]
    rfl
theorem Ft.lay {xs : List Str} (hx : ∀ x ∈ xs, Tx 5000 x) {f : Ft} (h : f.Ok) : PyData.canLay0 (f.dat xs) = true ∧ PyData.depth (f.dat xs) ≤ 1 := by
  cases f with
  | rule => exact ⟨by simp only [Ft.dat, PyData.canLay0]; exact lay_strs hx, by simp only [Ft.dat, PyData.depth, depth_strs]; decide⟩
  | piece x => exact ⟨by simp only [Ft.dat, PyData.canLay0]; exact str_ok (h.tx x (.inr rfl)).ch, by simp only [Ft.dat, PyData.depth]; decide⟩
  | film x => exact ⟨by simp only [Ft.dat, PyData.canLay0]; exact str_ok (h.tx x (.inl rfl)).ch, by simp only [Ft.dat, PyData.depth]; decide⟩
  | num i z => exact ⟨by simp only [Ft.dat, PyData.canLay0], by simp only [Ft.dat, PyData.depth]; decide⟩
theorem shaped_ft {xs : List Str} (hx : ∀ x ∈ xs, Tx 5000 x) : ∀ {o : Option Ft}, (∀ f, o = some f → f.Ok) → SeqAt.shaped (.list (ftDat xs o)) = true
  | none, _ => by
    show SeqAt.shaped (PyData.list []) = true
    decide
  | some f, h => by
    have l := f.lay hx (h f rfl)
    have n := ftName_ok f
    unfold SeqAt.shaped
    rw [Bool.and_eq_true, decide_eq_true_eq]
    constructor
    · simp only [ftDat, PyData.canLay0, PyData.canLayAll0, l.1, Bool.and_true]
      exact str_ok fun c hc => of_decide_eq_true (List.all_eq_true.mp n.1 c hc)
    · simp only [ftDat, PyData.depth, PyData.depthAll]
      have := l.2
      omega
theorem eqv_ft (xs : List Str) (o : Option Ft) : PyData.eqv (.list (ftDat xs o)) (.list []) = o.isNone := by
  cases o with
  | none => simp only [ftDat, PyData.eqv, PyData.eqvAll]; rfl
  | some f => simp only [ftDat, PyData.eqv, PyData.eqvAll]; rfl
theorem filmFt_ok {x : Str} (h : Tx 5000 x) : ∀ f, filmFt x = some f → f.Ok := fun f e => by
  unfold filmFt at e
  split at e
  · cases e
  · cases e
    exact ⟨fun y z => (by rcases z with z | z <;> cases z; exact h), fun i z e => by cases e⟩
theorem ruleFt_ok {xs : List Str} (hx : ∀ x ∈ xs, Tx 5000 x) : ∀ f, ruleFt xs = some f → f.Ok := fun f e => by
  have r : (Ft.rule).Ok := ⟨fun y z => (by rcases z with z | z <;> cases z), fun i z e => by cases e⟩
  unfold ruleFt at e
  split at e
  · split at e
    · rename_i p q
      cases e
      exact ⟨fun y z => (by rcases z with z | z <;> cases z; exact hx _ (List.mem_of_find?_eq_some q)), fun i z e => by cases e⟩
    · split at e
      · cases e; exact r
      · cases e
  · cases e; exact r
def kindNames : List Str := ["InvalidFilm", "InvalidPiece", "InvalidRule", "UnknownStrip", "UnknownRule", "NoSplice"]
/-- the flags that an error shows -/
def flags (f : Ft) : List Bool := [decide (f.ix = 1), decide (f.ix = 2), decide (f.ix = 3), decide (f.ix = 4), decide (f.ix = 5), decide (f.ix = 6)]
theorem flags_eq {f : Ft} (h : f.Ok) : (kindNames.map fun s => V.bl (decide (V.str (ftName f) = V.str s))) = (flags f).map V.bl := by
  have e : ∀ a b : Str, decide (V.str a = V.str b) = decide (a = b) := fun a b => by
    by_cases z : a = b
    · rw [z, decide_eq_true rfl, decide_eq_true rfl]
    · rw [decide_eq_false z, decide_eq_false fun y => z (V.str.inj y)]
  simp only [e]
  cases f with
  | rule => decide
  | piece x => show _ = (flags (.piece "")).map V.bl; show (kindNames.map fun s => V.bl (decide (ftName (.piece "") = s))) = _; decide
  | film x => show _ = (flags (.film "")).map V.bl; show (kindNames.map fun s => V.bl (decide (ftName (.film "") = s))) = _; decide
  | num i z =>
    have h2 := (h.nm i z rfl).2
    have : i = 4 ∨ i = 5 ∨ i = 6 := by omega
    rcases this with rfl | rfl | rfl
    · show (kindNames.map fun s => V.bl (decide (ftName (.num 4 0) = s))) = (flags (.num 4 0)).map V.bl; decide
    · show (kindNames.map fun s => V.bl (decide (ftName (.num 5 0) = s))) = (flags (.num 5 0)).map V.bl; decide
    · show (kindNames.map fun s => V.bl (decide (ftName (.num 6 0) = s))) = (flags (.num 6 0)).map V.bl; decide
/-- of strips and rules, the strips ahead -/
def boxFt (ws : List Str) (js : List (Addr × List Str)) : Option (Addr × List Str × Ft) := match ws.findSome? filmFt with
  | some f => some (0, [], f)
  | none => js.findSome? fun j => (ruleFt j.2).map fun f => (j.1, j.2, f)
theorem some_at {α β : Type} {p : α → Option β} : ∀ {ys : List α} {i : Nat} {x : α} {b : β}, (∀ m v, m < i → ys[m]? = some v → p v = none) → ys[i]? = some x → p x = some b → ys.findSome? p = some b
  | [], i, x, b, _, e, _ => by cases e
  | y :: ys, 0, x, b, _, e, h => by
    cases e
    rw [List.findSome?_cons, h]
  | y :: ys, i + 1, x, b, no, e, h => by
    rw [List.findSome?_cons, no 0 y (Nat.succ_pos _) rfl]
    exact some_at (fun m v hm hv => no (m + 1) v (Nat.succ_lt_succ hm) hv) e h
theorem some_no {α β : Type} {p : α → Option β} : ∀ {ys : List α}, (∀ m v, m < ys.length → ys[m]? = some v → p v = none) → ys.findSome? p = none
  | [], _ => rfl
  | y :: ys, no => by
    rw [List.findSome?_cons, no 0 y (Nat.succ_pos _) rfl]
    exact some_no fun m v hm hv => no (m + 1) v (Nat.succ_lt_succ hm) hv
theorem ls_join0 : ∀ ys : List Str, (Txt.join "" ys).cps.toList = (ys.map (·.cps.toList)).flatten := by
  have key : ∀ ys : List Str, (Str.join "" ys).cps.toList = (ys.map (·.cps.toList)).flatten := by
    intro ys
    induction ys with
    | nil => rfl
    | cons y r ih =>
      cases r with
      | nil => show y.cps.toList = _; simp
      | cons z t =>
        show (y ++ "" ++ Str.join "" (z :: t)).cps.toList = _
        rw [ls_append, ls_append, ih]
        show y.cps.toList ++ [] ++ _ = _
        rw [List.append_nil]
        rfl
  intro ys
  have e : Txt.join "" ys = Str.join "" ys := StrLaws.glued_eq_join "" ys
  rw [e, key]
theorem nat_of {z : Int} (h : 0 ≤ z) : ∃ j : Nat, z = (j : Int) := ⟨z.toNat, (Int.toNat_of_nonneg h).symm⟩
/-- texts of one letter each, joined -/
theorem wd_join {ys : List Str} (h : ∀ y ∈ ys, ∃ c ∈ abcS.cps.toList, y = ⟨#[c]⟩) : Wd ys.length (Txt.join "" ys) ∧ (Txt.join "" ys).length = ys.length := by
  have len : (Txt.join "" ys).length = ys.length := by
    rw [len_ls, ls_join0, List.length_flatten, List.map_map]
    have : ys.map (List.length ∘ fun x => x.cps.toList) = ys.map fun _ => 1 := List.map_congr_left fun y hy => by
      obtain ⟨c, _, rfl⟩ := h y hy
      rfl
    rw [this]
    clear this h
    induction ys with
    | nil => rfl
    | cons y r ih => rw [List.map_cons, List.sum_cons, ih, List.length_cons, Nat.add_comm]
  refine ⟨⟨Nat.le_of_eq len, plain_iff.mpr fun c hc => ?_⟩, len⟩
  rw [ls_join0] at hc
  obtain ⟨l, hl, hc⟩ := List.mem_flatten.mp hc
  obtain ⟨y, hy, rfl⟩ := List.mem_map.mp hl
  obtain ⟨d, hd, rfl⟩ := h y hy
  have : c = d := by simpa using hc
  rw [this]
  exact hd
theorem Kp.none {H H1 : Hp} {a p : Addr} {o : HO} (h : Kp a H H1) (ha : H1 a = some o) (f : H1 p = none) : H p = none := h.free (fun e => by rw [e, ha] at f; cases f) f
theorem sk_none {n : Nat} {H H1 : Hp} {a p : Addr} (h : Kp a H H1) (k : Sk n H1 a) (f : H1 p = none) : H p = none := let ⟨_, e⟩ := k.at; h.none e f
theorem seqL_kp {K : PySem.W.Frag} {H H' : Hp} {r a : Addr} {xs : List V} (h : SqL K H r xs) (n : r ≠ a) (k : Kp a H H') : SqL K H' r xs := by
  rcases h with (h | ⟨o, h⟩) | h
  · exact .inl (.inl (k _ _ n h))
  · exact .inl (.inr ⟨o, k _ _ n h⟩)
  · exact .inr h
theorem seqT_kp {K : PySem.W.Frag} {H H' : Hp} {r a : Addr} {xs : List V} (h : SqT K H r xs) (n : r ≠ a) (k : Kp a H H') : SqT K H' r xs := by
  rcases h with (h | ⟨o, h⟩) | h
  · exact .inl (.inl (k _ _ n h))
  · exact .inl (.inr ⟨o, k _ _ n h⟩)
  · exact .inr h
theorem shaped_strs {ws : List Str} (h : ∀ x ∈ ws, Tx 5000 x) : SeqAt.shaped (.list (ws.map .str)) = true := by
  unfold SeqAt.shaped
  rw [Bool.and_eq_true, decide_eq_true_eq]
  refine ⟨?_, ?_⟩
  · simp only [PyData.canLay0]
    exact lay_strs h
  · simp only [PyData.depth, depth_strs]
    decide
theorem shaped_nil : SeqAt.shaped (.list []) = true := by decide
theorem eqv_nil (ws : List Str) : PyData.eqv (.list (ws.map .str)) (.list []) = ws.isEmpty := by
  cases ws with
  | nil => simp only [List.map_nil, PyData.eqv, PyData.eqvAll]; rfl
  | cons x r => simp only [List.map_cons, PyData.eqv, PyData.eqvAll]; rfl
theorem lt200 {z : Int} (h : z ≤ 1000000) : z < 2 ^ 200 := Int.lt_of_le_of_lt h (by decide)
theorem Kp.del {H H1 : Hp} {a b : Addr} {o : HO} (k : Kp a H H1) (nb : b ≠ a) (h : H b = some o) : H1 b = some o := k b o nb h
theorem ixN_nat {g n : Nat} (h : g < n) : ixN n (g : Int) = some g := by
  unfold ixN
  rw [if_pos (by omega), if_pos (by omega), Int.toNat_natCast]
theorem Ft.Ok.ix1 {f : Ft} (h : f.Ok) : 1 ≤ f.ix ∧ f.ix ≤ 6 := by
  cases f with
  | num i z => have := h.nm i z rfl; exact ⟨by show 1 ≤ i; omega, by show i ≤ 6; omega⟩
  | _ => exact ⟨by simp only [Ft.ix]; decide, by simp only [Ft.ix]; decide⟩
theorem filmFt_is {x : Str} {f : Ft} (h : filmFt x = some f) : f = .film x := by
  unfold filmFt at h
  split at h
  · cases h
  · exact (Option.some.inj h).symm
/-- of a rule and a film -/
def askFt (xs : List Str) (x : Str) : Option Ft := match ruleFt xs with | some f => some f | none => filmFt x
theorem askFt_ok {xs : List Str} {x : Str} (hx : ∀ x ∈ xs, Tx 5000 x) (h : Tx 5000 x) : ∀ f, askFt xs x = some f → f.Ok := fun f e => by
  unfold askFt at e
  split at e
  · rename_i q
    cases e
    exact ruleFt_ok hx _ q
  · exact filmFt_ok h f e
theorem Ft.sz {xs : List Str} (hx : ∀ x ∈ xs, Tx 400 x) (hl : xs.length ≤ 100) {f : Ft} (h : f.Ok) : Sz 2 500000 (f.dat xs) := by
  cases f with
  | rule =>
    have a : SzAll 1 (xs.length * 4004) (xs.map PyData.str) := by
      have b := SzAll.of (k := 1) (n := 4002) (ds := xs.map PyData.str) fun d hd => by
        obtain ⟨x, hx', rfl⟩ := List.mem_map.mp hd
        exact (hx x hx').sz.mono (Nat.le_refl _) (by decide)
      rw [List.length_map] at b
      exact b
    exact (Sz.tuple a).mono (Nat.le_refl _) (by omega)
  | piece x => exact (h.tx x (.inr rfl)).sz.mono (Nat.le_refl _) (by decide)
  | film x => exact (h.tx x (.inl rfl)).sz.mono (Nat.le_refl _) (by decide)
  | num i z => exact (Sz.int (n := 200) (h.nm i z rfl).1 (by decide) (by decide)).mono (Nat.le_refl _) (by decide)
theorem sz_bools (k : Nat) (bs : List Bool) : SzAll k (bs.length * 7) (bs.map PyData.bool) := by
  have b := SzAll.of (k := k) (n := 5) (ds := bs.map PyData.bool) fun d hd => by
    obtain ⟨x, _, rfl⟩ := List.mem_map.mp hd
    exact Sz.bool x
  rw [List.length_map] at b
  exact b
/-- what an error shows -/
def errDat (xs : List Str) (f : Ft) : PyData := .tuple [.list ((flags f).map .bool), f.dat xs]
theorem errDat_sz {xs : List Str} (hx : ∀ x ∈ xs, Tx 400 x) (hl : xs.length ≤ 100) {f : Ft} (h : f.Ok) : Sz 3 600000 (errDat xs f) :=
  (Sz.tuple (k := 2) (SzAll.cons ((Sz.list (sz_bools 1 (flags f))).mono (Nat.le_refl _) (show (flags f).length * 7 + 2 ≤ 100 from (by decide : 6 * 7 + 2 ≤ 100))) (SzAll.cons (f.sz hx hl h) .nil))).mono (Nat.le_refl _) (by decide)
/-- the list of the seats, shown -/
def natDat (ns : List Nat) : List PyData := ns.map fun (c : Nat) => .int (c : Int)
theorem dp_nats {K : PySem.W.Frag} {H : Hp} (ns : List Nat) : DpAll K H (vnats ns) (natDat ns) := by
  have := DpAll.ints (K := K) (H := H) (ns.map fun (c : Nat) => (c : Int))
  rw [List.map_map, List.map_map] at this
  exact this
theorem nats_sz (k : Nat) {ns : List Nat} (h : ∀ c ∈ ns, c ≤ 10000) : SzAll k (ns.length * 24) (natDat ns) := by
  have b := SzAll.of (k := k) (n := 22) (ds := natDat ns) fun d hd => by
    obtain ⟨c, hc, rfl⟩ := List.mem_map.mp hd
    have := h c hc
    exact Sz.int (n := 20) (by rw [Int.natAbs_natCast]; omega) (by decide) (by decide)
  unfold natDat at b ⊢
  rw [List.length_map] at b
  exact b
theorem seats_le {l r x : Str} : ∀ c ∈ seats l r x, c ≤ x.length := fun c hc => by
  have := List.mem_range.mp (List.mem_filter.mp hc).1
  omega
theorem seats_len (l r x : Str) : (seats l r x).length ≤ x.length + 1 := Nat.le_trans (List.length_filter_le _ _) (by rw [List.length_range]; exact Nat.le_refl _)
def toldDat (ns : List Nat) : PyData := .tuple [.list [], .str "", .list (natDat ns)]
theorem toldDat_sz {ns : List Nat} (h : ∀ c ∈ ns, c ≤ 10000) (hl : ns.length ≤ 10001) : Sz 3 300000 (toldDat ns) :=
  (Sz.tuple (k := 2) (SzAll.cons ((Sz.list (SzAll.nil (k := 1))).mono (Nat.le_refl _) (show _ ≤ 10 by decide)) (SzAll.cons ((Tx.sz (k := 2) (n := 0) (Tx.lit (by decide) (by decide))).mono (Nat.le_refl _) (show _ ≤ 10 by decide))
    (SzAll.cons ((Sz.list (nats_sz 1 h)).mono (Nat.le_refl _) (show _ ≤ 250000 by omega)) .nil)))).mono (Nat.le_refl _) (by decide)
end Sf

namespace Sf
open PySem PySem.Spec PyProof.Rows L2
/-! ### faults one behind another -/
def orFt (a b : Option Ft) : Option Ft := match a with | some f => some f | none => b
theorem or_some {f : Ft} {b : Option Ft} : orFt (some f) b = some f := rfl
theorem or_none {b : Option Ft} : orFt none b = b := rfl
theorem or_assoc (a b c : Option Ft) : orFt (orFt a b) c = orFt a (orFt b c) := by cases a <;> rfl
/-- a cut that is not let -/
def cutFt (b : Bool) (z : Int) : Option Ft := if b then none else some (.num 6 z)
/-- what is wrong first with a splice -/
def splFt (xs : List Str) (x : Str) (c : Int) (y : Str) (p : Int) : Option Ft :=
  orFt (ruleFt xs) (orFt (filmFt x) (orFt (filmFt y) (orFt (cutFt (stZ (xs.getD 0 "") (xs.getD 1 "") x c) c) (cutFt (stZ (xs.getD 2 "") (xs.getD 3 "") y p) p))))
def splice (x : Str) (c : Int) (y : Str) (p : Int) : Str := cutS x none (some c) ++ cutS y (some p) none
theorem cutFt_ok {b : Bool} {z : Int} (h : z.natAbs < 2 ^ 200) : ∀ f, cutFt b z = some f → f.Ok := fun f e => by
  unfold cutFt at e
  split at e
  · cases e
  · cases e
    exact ⟨fun y w => (by rcases w with w | w <;> cases w), fun i z e => by cases e; exact ⟨h, by decide, by decide⟩⟩
theorem orFt_ok {a b : Option Ft} (ha : ∀ f, a = some f → f.Ok) (hb : ∀ f, b = some f → f.Ok) : ∀ f, orFt a b = some f → f.Ok := fun f e => by
  cases a with
  | none => exact hb f e
  | some g => cases e; exact ha _ rfl
theorem seats_mem {l r x : Str} {g : Int} : inV (.int g) (vnats (seats l r x)) = stZ l r x g := by
  unfold inV vnats
  rw [List.any_map, Bool.eq_iff_iff, List.any_eq_true]
  unfold stZ
  constructor
  · rintro ⟨c, hc, e⟩
    have e : ((c : Int) == g) = true := e
    have ec : (c : Int) = g := beq_iff_eq.mp e
    have m := List.mem_filter.mp hc
    have := List.mem_range.mp m.1
    subst ec
    rw [if_pos ⟨by omega, by omega⟩, Int.toNat_natCast]
    exact m.2
  · intro h
    split at h
    · rename_i q
      refine ⟨g.toNat, List.mem_filter.mpr ⟨List.mem_range.mpr (by omega), h⟩, ?_⟩
      show (((g.toNat : Nat) : Int) == g) = true
      rw [Int.toNat_of_nonneg q.1]
      exact beq_self_eq_true g
    · cases h
theorem nats_flat (ns : List Nat) : (vnats ns).all flatV = true := by
  unfold vnats
  rw [List.all_map]
  exact List.all_eq_true.mpr fun _ _ => rfl
theorem shaped_nats (ns : List Nat) : SeqAt.shaped (.list (natDat ns)) = true := by
  have key : ∀ ns : List Nat, PyData.canLayAll0 (natDat ns) = true ∧ PyData.depthAll (natDat ns) = 0 := by
    intro ns
    induction ns with
    | nil => exact ⟨rfl, rfl⟩
    | cons c r ih =>
      constructor
      · show (PyData.canLay0 (.int c) && PyData.canLayAll0 (natDat r)) = true
        rw [ih.1, Bool.and_true]
        simp only [PyData.canLay0]
      · show max (PyData.depth (.int c)) (PyData.depthAll (natDat r)) = 0
        rw [ih.2]
        simp only [PyData.depth]
        rfl
  unfold SeqAt.shaped
  rw [Bool.and_eq_true, decide_eq_true_eq]
  refine ⟨?_, ?_⟩
  · simp only [PyData.canLay0]
    exact (key ns).1
  · simp only [PyData.depth, (key ns).2]
    decide
theorem eqv_nats (ns : List Nat) : PyData.eqv (.list (natDat ns)) (.list []) = ns.isEmpty := by
  cases ns with
  | nil => simp only [natDat, List.map_nil, PyData.eqv, PyData.eqvAll]; rfl
  | cons x r => simp only [natDat, List.map_cons, PyData.eqv, PyData.eqvAll]; rfl
/-- what is shown of a splice -/
def splDat (z : Str) : PyData := .tuple [.list [], .str "", .str z]
theorem splDat_sz {z : Str} (h : Tx 5000 z) : Sz 3 100000 (splDat z) :=
  (Sz.tuple (k := 2) (SzAll.cons ((Sz.list (SzAll.nil (k := 1))).mono (Nat.le_refl _) (show _ ≤ 10 by decide)) (SzAll.cons ((Tx.sz (k := 2) (n := 0) (Tx.lit (by decide) (by decide))).mono (Nat.le_refl _) (show _ ≤ 10 by decide))
    (SzAll.cons (h.sz (k := 2)) .nil)))).mono (Nat.le_refl _) (by decide)
def errDat3 (xs : List Str) (f : Ft) : PyData := .tuple [.list ((flags f).map .bool), f.dat xs, .str ""]
theorem errDat3_sz {xs : List Str} (hx : ∀ x ∈ xs, Tx 400 x) (hl : xs.length ≤ 100) {f : Ft} (h : f.Ok) : Sz 3 600000 (errDat3 xs f) :=
  (Sz.tuple (k := 2) (SzAll.cons ((Sz.list (sz_bools 1 (flags f))).mono (Nat.le_refl _) (show (flags f).length * 7 + 2 ≤ 100 from (by decide : 6 * 7 + 2 ≤ 100))) (SzAll.cons (f.sz hx hl h)
    (SzAll.cons ((Tx.sz (k := 2) (n := 0) (Tx.lit (by decide) (by decide))).mono (Nat.le_refl _) (show _ ≤ 10 by decide)) .nil)))).mono (Nat.le_refl _) (by decide)
end Sf

namespace Sf
open PySem PySem.Spec PyProof.Rows L2
open PySem.Froz (SD sObj addTx tailTx TxOk add_x)
/-! ### sets of texts -/
/-- an entry: a text and its hash -/
def SEnt (w : World) (e : Int × Value) (k : Str) : Prop := ∃ u, e = (hashStr w k, Value.str k u)
/-- the payload D holds the texts l; it can be walked -/
structure Pay (P : Program) (w : World) (D : SD) (l : List Str) : Prop where
  tx : TxOk P w D l
  ent : ∀ e ∈ D.1.toList, ∃ k, SEnt w e k
  nd : l.Nodup
  ris : Ris D.2.2.place.toList
  led : w.params.followText "set-order" = true ∨ D.2.2.led = true
def SetS (P : Program) (w : World) (h : Heap) (a : Addr) (l : List Str) : Prop := ∃ D : SD, h.get? a = some (sObj "set" D) ∧ Pay P w D l
section
variable {P : Program} {w : World} {D : SD} {l : List Str} {k : Str}
theorem Pay.perm {es' : Array (Int × Value)} {ep' : Nat} {t' : SetTable} (F : Pay P w D l) (p : List.Perm es'.toList D.1.toList) (hf : t'.fits es'.size = true) (r : Ris t'.place.toList) (hl : t'.led = D.2.2.led) : Pay P w (es', ep', t') l :=
  { tx := F.tx.perm p hf, ent := fun e he => F.ent e (p.mem_iff.mp he), nd := F.nd, ris := r, led := F.led.imp id fun z => hl.trans z }
/-- a new text laid, the table perhaps laid anew -/
theorem Pay.add (F : Pay P w D l) (u : Tok) (hk : k ∉ l) : Pay P w (addTx (hashStr w k) (.str k u) D) (k :: l) := by
  have t1 := PySem.Froz.add_ok (P := P) u F.tx (k := k)
  obtain ⟨es, ep, t⟩ := D
  unfold addTx tailTx at t1 ⊢
  have pm := layNew_perm t es (hashStr w k) (.str k u)
  have r1 := layNew_ris t es (hashStr w k) (.str k u) F.ris
  have d1 := layNew_led t es (hashStr w k) (.str k u)
  dsimp only at t1 ⊢
  generalize layNew t es (hashStr w k) (.str k u) = Z at t1 pm r1 d1 ⊢
  obtain ⟨es1, tb, was, gave⟩ := Z
  dsimp only at t1 pm r1 d1 ⊢
  rw [Array.toList_push] at pm
  have ent1 : ∀ e ∈ es1.toList, ∃ k, SEnt w e k := fun e he => by
    rcases List.mem_append.mp (pm.mem_iff.mp he) with z | z
    · exact F.ent e z
    · exact ⟨k, u, List.mem_singleton.mp z⟩
  have nd1 : (k :: l).Nodup := List.nodup_cons.mpr ⟨hk, F.nd⟩
  have r2 : Ris (if tb.plain = true then { tb with plain := false } else tb).place.toList := by split <;> exact r1
  have d2 : (if tb.plain = true then { tb with plain := false } else tb).led = t.led := by split <;> exact d1
  generalize (if tb.plain = true then { tb with plain := false } else tb) = tc at t1 r2 d2 ⊢
  have led2 : w.params.followText "set-order" = true ∨ tc.led = true := F.led.imp id fun z => d2.trans z
  by_cases c : (!was && tc.tooFull) = true
  · rw [if_pos c] at t1 ⊢
    have pm2 := relayAll_perm tc es1 (SetTable.grown es1.size)
    have r3 := relayAll_ris tc es1 (SetTable.grown es1.size)
    have d3 := relayAll_led tc es1 (SetTable.grown es1.size)
    exact { tx := t1, ent := fun e he => ent1 e (pm2.mem_iff.mp he), nd := nd1, ris := r3, led := led2.imp id fun z => d3.trans z }
  · rw [if_neg c] at t1 ⊢
    exact { tx := t1, ent := ent1, nd := nd1, ris := r2, led := led2 }
end
/-! ### the members of a list, each once -/
/-- a member more -/
def addL (l : List Str) (k : Str) : List Str := if k ∈ l then l else k :: l
def dd (xs : List Str) : List Str := xs.foldl addL []
theorem dd_snoc (xs : List Str) (x : Str) : dd (xs ++ [x]) = addL (dd xs) x := by unfold dd; rw [List.foldl_append]; rfl
theorem addL_mem {l : List Str} {k x : Str} : x ∈ addL l k ↔ x ∈ l ∨ x = k := by
  unfold addL
  split
  · rename_i h
    exact ⟨.inl, fun z => z.elim id fun e => e ▸ h⟩
  · rw [List.mem_cons]
    exact Or.comm
theorem addL_nodup {l : List Str} {k : Str} (h : l.Nodup) : (addL l k).Nodup := by
  unfold addL
  split
  · exact h
  · rename_i q
    exact List.nodup_cons.mpr ⟨q, h⟩
theorem addL_len (l : List Str) (k : Str) : (addL l k).length ≤ l.length + 1 := by
  unfold addL
  split
  · exact Nat.le_succ _
  · exact Nat.le_refl _
theorem fold_mem {x : Str} : ∀ {xs l : List Str}, x ∈ xs.foldl addL l ↔ x ∈ l ∨ x ∈ xs
  | [], l => by simp
  | y :: ys, l => by
    rw [List.foldl_cons, fold_mem, addL_mem, List.mem_cons]
    constructor
    · rintro ((h | h) | h)
      · exact .inl h
      · exact .inr (.inl h)
      · exact .inr (.inr h)
    · rintro (h | h | h)
      · exact .inl (.inl h)
      · exact .inl (.inr h)
      · exact .inr h
theorem fold_nodup : ∀ {xs l : List Str}, l.Nodup → (xs.foldl addL l).Nodup
  | [], l, h => h
  | y :: ys, l, h => by rw [List.foldl_cons]; exact fold_nodup (xs := ys) (addL_nodup h)
theorem fold_len : ∀ (xs l : List Str), (xs.foldl addL l).length ≤ l.length + xs.length
  | [], l => Nat.le_refl _
  | y :: ys, l => by
    have h1 := fold_len ys (addL l y)
    have h2 := addL_len l y
    rw [List.foldl_cons, List.length_cons]
    omega
theorem dd_mem {x : Str} {xs : List Str} : x ∈ dd xs ↔ x ∈ xs := by unfold dd; rw [fold_mem]; simp
theorem dd_nodup (xs : List Str) : (dd xs).Nodup := fold_nodup List.nodup_nil
theorem dd_len (xs : List Str) : (dd xs).length ≤ xs.length := by have := fold_len xs []; simpa [dd] using this

section
variable {P : Program} {w : World} {A : Around} {E : Value → Shared → Prop} {s : Shared} {a : Addr} {l : List Str} {k : Str} {u : Tok}
/-- a text added, a new one or one that is there -/
theorem setS_add {Q : Bool → Shared → Prop} (R : SetS P w s.heap a l) (room : l.length + 1 < scanBound) (hQ : ∀ b h', (∀ c, c ≠ a → h'.get? c = s.heap.get? c) → SetS P w h' a (addL l k) → Q b { s with heap := h' }) :
    wpAny (model P w) A (setAddHashed a (.str k u) (hashStr w k)) Q E s := by
  obtain ⟨D, ho, F⟩ := R
  by_cases m : k ∈ l
  · have e : addL l k = l := if_pos m
    rw [e] at hQ
    have old := hQ false s.heap (fun _ _ => rfl) ⟨D, ho, F⟩
    have is := PySem.Froz.is_str (P := P) (w := w) k u
    obtain ⟨es, ep, t⟩ := D
    have few : es.size < scanBound := by have := F.tx.sz; show es.size < _; rw [show es.size = l.length from this]; omega
    unfold setAddHashed setAddHashedIn
    apply wpAny_holding
    apply wpAny_bind
    apply wpAny_setState_of ho (ep := ep) rfl F.tx.fit
    simp only [byScan_of (x := Value.str k u) rfl few F.tx.el, ↓reduceIte]
    unfold setAddByScan
    apply wpAny_bind
    apply wpAny_bind
    apply wpAny_rule
    apply wpAny_bind
    apply wpAny_setScan_of (knd := PySem.strKind P w) is ho (ep := ep) rfl F.tx.fit F.tx.el
    cases q : List.findIdx? (fun e => (PySem.strKind P w).is k e.2) es.toList with
    | some j => exact wpAny_pure (wpAny_pure old)
    | none =>
      obtain ⟨e, he, z⟩ := (F.tx.mem k).mp m
      have c := List.findIdx?_eq_none_iff.mp q e he
      rw [z] at c
      cases c
  · have e : addL l k = k :: l := if_neg m
    rw [e] at hQ
    apply add_x (P := P) ho F.tx m room
    apply hQ true _ (fun c hc => Heap.get?_update_other _ _ (Ne.symm hc))
    exact ⟨_, PySem.Froz.get_upd _ ho rfl, F.add u m⟩
end
/-! ### the loop of set(..) -/
section
variable {prog : Program} {w : World} {A : Around} {R : Result → Shared → Prop} {I : Addr} {fp wr : List Addr} {n : Nat} {Pv : Nat → Value → Prop} {St : Nat → Heap → Prop}
theorem loopW (W : Walks prog w A.in1 I fp wr n Pv St) (S : Addr) (hS : S ∉ fp) (xs : List Str) (hn : xs.length = n) (few : n + 1 < scanBound) (val : ∀ i v, Pv i v → ∃ x t, xs[i]? = some x ∧ v = .str x t) :
    ∀ (k i : Nat) (s : Shared), i + k = n → St i s.heap → SetS prog w s.heap S (dd (xs.take i)) →
      (∀ h' tk, (∀ b o, b ∉ S :: wr → s.heap.get? b = some o → h'.get? b = some o) → SetS prog w h' S (dd xs) → R (.ok (.ret .none)) { s with heap := h', toks := tk }) →
      codeAny (model prog w) A (.builtin "set.update.loop" ⟨[.ref S, .ref I], []⟩) R s := by
  have nw : S ∉ wr := fun z => hS (W.sub _ z)
  intro k
  induction k with
  | zero =>
    intro i s e st hs hR
    have e : i = n := e
    subst e
    rw [List.take_of_length_le (Nat.le_of_eq hn)] at hs
    apply codeAny_builtin PyProof.Rows.F.entry_set_update_loop
    rw [Around.under_plainId PyProof.Rows.F.plain_set_update_loop _]
    apply wpAny_bind (W.done s _ _ st fun h' tk kp => ?_)
    obtain ⟨D, ho, F⟩ := hs
    exact wpAny_pure (hR h' tk (fun b o hb => kp b o fun z => hb (List.mem_cons_of_mem _ z)) ⟨D, kp S _ nw ho, F⟩)
  | succ k ih =>
    intro i s e st hs hR
    apply codeAny_builtin PyProof.Rows.F.entry_set_update_loop
    rw [Around.under_plainId PyProof.Rows.F.plain_set_update_loop _]
    apply wpAny_bind (W.item i s _ _ (by omega) st fun v h' tk pv st' kp => ?_)
    obtain ⟨x, t, ex, rfl⟩ := val i v pv
    have hs' : SetS prog w h' S (dd (xs.take i)) := by
      obtain ⟨D, ho, F⟩ := hs
      exact ⟨D, kp S _ nw ho, F⟩
    have es : dd (xs.take (i + 1)) = addL (dd (xs.take i)) x := by rw [List.take_add_one, ex]; exact dd_snoc _ _
    have few' : (dd (xs.take i)).length + 1 < scanBound := by
      have := dd_len (xs.take i)
      rw [List.length_take] at this
      omega
    apply wpAny_bind
    apply wpAny_holding
    unfold setAdd
    apply wpAny_holding
    apply wpAny_bind
    apply (PySem.strKind prog w).pyHash (PySem.Froz.is_str x t)
    apply setS_add (s := { s with heap := h', toks := tk + 1 }) hs' few'
    intro b h2 oth r2
    rw [← es] at r2
    have st2 : St (i + 1) h2 := W.frame _ _ _ st' fun c hc o ho => by rw [oth c fun z => hS (z ▸ hc)]; exact ho
    refine wpAny_pure ⟨plainId_quiet PyProof.Rows.F.plain_set_update_loop _, ih (i + 1) _ (by omega) st2 r2 fun h3 tk3 kp3 r3 => ?_⟩
    apply hR h3 tk3 (fun c o hc ho => ?_) r3
    have c1 : c ≠ S := fun z => hc (z ▸ List.mem_cons_self)
    apply kp3 c o hc
    show h2.get? c = some o
    rw [oth c c1]
    exact kp c o (fun z => hc (List.mem_cons_of_mem _ z)) ho
end
end Sf

namespace Sf
open PySem PySem.Spec PyProof.Rows L2
open PySem.Froz (SD sObj TxOk)
/-! ### set(x) -/
abbrev freshD (w : World) : SD := (#[], 0, .fresh 0 0 (!w.params.followText "set-order"))
theorem pay_fresh (P : Program) (w : World) : Pay P w (freshD w) [] where
  tx := PySem.Froz.TxOk.nil rfl
  ent := fun e he => by simp at he
  nd := List.nodup_nil
  ris := List.Pairwise.nil
  led := by
    show _ ∨ (!w.params.followText "set-order") = true
    cases w.params.followText "set-order"
    · exact .inr rfl
    · exact .inl rfl
section
variable {prog : Program} {w : World} {A : Around} {E : Value → Shared → Prop} {s : Shared}
theorem new_led (v : Value) {Q₁ : Value → Shared → Prop} (h : Q₁ (.ref s.heap.objs.size) { s with heap := s.heap.push (sObj "set" (freshD w)) }) :
    codeAny (model prog w) A (.call (.builtin "set.__new__") ⟨[.type "set", v], []⟩) (wants Q₁ E) s := by
  apply codeAny_of_tree
  show wpAny _ A.in1 (do checkBuiltinCall "set.__new__" ⟨[.type "set", v], []⟩; again (.builtin "set.__new__" ⟨[.type "set", v], []⟩)) _ _ s
  apply wpAny_bind
  apply wpAny_of_eq (PySem.F.newCall_set_1 v)
  apply wpAny_pure
  refine ⟨plainId_quiet PySem.F.plain_set_new _, ?_⟩
  apply codeAny_builtin PySem.F.entry_set_new
  rw [Around.under_plainId PySem.F.plain_set_new _]
  unfold Builtin.«set.__new__» Builtin.Frozenset.newClass
  have own := sub_set_self
  obtain ⟨hp, g, d, tk, os⟩ := s
  dsimp only
  wp_walk
  exact wpAny_askSetting (wpAny_pure (wpAny_bind (wpAny_alloc (wpAny_pure (wpAny_pure h)))))
/-- what set.update does with v, told ahead -/
def Fills (prog : Program) (w : World) (s : Shared) (v : Value) (l : List Str) : Prop := ∀ (B : Around) (E' : Value → Shared → Prop) (Q' : Unit → Shared → Prop), B.handled = none →
  (∀ h' tk, (∀ b o, b < s.heap.objs.size → s.heap.get? b = some o → h'.get? b = some o) → SetS prog w h' s.heap.objs.size l → Q' () { s with heap := h', toks := tk }) →
  wpAny (model prog w) B (Builtin.Frozenset.updateFrom "set.__init__" s.heap.objs.size v) Q' E' { s with heap := s.heap.push (sObj "set" (freshD w)) }
theorem call_set1 {v : Value} {l : List Str} {Q : Value → Shared → Prop} (hh : A.handled = none) (fill : Fills prog w s v l)
    (h : ∀ h' tk, (∀ b o, b < s.heap.objs.size → s.heap.get? b = some o → h'.get? b = some o) → SetS prog w h' s.heap.objs.size l → Q (.ref s.heap.objs.size) { s with heap := h', toks := tk }) :
    wpAny (model prog w) A (call (.type "set") [v]) Q E s := by
  obtain ⟨c, tl, mro⟩ := PySem.F.called_set.mro
  have made := PySem.F.called_set.made
  have sub := PySem.F.called_set.sub
  apply wpAny_call
  apply codeAny_of_tree
  show wpAny _ _ (callAny (.type "set") _) _ _ _
  apply wpAny_pure
  refine ⟨Code.quiet_builtin _ (by decide +kernel), ?_⟩
  apply codeAny_builtin PySem.F.entry_type_call
  rw [Around.under_plain (weight_type_call_type "set" [v] []) rfl]
  have n1 := PySem.F.called_set.notType
  have n2 := PySem.F.called_set.canCreate
  have n3 := PySem.F.typeCall_set_1 v
  repeat (any_goals (first | assumption | wp_step))
  apply codeAny_mono (new_led v (E := E) (Q₁ := fun o s₁ => o = .ref s.heap.objs.size ∧ s₁ = { s with heap := s.heap.push (sObj "set" (freshD w)) }) ⟨rfl, rfl⟩)
  intro r s₁ z
  cases r with
  | error e => exact z
  | ok fl =>
    cases fl with
    | ret o =>
      obtain ⟨rfl, rfl⟩ := z
      have here : (s.heap.push (sObj "set" (freshD w))).get? s.heap.objs.size = some (sObj "set" (freshD w)) := Heap.get?_push_size _ rfl
      have ty : Shared.TypeIs { s with heap := s.heap.push (sObj "set" (freshD w)) } (.ref s.heap.objs.size) "set" := ⟨_, here, rfl⟩
      have i1 := PySem.F.called_set.init.lookup
      have i2 := PySem.F.called_set.init.bind (.ref s.heap.objs.size)
      repeat (any_goals (first | assumption | wp_step))
      apply codeAny_mono (codeAny_call_builtin (R := wants (fun r s₂ => r = .none ∧ ∃ h' tk, s₂ = { s with heap := h', toks := tk } ∧ SetS prog w h' s.heap.objs.size l ∧ (∀ b o, b < s.heap.objs.size → s.heap.get? b = some o → h'.get? b = some o)) E)
        PySem.F.called_set.init.plain PySem.F.entry_set_init (check_set_init_1 ty ?_))
      · intro r₂ s₂ z2
        cases r₂ with
        | error e => exact z2
        | ok fl₂ =>
          cases fl₂ with
          | ret r =>
            obtain ⟨rfl, h', tk, rfl, hS, kp⟩ := z2
            repeat (any_goals (first | assumption | wp_step))
            exact h _ _ kp hS
          | _ => exact z2.elim
      · unfold Builtin.«set.__init__» noKeywords
        generalize hU : Builtin.Frozenset.updateFrom = U
        wp_walk
        subst hU
        apply fill
        · simp [hh]
        · intro h' tk kp hS
          exact wpAny_pure ⟨rfl, h', tk, rfl, hS, kp⟩
    | _ => exact z.elim
theorem fill_list {p : Addr} {items : Array Value} {xs : List Str} (hl : s.heap.IsList p items) (hi : StrsAre items.toList xs) (few : xs.length + 1 < scanBound) : Fills prog w s (.ref p) (dd xs) := by
  intro B E' Q' hB h
  obtain ⟨⟨cl, dt, da, sl⟩, ho, hc, m, hd⟩ := id hl
  simp only at hc hd
  subst hc hd
  have ho1 : (s.heap.push (sObj "set" (freshD w))).get? p = some { cls := .type "list", dict := dt, data := .seq items m, slots := sl } := Heap.get?_push_of_some _ ho
  have l1 : (s.heap.push (sObj "set" (freshD w))).IsList p items := ⟨_, ho1, rfl, m, rfl⟩
  have e1 := PySem.F.sub_list_set
  have e2 := PySem.F.sub_list_frozenset
  have e3 : (Value.type "list" == Value.type "dict") = false := by decide
  have plt := Heap.lt_size ho
  unfold Builtin.Frozenset.updateFrom
  generalize hP : pyIter = G
  wp_walk
  subst hP
  apply wpAny_pyIter_list l1
  apply wpAny_bind
  apply wpAny_runValue
  have hz : (s.heap.push (sObj "set" (freshD w))).objs.size = s.heap.objs.size + 1 := Heap.size_push ..
  have ne : p ≠ (s.heap.push (sObj "set" (freshD w))).objs.size := by rw [hz]; exact Nat.ne_of_lt (Nat.lt_succ_of_lt plt)
  have len : xs.length = items.size := by rw [← StrsAre.len_eq hi, Array.length_toList]
  apply loopW (Walks.list (by simp [hB]) _ p ne items) s.heap.objs.size ?n1 xs len (by omega) ?n2 items.size 0 _ (Nat.zero_add _) ⟨⟨_, Heap.get?_push_size _ rfl, rfl, rfl⟩, l1.push _⟩ ?n3 ?n4
  case n1 =>
    simp only [List.mem_cons, List.not_mem_nil, or_false, not_or]
    exact ⟨by rw [hz]; exact Nat.ne_of_lt (Nat.lt_succ_self _), Nat.ne_of_gt plt⟩
  case n2 =>
    intro i v hv
    have hv : items.toList[i]? = some v := by rw [Array.getElem?_toList]; exact hv
    obtain ⟨t, e⟩ := SS.strs_at hi i v hv
    have il := (List.getElem?_eq_some_iff.mp hv).1
    rw [StrsAre.len_eq hi] at il
    exact ⟨xs.getD i Str.empty, t, by rw [List.getD_eq_getElem?_getD, List.getElem?_eq_getElem il]; rfl, e⟩
  case n3 => exact ⟨_, Heap.get?_push_of_some _ (Heap.get?_push_size _ rfl), pay_fresh _ _⟩
  case n4 =>
    intro h' tk kp hS
    apply wpAny_pure
    apply h h' tk (fun b o hb e => ?_) hS
    apply kp b o _ (Heap.get?_push_of_some _ (Heap.get?_push_of_some _ e))
    simp only [List.mem_cons, List.not_mem_nil, or_false, not_or]
    exact ⟨Nat.ne_of_lt hb, by rw [hz]; exact Nat.ne_of_lt (Nat.lt_succ_of_lt hb)⟩
theorem fill_str {x : Str} {u : Tok} (asc : x.cps.all (· < 128) = true) (few : x.length + 1 < scanBound) : Fills prog w s (.str x u) (dd (x.cps.toList.map fun c => ⟨#[c]⟩)) := by
  intro B E' Q' hB h
  have e1 := PySem.F.sub_str_set
  have e2 := PySem.F.sub_str_frozenset
  have e3 : (Value.type "str" == Value.type "dict") = false := by decide
  unfold Builtin.Frozenset.updateFrom
  generalize hP : pyIter = G
  wp_walk
  subst hP
  apply wpAny_pyIter_ascii asc
  apply wpAny_bind
  apply wpAny_runValue
  have hz : (s.heap.push (sObj "set" (freshD w))).objs.size = s.heap.objs.size + 1 := Heap.size_push ..
  have len : (x.cps.toList.map fun c => (⟨#[c]⟩ : Str)).length = x.cps.size := by simp
  apply loopW (Walks.strAscii (by simp [hB]) _ x u) s.heap.objs.size ?n1 _ len few ?n2 x.cps.size 0 _ (Nat.zero_add _) ⟨_, Heap.get?_push_size _ rfl, rfl, rfl⟩ ?n3 ?n4
  case n1 =>
    simp only [List.mem_cons, List.not_mem_nil, or_false]
    rw [hz]
    exact Nat.ne_of_lt (Nat.lt_succ_self _)
  case n2 =>
    rintro i v ⟨c, t, ec, rfl⟩
    exact ⟨_, t, by rw [List.getElem?_map, Array.getElem?_toList, ec]; rfl, rfl⟩
  case n3 => exact ⟨_, Heap.get?_push_of_some _ (Heap.get?_push_size _ rfl), pay_fresh _ _⟩
  case n4 =>
    intro h' tk kp hS
    apply wpAny_pure
    apply h h' tk (fun b o hb e => ?_) hS
    apply kp b o _ (Heap.get?_push_of_some _ (Heap.get?_push_of_some _ e))
    simp only [List.mem_cons, List.not_mem_nil, or_false, not_or]
    exact ⟨Nat.ne_of_lt hb, by rw [hz]; exact Nat.ne_of_lt (Nat.lt_succ_of_lt hb)⟩
end
end Sf

namespace Sf
open PySem PySem.Spec PyProof.Rows L2
open PySem.Froz (SD sObj TxOk)
/-! ### the set in the heap that the readings see -/
def SetSO (P : Program) (w : World) (a : Addr) (l : List Str) : HO := .ext fun h => SetS P w h a l
theorem setSO_new {P : Program} {w : World} {H : Hp} {h : Heap} {a : Addr} {l : List Str} (R : SetS P w h a l) : ObjOk P w H h a (SetSO P w a l) := by
  obtain ⟨D, ho, F⟩ := id R
  exact ⟨R, ⟨_, ho⟩, fun h1 h2 p k => let ⟨D, ho, F⟩ := p; ⟨D, k _ ho, F⟩⟩
def signs1 (x : Str) : List Str := x.cps.toList.map fun c => ⟨#[c]⟩
section
variable {X : Cx}
/-- set(texts), set(text) -/
def rSetOf (X : Cx) : List V → Hp → VK → Prop := fun vs H Q => ∃ l, ((∃ p xs, vs = [.ref p] ∧ SqL X.K H p (xs.map V.str) ∧ xs.length ≤ 4000 ∧ l = dd xs) ∨ (∃ x : Str, vs = [.str x] ∧ (∀ c ∈ x.cps.toList, c < 128) ∧ x.length ≤ 4000 ∧ l = dd (signs1 x))) ∧
  ∀ p, H p = none → Q (.ref p) (upd H p (SetSO X.prog X.w p l))
theorem few4 {n : Nat} (h : n ≤ 4000) : n + 1 < scanBound := Nat.lt_of_le_of_lt (Nat.succ_le_succ h) (by decide)
theorem cr_setOf (hc : X.calm = true) : CallR X (.type "set") (rSetOf X) := by
  intro pins s σ H vs us Q I r h
  obtain ⟨l, h, q⟩ := h
  have fin : ∀ (u : Value), Fills X.prog X.w s u l → wpAny (model X.prog X.w) X.A (call (.type "set") [u]) (EP X pins σ Q) X.xe s := fun u f => by
    apply call_set1 (I.ok.hd hc) f
    intro h' tk kp hS
    exact ⟨.ref _, _, I.laid (t' := tk) (fun b o e => kp b o (Heap.lt_size e) e) (Nat.le_refl _) (setSO_new hS), rfl, q _ (I.hok.fresh (Nat.le_refl _))⟩
  rcases h with ⟨p, xs, rfl, hs, few, rfl⟩ | ⟨x, rfl, asc, few, rfl⟩
  · obtain ⟨its, rv, hl, _⟩ := I.list hs
    obtain ⟨u, rfl, rx⟩ := vals1 r
    cases rx
    exact fin _ (fill_list hl.isList rv.strs (few4 few))
  · obtain ⟨u, rfl, t, rfl⟩ := vals1 r
    refine fin _ (fill_str ?_ (few4 few))
    rw [← Array.all_toList, List.all_eq_true]
    exact fun c hc => decide_eq_true (asc c hc)
/-- sorted(a set of texts) -/
def rSortSet (X : Cx) : List V → Hp → VK → Prop := fun vs H Q => ∃ a l, vs = [.ref a] ∧ H a = some (SetSO X.prog X.w a l) ∧ l.length < 64 ∧ ∀ (ys : List Str) p, ys.Perm l → sortedS ys = true → H p = none → Q (.ref p) (upd H p (.lst (ys.map V.str)))
theorem strs_keys {w : World} : ∀ {es : List (Int × Value)}, (∀ e ∈ es, ∃ k, SEnt w e k) → ∃ ks, StrsAre (es.map (·.2)) ks ∧ ∀ k, k ∈ ks ↔ ∃ e ∈ es, Value.isStrOf k e.2 = true
  | [], _ => ⟨[], .nil, fun k => by simp⟩
  | e :: es, h => by
    obtain ⟨ks, h1, h2⟩ := strs_keys fun x hx => h x (List.mem_cons_of_mem _ hx)
    obtain ⟨k, u, rfl⟩ := h e List.mem_cons_self
    refine ⟨k :: ks, .cons k u h1, fun j => ?_⟩
    rw [List.mem_cons, h2]
    constructor
    · rintro (rfl | ⟨e, he, z⟩)
      · exact ⟨_, List.mem_cons_self, by simp [Value.isStrOf]⟩
      · exact ⟨e, List.mem_cons_of_mem _ he, z⟩
    · rintro ⟨e, he, z⟩
      rcases List.mem_cons.mp he with rfl | he
      · left
        have : (k == j) = true := z
        exact (beq_iff_eq.mp this).symm
      · exact .inr ⟨e, he, z⟩
theorem strs_perm {vs ws : List Value} (p : vs.Perm ws) : ∀ {ks : List Str}, StrsAre ws ks → ∃ js, StrsAre vs js ∧ js.Perm ks := by
  induction p with
  | nil => intro ks h; exact ⟨ks, h, List.Perm.refl _⟩
  | cons x _ ih =>
    intro ks h
    cases h with
    | cons k t hr =>
      obtain ⟨js, h1, h2⟩ := ih hr
      exact ⟨_, .cons k t h1, h2.cons k⟩
  | swap x y l =>
    intro ks h
    cases h with
    | cons k t hr =>
      cases hr with
      | cons j u hr => exact ⟨_, .cons j u (.cons k t hr), List.Perm.swap k j _⟩
  | trans _ _ ih1 ih2 =>
    intro ks h
    obtain ⟨js, h1, h2⟩ := ih2 h
    obtain ⟨is, h3, h4⟩ := ih1 h1
    exact ⟨is, h3, h4.trans h2⟩
theorem perm_by : ∀ {l ks : List Str}, l.Nodup → (∀ x ∈ l, x ∈ ks) → ks.length = l.length → ks.Perm l
  | [], ks, _, _, e => by rw [List.eq_nil_of_length_eq_zero e]
  | x :: r, ks, nd, h, e => by
    obtain ⟨n1, n2⟩ := List.nodup_cons.mp nd
    have mx := h x List.mem_cons_self
    have p := List.perm_cons_erase mx
    have pl := p.length_eq
    rw [List.length_cons] at pl e
    refine p.trans ((perm_by n2 (fun y hy => ?_) (by omega)).cons x)
    have ne : y ≠ x := fun z => n1 (by rw [← z]; exact hy)
    exact (List.mem_erase_of_ne ne).mpr (h y (List.mem_cons_of_mem _ hy))
theorem cr_sortSet (hc : X.calm = true) : CallR X (.builtin "sorted") (rSortSet X) := by
  intro pins s σ H vs us Q I r h
  obtain ⟨a, l, rfl, ha, h64, q⟩ := h
  obtain ⟨D, ho, F⟩ := (I.hok a _ ha).1
  rw [Vals.ref1 r]
  obtain ⟨es, ep, t⟩ := D
  have size : es.size = l.length := F.tx.sz
  obtain ⟨ks, k1, k2⟩ := strs_keys F.ent
  have kl : ks.length = l.length := by rw [← size, ← Array.length_toList, ← List.length_map (f := fun e : Int × Value => e.2), StrsAre.len_eq k1]
  have kp : ks.Perm l := perm_by F.nd (fun x hx => (k2 x).mpr ((F.tx.mem x).mp hx)) kl
  apply Calls.call_function_entry kind_sorted plain_sorted entry_sorted (args_sorted1 _)
  unfold Builtin.«sorted»
  apply wpAny_bind (m := checkCount "sorted" 1 1 _)
  apply wpAny_pure
  apply wpAny_bind
  have few : es.size < scanBound := by rw [size]; exact Nat.lt_trans h64 (by decide)
  apply collect_set (A := X.A.in1) (I.ok.hd hc) ⟨_, ho, rfl, rfl⟩ F.tx.fit few F.ris F.led
  intro s1 out keep big g1 o1 pm
  obtain ⟨js, j1, j2⟩ := strs_perm pm k1
  have ol : out.length = l.length := by rw [pm.length_eq, List.length_map, Array.length_toList, size]
  apply wpAny_bind
  apply wpAny_newList ?_ (by rw [ol, sizeLine_eq]; omega)
  have here : (s1.heap.push (seqObj "list" out.toArray 0)).get? s1.heap.objs.size = some (seqObj "list" out.toArray 0) := Heap.get?_push_size _ rfl
  apply wpAny_bind
  apply wpAny_holding
  have ty : Shared.TypeIs { s1 with heap := s1.heap.push (seqObj "list" out.toArray 0) } (.ref s1.heap.objs.size) "list" := ⟨_, here, rfl⟩
  refine wpAny_call_entry slot_list_sort ty entry_list_sort ?_ (args_list_sort _)
  apply list_sort_treeK strKind_oneLt here j1.keysOf (fun v₁ v₂ rest e => keyKind_strs (by rw [← e]; exact j1)) (by rw [ol]; exact h64)
  intro st a1 a2
  obtain ⟨ys, y1, y2, y3⟩ := sorted_out_str j1 a1 a2
  refine ⟨_, rfl, wpAny_pure ⟨_, rfl, ?_⟩⟩
  obtain ⟨c, hc2⟩ := sortedHeap_at (vs := out) (out := (arrOf st).map (·.2)) here
  have free : H s1.heap.objs.size = none := I.hok.fresh big
  have ylen : (ys.map V.str).length ≤ sizeLine := by
    rw [List.length_map, y2.length_eq, j2.length_eq, kl, sizeLine_eq]
    omega
  have kk : ∀ b o, s.heap.get? b = some o → (sortedHeap (s1.heap.push (seqObj "list" out.toArray 0)) s1.heap.objs.size out ((arrOf st).map (·.2))).get? b = some o := fun b o e => by
    have k1 := keep b o e
    have lt := Heap.lt_size k1
    rw [sortedHeap_old (Nat.ne_of_lt lt) (by rw [size_push']; exact Nat.lt_succ_of_lt lt)]
    exact Heap.get?_push_of_some _ k1
  have J : Inv X pins σ (upd H s1.heap.objs.size (.lst (ys.map V.str))) { s with heap := sortedHeap (s1.heap.push (seqObj "list" out.toArray 0)) s1.heap.objs.size out ((arrOf st).map (·.2)), gens := s1.gens, drawn := s1.drawn, toks := s1.toks } :=
    I.call (ch := []) (Un.laid kk big free) (I.hok.laid kk big ⟨ylen, _, c, vals_of_strs y1, hc2⟩) (by rw [g1]; exact I.bare) (fun _ z => nomatch z)
  have es1 : ({ s1 with heap := sortedHeap (s1.heap.push (seqObj "list" out.toArray 0)) s1.heap.objs.size out ((arrOf st).map (·.2)) } : Shared) = { s with heap := sortedHeap (s1.heap.push (seqObj "list" out.toArray 0)) s1.heap.objs.size out ((arrOf st).map (·.2)), gens := s1.gens, drawn := s1.drawn, toks := s1.toks } := by
    cases s1
    cases s
    cases o1
    rfl
  rw [es1]
  exact ⟨.ref _, _, J, rfl, q ys _ (y2.trans (j2.trans kp)) y3 free⟩
end
end Sf

namespace Sf
open PySem PySem.Spec PyProof.Rows L2
/-! ### len of an own object -/
section
variable {X : Cx} {k : Nat} {f C : Addr} {fd : FuncData} {ps : List Str} {sp : Sp}
def rLenO (C : Addr) (sp : Sp) : List V → Hp → VK → Prop := fun xs H Q => ∃ a dx fs, xs = [.ref a] ∧ H a = some (.ins C dx fs) ∧ sp [.ref a] H (fun v H' => ∃ n : Nat, v = .int n ∧ n < 4611686018427387904 ∧ Q (.int n) H') E0
theorem call_lenO (F : FnOk X.prog X.w X.K X.mg X.base CX0 k f fd ps sp) (hr : Room (k + 1) X.A) (hl : PySem.W.findIn X.K (.ref C) "__len__" = some (some (.ref f))) (hf : PySem.W.isFn X.K (.ref f) = true) (hb : Binds X.K fd ps []) :
    CallR X (.builtin "len") (rLenO C sp) := by
  intro pins s σ H xs us Q I r h
  obtain ⟨a, dx, fs, rfl, ha, hq⟩ := h
  rw [Vals.ref1 r]
  obtain ⟨mA, O, _⟩ := ins_get I.hok ha
  obtain ⟨od, J, _⟩ := O.look
  apply Calls.call_function_entry kind_len plain_len entry_len (args_len1 _)
  unfold Builtin.«len»
  apply wpAny_bind (m := oneArg "len" _)
  apply wpAny_pure
  apply wpAny_bind
  apply PySem.W.special_fn (name := "__len__") (args := []) I.kIn J hl (beq_iff_eq.mp hf)
  apply wpAny_call
  have ln := F.len _ _ _ _ hq
  have b := hb s [.ref a] I.kIn (by rw [List.append_nil]; exact ln)
  rw [List.append_nil] at b
  apply codeAny_mono (F.run X.A.in1 X.stack s H ⟨[.ref a], []⟩ [.ref a] [.ref a] _ E0 hr.in1 I.env0.in1 b (.cons rfl .nil) hq)
  intro r s' z
  cases r with
  | error e => exact False.elim z
  | ok fl =>
    cases fl with
    | ret u =>
      obtain ⟨v, H', I3, rv, n, rfl, hn, q3⟩ := I.after z
      obtain ⟨t, rfl⟩ := rv
      apply wpAny_bind
      apply wpAny_holding
      apply wpAny_pure
      apply wpAny_bind
      apply wpAny_letGo
      show wpAny _ _ (if ((n : Nat) : Int) < 0 then _ else _) _ _ _
      rw [if_neg (by omega)]
      show wpAny _ _ (if ((n : Nat) : Int) ≥ 2 ^ 63 then _ else _) _ _ _
      rw [if_neg (by omega)]
      exact wpAny_bind (wpAny_mkInt (wpAny_pure ⟨_, rfl, ⟨.int n, H', I3.tok _, ⟨_, rfl⟩, q3⟩⟩))
    | next => exact z.elim
    | brk => exact z.elim
    | cont => exact z.elim
end
end Sf

namespace Sf
open PySem PySem.Spec PyProof.Rows L2
/-! ### what has come to stand: a part of the heap that no one changes any more -/
/-- from (G, H) to (G', H'): G and G' are what is settled, M may be changed -/
structure Ext (M : Addr → Prop) (G H G' H' : Hp) : Prop where
  gg : Same G G'
  gh : Same G' H'
  no : ∀ b o, H b = some o → G b = none → G' b = none
  fr : ∀ b o, ¬ M b → H b = some o → H' b = some o
  th : ∀ b o, H b = some o → ∃ o', H' b = some o'
def noM : Addr → Prop := fun _ => False
section
variable {M M' : Addr → Prop} {G H G' H' G2 H2 : Hp} {a l p : Addr} {o u : HO}
theorem Ext.refl (s : Same G H) : Ext M G H G H := ⟨Same.refl _, s, fun _ _ _ h => h, fun _ _ _ h => h, fun _ o h => ⟨o, h⟩⟩
theorem Ext.trans (x : Ext M G H G' H') (y : Ext M G' H' G2 H2) : Ext M G H G2 H2 where
  gg := x.gg.trans y.gg
  gh := y.gh
  no := fun b o h n => let ⟨o', h'⟩ := x.th b o h; y.no b o' h' (x.no b o h n)
  fr := fun b o m h => y.fr b o m (x.fr b o m h)
  th := fun b o h => let ⟨o', h'⟩ := x.th b o h; y.th b o' h'
theorem Ext.mono (x : Ext M G H G' H') (h : ∀ b, M b → M' b) : Ext M' G H G' H' := ⟨x.gg, x.gh, x.no, fun b o m e => x.fr b o (fun z => m (h b z)) e, x.th⟩
theorem Ext.any (x : Ext noM G H G' H') : Ext M G H G' H' := x.mono fun _ z => z.elim
theorem Ext.same (x : Ext M G H G' H') (s : Same H' H2) : Ext M G H G' H2 := ⟨x.gg, x.gh.trans s, x.no, fun b o m e => s b o (x.fr b o m e), fun b o h => let ⟨o', h'⟩ := x.th b o h; ⟨o', s b o' h'⟩⟩
/-- a new object that stays as it is -/
theorem Ext.new (x : Ext M G H G' H') (f : H' p = none) : Ext M G H (upd G' p o) (upd H' p o) where
  gg := same_new x.gg (same_none x.gh f)
  gh := fun b v h => by
    by_cases e : b = p
    · subst e; rw [upd_same] at h ⊢; exact h
    · rw [upd_ne e] at h ⊢; exact x.gh b v h
  no := fun b v h n => by
    obtain ⟨v', h'⟩ := x.th b v h
    rw [upd_ne (ne_of_none h' f)]
    exact x.no b v h n
  fr := fun b v m h => upd_old (x.fr b v m h) f
  th := fun b v h => let ⟨v', h'⟩ := x.th b v h; ⟨v', upd_old h' f⟩
/-- a new object that may change -/
theorem Ext.newM (x : Ext M G H G' H') (f : H' p = none) : Ext M G H G' (upd H' p o) := x.same (same_new (Same.refl _) f)
/-- an own object is changed -/
theorem Ext.mut (x : Ext M G H G' H') (f : H l = none) (g : G' l = none) : Ext M G H G' (upd H' l u) where
  gg := x.gg
  gh := same_mut x.gh g
  no := x.no
  fr := fun b v m h => by rw [upd_ne (ne_of_none h f)]; exact x.fr b v m h
  th := fun b v h => let ⟨v', h'⟩ := x.th b v h; ⟨v', by rw [upd_ne (ne_of_none h f)]; exact h'⟩
/-- an object of M is changed -/
theorem Ext.mutM (x : Ext M G H G' H') (m : M l) (g : G' l = none) : Ext M G H G' (upd H' l u) where
  gg := x.gg
  gh := same_mut x.gh g
  no := x.no
  fr := fun b v n h => by rw [upd_ne (fun z : b = l => n (z ▸ m))]; exact x.fr b v n h
  th := fun b v h => by
    obtain ⟨v', h'⟩ := x.th b v h
    by_cases e : b = l
    · exact ⟨u, by rw [e]; exact upd_same⟩
    · exact ⟨v', by rw [upd_ne e]; exact h'⟩
/-- an own object is settled -/
theorem Ext.set (x : Ext M G H G' H') (f : H l = none) (g : G' l = none) (h : H' l = some o) : Ext M G H (upd G' l o) H' where
  gg := same_new x.gg g
  gh := fun b v e => by
    by_cases z : b = l
    · subst z; rw [upd_same] at e; cases e; exact h
    · rw [upd_ne z] at e; exact x.gh b v e
  no := fun b v e n => by rw [upd_ne (ne_of_none e f)]; exact x.no b v e n
  fr := x.fr
  th := x.th
/-- the sack is drawn from -/
theorem Ext.kp (x : Ext (· = a) G H G' H') (k : Kp a H' H2) (g : G' a = none) (h : ∃ o, H2 a = some o) : Ext (· = a) G H G' H2 where
  gg := x.gg
  gh := same_kp x.gh k g
  no := x.no
  fr := fun b v m e => k b v m (x.fr b v m e)
  th := fun b v e => by
    obtain ⟨v', h'⟩ := x.th b v e
    by_cases z : b = a
    · rw [z]; exact h
    · exact ⟨v', k b v' z h'⟩
/-- all that is new is settled -/
def grow (G H H' : Hp) : Hp := fun b => match H b with | none => H' b | some _ => G b
theorem grow_old (e : H p = some o) : grow G H H' p = G p := by unfold grow; rw [e]
theorem grow_new (e : H p = none) : grow G H H' p = H' p := by unfold grow; rw [e]
theorem grow_le (s : Same G H) : Same G (grow G H H') := fun b v e => by rw [grow_old (s b v e)]; exact e
theorem grow_at (e : H p = none) (h : H' p = some o) : grow G H H' p = some o := by rw [grow_new e]; exact h
theorem Ext.kpn (x : Ext (· = a) G H G' H') (k : Kp a H' H2) (g : G' a = none) (h : ∃ o, H2 a = some o) (ha : ∃ o, H' a = some o) : Ext (· = a) G H (grow G' H' H2) H2 where
  gg := x.gg.trans (grow_le x.gh)
  gh := fun b v e => by
    cases q : H' b with
    | none => rw [grow_new q] at e; exact e
    | some v' => rw [grow_old q] at e; exact same_kp x.gh k g b v e
  no := fun b v e n => by
    obtain ⟨v', h'⟩ := x.th b v e
    rw [grow_old h']
    exact x.no b v e n
  fr := (x.kp k g h).fr
  th := (x.kp k g h).th
theorem Ext.sk {n : Nat} (x : Ext (· = a) G H G' H') (k : Sk n H a) (g : G a = none) : G' a = none := let ⟨_, h⟩ := k.at; x.no a _ h g
theorem Ext.at (x : Ext M G H G' H') (m : ¬ M p) (h : H p = some o) : H' p = some o := x.fr p o m h
theorem Ext.free (x : Ext M G H G' H') (h : H' p = none) : H p = none := by
  cases q : H p with
  | none => rfl
  | some v => obtain ⟨v', h'⟩ := x.th p v q; rw [h'] at h; cases h
end
theorem free_old' {H : Hp} {d p : Addr} {u : HO} (h : upd H p u d = none) : H d = none ∧ d ≠ p := free_old h
theorem Ext.grown {M : Addr → Prop} {G H G' H' H2 : Hp} (x : Ext M G H G' H') (s : Same H' H2) : Ext M G H (grow G' H' H2) H2 where
  gg := x.gg.trans (grow_le x.gh)
  gh := fun b v e => by
    cases q : H' b with
    | none => rw [grow_new q] at e; exact e
    | some v' => rw [grow_old q] at e; exact s _ _ (x.gh b v e)
  no := fun b v e n => by
    obtain ⟨v', h'⟩ := x.th b v e
    rw [grow_old h']
    exact x.no b v e n
  fr := (x.same s).fr
  th := (x.same s).th
theorem rd_ins {H : Hp} {g C dx : Addr} {fs : List (Str × V)} {xs : List V} (h : Rd H g (.lst xs)) (e : H g = some (.ins C dx fs)) : False := by
  rcases h with h | ⟨o, h⟩
  · rw [e] at h; cases h
  · rw [e] at h; cases h
theorem rd_mono {G H : Hp} {g : Addr} {u : HO} (h : Rd G g u) (s : Same G H) : Rd H g u := h.elim (fun e => .inl (s _ _ e)) fun ⟨o, e⟩ => .inr ⟨o, s _ _ e⟩
theorem rd_kp {G H : Hp} {g a : Addr} {u : HO} (h : Rd G g u) (k : Kp a G H) (n : g ≠ a) : Rd H g u := h.elim (fun e => .inl (k _ _ n e)) fun ⟨o, e⟩ => .inr ⟨o, k _ _ n e⟩
theorem rd_ne {H : Hp} {g m : Addr} {u : HO} (h : Rd H g u) (e : H m = none) : g ≠ m := h.elim (fun z => ne_of_none z e) fun ⟨_, z⟩ => ne_of_none z e
/-! ### strips and rules, as they stand -/
abbrev Js := List (Addr × List Str)
def JsAt (K : PySem.W.Frag) (H : Hp) (js : Js) : Prop := ∀ j ∈ js, SqT K H j.1 (j.2.map V.str)
def refs (js : Js) : List V := js.map fun j => V.ref j.1
/-- the rules, as data -/
def jDat (js : Js) : PyData := .list (js.map fun j => .tuple (j.2.map .str))
def wDat (ws : List Str) : PyData := .list (ws.map .str)
theorem JsAt.mono {K : PySem.W.Frag} {G H : Hp} {js : Js} (h : JsAt K G js) (s : Same G H) : JsAt K H js := fun j hj => sameT s (h j hj)
theorem JsAt.nil {K : PySem.W.Frag} {H : Hp} : JsAt K H [] := fun _ h => nomatch h
theorem JsAt.append {K : PySem.W.Frag} {H : Hp} {is js : Js} (a : JsAt K H is) (b : JsAt K H js) : JsAt K H (is ++ js) := fun j h => (List.mem_append.mp h).elim (a j) (b j)
theorem JsAt.sub {K : PySem.W.Frag} {H : Hp} {is js : Js} (b : JsAt K H js) (h : ∀ j ∈ is, j ∈ js) : JsAt K H is := fun j hj => b j (h j hj)
theorem JsAt.dp {K : PySem.W.Frag} {H : Hp} : ∀ {js : Js}, JsAt K H js → DpAll K H (refs js) (js.map fun j => .tuple (j.2.map .str))
  | [], _ => .nil
  | j :: js, h => .cons (.tup (h j List.mem_cons_self) (DpAll.strs _)) (JsAt.dp fun i hi => h i (List.mem_cons_of_mem _ hi))
theorem dp_w {K : PySem.W.Frag} {H : Hp} {p : Addr} {ws : List Str} (h : SqL K H p (ws.map V.str)) : Dp K H (.ref p) (wDat ws) := .lst h (DpAll.strs ws)
theorem dp_j {K : PySem.W.Frag} {H : Hp} {p : Addr} {js : Js} (h : SqL K H p (refs js)) (a : JsAt K H js) : Dp K H (.ref p) (jDat js) := .lst h a.dp
/-- the four pieces of a right rule -/
structure Jn (xs : List Str) : Prop where
  n4 : xs.length = 4
  wd : ∀ x ∈ xs, Wd 10 x
  l0 : 1 ≤ (xs.getD 0 "").length
  l3 : 1 ≤ (xs.getD 3 "").length
/-- right strips, right rules -/
structure Rt (n : Nat) (ws : List Str) (js : Js) : Prop where
  wn : ws.length ≤ n
  wd : ∀ x ∈ ws, Wd 40 x ∧ 1 ≤ x.length
  jn : js.length ≤ n
  jd : ∀ j ∈ js, Jn j.2
/-- the pair at p: the strips at r, the rules at g -/
structure PlAt (K : PySem.W.Frag) (H : Hp) (p r g : Addr) (ws : List Str) (js : Js) : Prop where
  p : SqT K H p [.ref r, .ref g]
  r0 : H r = some (.lst (ws.map V.str))
  g0 : H g = some (.lst (refs js))
  j : JsAt K H js
theorem PlAt.r {K : PySem.W.Frag} {H : Hp} {p r g : Addr} {ws : List Str} {js : Js} (h : PlAt K H p r g ws js) : Rd H r (.lst (ws.map V.str)) := .inl h.r0
theorem PlAt.g {K : PySem.W.Frag} {H : Hp} {p r g : Addr} {ws : List Str} {js : Js} (h : PlAt K H p r g ws js) : Rd H g (.lst (refs js)) := .inl h.g0
theorem PlAt.mono {K : PySem.W.Frag} {G H : Hp} {p r g : Addr} {ws : List Str} {js : Js} (h : PlAt K G p r g ws js) (s : Same G H) : PlAt K H p r g ws js := ⟨sameT s h.p, s _ _ h.r0, s _ _ h.g0, h.j.mono s⟩
theorem Rt.films {n : Nat} {ws : List Str} {js : Js} (h : Rt n ws js) : ∀ x ∈ ws, filmFt x = none := fun x hx => by
  obtain ⟨a, b⟩ := h.wd x hx
  unfold filmFt
  have : eS x = false := by
    cases q : eS x with
    | false => rfl
    | true => have := eS_iff.mp q; omega
  rw [this, a.pl]; rfl
theorem Jn.ft {xs : List Str} (h : Jn xs) : ruleFt xs = none := by
  unfold ruleFt
  rw [if_pos h.n4]
  have : xs.find? (fun p => !plain p) = none := List.find?_eq_none.mpr fun x hx => by rw [(h.wd x hx).pl]; decide
  rw [this]
  have e0 : eS (xs.getD 0 "") = false := by
    cases q : eS (xs.getD 0 "") with
    | false => rfl
    | true => have := eS_iff.mp q; have := h.l0; omega
  have e3 : eS (xs.getD 3 "") = false := by
    cases q : eS (xs.getD 3 "") with
    | false => rfl
    | true => have := eS_iff.mp q; have := h.l3; omega
  show (if eS (xs.getD 0 "") || eS (xs.getD 3 "") then _ else _) = _
  rw [e0, e3]; rfl
theorem Rt.box {n : Nat} {ws : List Str} {js : Js} (h : Rt n ws js) : boxFt ws js = none := by
  unfold boxFt
  have a : ws.findSome? filmFt = none := List.findSome?_eq_none_iff.mpr h.films
  have b : (js.findSome? fun j => (ruleFt j.2).map fun f => (j.1, j.2, f)) = none := List.findSome?_eq_none_iff.mpr fun j hj => by rw [(h.jd j hj).ft]; rfl
  rw [a, b]
theorem Rt.txs {n : Nat} {ws : List Str} {js : Js} (h : Rt n ws js) : ∀ x ∈ ws, Tx 5000 x := fun x hx => (h.wd x hx).1.tx.mono (by decide)
theorem Jn.txs {xs : List Str} (h : Jn xs) : ∀ x ∈ xs, Tx 5000 x := fun x hx => (h.wd x hx).tx.mono (by decide)
end Sf

namespace Sf
open PySem PySem.Spec PyProof.Rows L2
/-! ### the unlike pictures of a text, ascending -/
def Pics (whole x : Str) : Prop := ∃ ys : List Str, ys.Perm (dd (signs1 whole)) ∧ sortedS ys = true ∧ x = Txt.join "" ys
theorem nat_sorted_one : ∀ {a b : List Nat}, a.Perm b → a.Pairwise (· ≤ ·) → b.Pairwise (· ≤ ·) → a = b
  | [], b, p, _, _ => (List.nil_perm.mp p).symm
  | x :: a, [], p, _, _ => (List.perm_nil.mp p)
  | x :: a, y :: b, p, ha, hb => by
    have e : x = y := by
      have hx : x ∈ y :: b := p.mem_iff.mp List.mem_cons_self
      have hy : y ∈ x :: a := p.mem_iff.mpr List.mem_cons_self
      rcases List.mem_cons.mp hx with h | h
      · exact h
      · rcases List.mem_cons.mp hy with h2 | h2
        · exact h2.symm
        · exact Nat.le_antisymm (List.rel_of_pairwise_cons ha h2) (List.rel_of_pairwise_cons hb h)
    subst e
    rw [nat_sorted_one (List.Perm.cons_inv p) (List.pairwise_cons.mp ha).2 (List.pairwise_cons.mp hb).2]
theorem lt_one (c d : Nat) : ltCps [c] [d] = decide (c < d) := by
  unfold ltCps
  by_cases h : c < d
  · simp [h]
  · by_cases h2 : d < c
    · simp [h, h2]
      intro e; omega
    · have : c = d := by omega
      subst this
      simp [ltCps]
theorem rising_one : ∀ (l : List Nat) (c : Nat), risingS ⟨#[c]⟩ (l.map fun c => (⟨#[c]⟩ : Str)) = true → (c :: l).Pairwise (· ≤ ·)
  | [], c, _ => by simp
  | d :: l, c, h => by
    rw [List.map_cons] at h
    unfold risingS at h
    rw [Bool.and_eq_true] at h
    obtain ⟨h1, h2⟩ := h
    have h1 : (!ltCps [d] [c]) = true := h1
    rw [lt_one] at h1
    have hcd : c ≤ d := by
      have : ¬ d < c := by simpa using h1
      omega
    have r := rising_one l d h2
    refine List.pairwise_cons.mpr ⟨fun e he => ?_, r⟩
    rcases List.mem_cons.mp he with z | z
    · omega
    · exact Nat.le_trans hcd (List.rel_of_pairwise_cons r z)
theorem sorted_one {l : List Nat} (h : sortedS (l.map fun c => (⟨#[c]⟩ : Str)) = true) : l.Pairwise (· ≤ ·) := by
  cases l with
  | nil => exact List.Pairwise.nil
  | cons c l => exact rising_one l c h
theorem all_one : ∀ {ys : List Str}, (∀ y ∈ ys, ∃ c, y = ⟨#[c]⟩) → ∃ l : List Nat, ys = l.map fun c => (⟨#[c]⟩ : Str)
  | [], _ => ⟨[], rfl⟩
  | y :: ys, h => by
    obtain ⟨c, rfl⟩ := h y List.mem_cons_self
    obtain ⟨l, rfl⟩ := all_one fun z hz => h z (List.mem_cons_of_mem _ hz)
    exact ⟨c :: l, rfl⟩
theorem perm_one {l m : List Nat} (h : (l.map fun c => (⟨#[c]⟩ : Str)).Perm (m.map fun c => (⟨#[c]⟩ : Str))) : l.Perm m := by
  have := h.map (fun s : Str => s.cps.toList.headD 0)
  rw [List.map_map, List.map_map] at this
  have e : ((fun s : Str => s.cps.toList.headD 0) ∘ fun c => (⟨#[c]⟩ : Str)) = id := by funext c; rfl
  rw [e, List.map_id, List.map_id] at this
  exact this
theorem Pics.one {w x y : Str} (h : Pics w x) (k : Pics w y) : x = y := by
  obtain ⟨ys, p1, s1, rfl⟩ := h
  obtain ⟨zs, p2, s2, rfl⟩ := k
  have all : ∀ {ys : List Str}, ys.Perm (dd (signs1 w)) → ∀ y ∈ ys, ∃ c, y = ⟨#[c]⟩ := fun p y hy => by
    have := dd_mem.mp (p.mem_iff.mp hy)
    obtain ⟨c, _, rfl⟩ := List.mem_map.mp this
    exact ⟨c, rfl⟩
  obtain ⟨l, rfl⟩ := all_one (all p1)
  obtain ⟨m, rfl⟩ := all_one (all p2)
  rw [nat_sorted_one (perm_one (p1.trans p2.symm)) (sorted_one s1) (sorted_one s2)]
theorem nodup_len {α : Type} [DecidableEq α] : ∀ {l L : List α}, l.Nodup → (∀ x ∈ l, x ∈ L) → l.length ≤ L.length
  | [], L, _, _ => Nat.zero_le _
  | x :: l, L, n, h => by
    have hx := h x List.mem_cons_self
    obtain ⟨n1, n2⟩ := List.nodup_cons.mp n
    have r := nodup_len (l := l) (L := L.erase x) n2 fun y hy => (List.mem_erase_of_ne (fun e : y = x => n1 (e ▸ hy))).mpr (h y (List.mem_cons_of_mem _ hy))
    rw [List.length_erase_of_mem hx] at r
    have := List.length_pos_of_mem hx
    rw [List.length_cons]
    omega
theorem pics_few {w : Str} (h : plain w = true) : (dd (signs1 w)).length ≤ 26 := by
  have := nodup_len (l := dd (signs1 w)) (L := signs1 abcS) (dd_nodup _) fun x hx => by
    obtain ⟨c, hc, rfl⟩ := List.mem_map.mp (dd_mem.mp hx)
    exact List.mem_map.mpr ⟨c, plain_iff.mp h c hc, rfl⟩
  exact this
theorem Pics.wd {w x : Str} (h : Pics w x) (p : plain w = true) : Wd 26 x := by
  obtain ⟨ys, p1, s1, rfl⟩ := h
  have l := p1.length_eq
  have f := pics_few p
  exact (wd_join fun y hy => by
    obtain ⟨c, hc, rfl⟩ := List.mem_map.mp (dd_mem.mp (p1.mem_iff.mp hy))
    exact ⟨c, plain_iff.mp p c hc, rfl⟩).1.mono (by omega)
theorem upd_swap {H : Hp} {a b : Addr} {o u : HO} (h : a ≠ b) : upd (upd H b o) a u = upd (upd H a u) b o := by
  funext c; unfold upd
  by_cases h1 : c = a
  · subst h1; rw [if_pos rfl, if_neg h, if_pos rfl]
  · rw [if_neg h1]
    split
    · rfl
    · rfl
theorem small_lt {n : Nat} (h : n ≤ 100000) : n < sizeLine := Nat.lt_of_le_of_lt h (by rw [sizeLine_eq]; decide)
theorem Ext.skn {G H G' H' : Hp} {a : Addr} {n : Nat} (x : Ext noM G H G' H') (h : Sk n H a) : Sk n H' a := let ⟨p, q, r, e, t⟩ := h; ⟨p, q, r, x.fr _ _ id e, t⟩
/-! ### texts put together -/
theorem len_join0 (ys : List Str) : (Txt.join "" ys).length = (ys.map (·.length)).sum := by
  rw [len_ls, ls_join0, List.length_flatten, List.map_map]
  congr 1
theorem sum_le {ys : List Str} {B : Nat} (h : ∀ y ∈ ys, y.length ≤ B) : (ys.map (·.length)).sum ≤ ys.length * B := by
  induction ys with
  | nil => exact Nat.zero_le _
  | cons y r ih =>
    have a := h y List.mem_cons_self
    have b := ih fun z hz => h z (List.mem_cons_of_mem _ hz)
    rw [List.map_cons, List.sum_cons, List.length_cons, Nat.succ_mul]
    omega
theorem join_ok {ys : List Str} {B n : Nat} (h : ∀ y ∈ ys, y.length ≤ B) (l : ys.length ≤ n) (z : n * B ≤ 16777216) : (ys.map (·.length)).sum + ys.length * (("" : String) : Str).length ≤ 16777216 := by
  have a := sum_le h
  have b : ys.length * B ≤ n * B := Nat.mul_le_mul_right _ l
  have e : (("" : String) : Str).length = 0 := rfl
  rw [e, Nat.mul_zero]
  omega
theorem plain_join {ys : List Str} (h : ∀ y ∈ ys, plain y = true) : plain (Txt.join "" ys) = true := by
  rw [plain_iff, ls_join0]
  intro c hc
  obtain ⟨l, hl, h2⟩ := List.mem_flatten.mp hc
  obtain ⟨y, hy, rfl⟩ := List.mem_map.mp hl
  exact plain_iff.mp (h y hy) c h2
theorem wd_joins {ys : List Str} {B n : Nat} (h : ∀ y ∈ ys, Wd B y) (l : ys.length ≤ n) : Wd (n * B) (Txt.join "" ys) := by
  refine ⟨?_, plain_join fun y hy => (h y hy).pl⟩
  rw [len_join0]
  exact Nat.le_trans (sum_le fun y hy => (h y hy).len) (Nat.mul_le_mul_right _ l)
/-- the pieces of each rule, put together -/
def jTexts (js : Js) : List Str := js.map fun j => Txt.join "" j.2
/-- all signs of strips and rules -/
def wholeT (ws : List Str) (js : Js) : Str := Txt.join "" (ws ++ jTexts js)
theorem whole_two (ws : List Str) (js : Js) : Txt.join "" ws ++ Txt.join "" (jTexts js) = wholeT ws js := by
  apply ext_ls
  unfold wholeT
  rw [ls_append, ls_join0, ls_join0, ls_join0, List.map_append, List.flatten_append]
theorem Rt.mono {n k : Nat} {ws : List Str} {js : Js} (h : Rt n ws js) (l : n ≤ k) : Rt k ws js := ⟨Nat.le_trans h.wn l, h.wd, Nat.le_trans h.jn l, h.jd⟩
theorem Rt.rev {n : Nat} {ws : List Str} {js : Js} (h : Rt n ws js) : Rt n ws.reverse js := ⟨by rw [List.length_reverse]; exact h.wn, fun x hx => h.wd x (List.mem_reverse.mp hx), h.jn, h.jd⟩
theorem Rt.jt {n : Nat} {ws : List Str} {js : Js} (h : Rt n ws js) : ∀ x ∈ jTexts js, Wd 40 x := fun x hx => by
  obtain ⟨j, hj, rfl⟩ := List.mem_map.mp hx
  have q := h.jd j hj
  exact wd_joins (n := 4) (B := 10) q.wd (Nat.le_of_eq q.n4)
theorem Rt.whole {n : Nat} {ws : List Str} {js : Js} (h : Rt n ws js) : Wd (n * 80) (wholeT ws js) := by
  have a := wd_joins (n := ws.length + js.length) (B := 40) (ys := ws ++ jTexts js) (fun y hy => by
    rcases List.mem_append.mp hy with z | z
    · exact (h.wd y z).1
    · exact h.jt y z) (by rw [List.length_append]; exact Nat.le_of_eq (congrArg _ (List.length_map ..)))
  refine a.mono ?_
  have := h.wn
  have := h.jn
  omega
theorem Wd.ascii {n : Nat} {x : Str} (h : Wd n x) : ∀ c ∈ x.cps.toList, c < 128 := fun c hc => by
  have : ∀ c ∈ abcS.cps.toList, c < 128 := by decide
  exact this c (plain_iff.mp h.pl c hc)
/-! ### what is shown -/
theorem sz_w {n m B : Nat} {ws : List Str} (h : ∀ x ∈ ws, Tx B x) (l : ws.length ≤ m) (z : m * (10 * B + 4) + 2 ≤ n) : Sz 1 n (wDat ws) := by
  have a : SzAll 0 (ws.length * (10 * B + 2 + 2)) (ws.map PyData.str) := by
    have := SzAll.of (k := 0) (n := 10 * B + 2) (ds := ws.map PyData.str) fun d hd => by
      obtain ⟨x, hx, rfl⟩ := List.mem_map.mp hd
      exact (h x hx).sz
    rw [List.length_map] at this
    exact this
  exact (Sz.list a).mono (Nat.le_refl _) (Nat.le_trans (Nat.add_le_add_right (Nat.mul_le_mul_right _ l) 2) z)
theorem sz_tup4 {xs : List Str} (h : ∀ x ∈ xs, Tx 10 x) (l : xs.length = 4) : Sz 1 420 (.tuple (xs.map .str)) := by
  have a : SzAll 0 (xs.length * (102 + 2)) (xs.map PyData.str) := by
    have := SzAll.of (k := 0) (n := 102) (ds := xs.map PyData.str) fun d hd => by
      obtain ⟨x, hx, rfl⟩ := List.mem_map.mp hd
      exact (h x hx).sz
    rw [List.length_map] at this
    exact this
  rw [l] at a
  exact Sz.tuple a
theorem sz_j {n m : Nat} {js : Js} (h : ∀ j ∈ js, Jn j.2) (l : js.length ≤ m) (z : m * 422 + 2 ≤ n) : Sz 2 n (jDat js) := by
  have a : SzAll 1 (js.length * (420 + 2)) (js.map fun j => PyData.tuple (j.2.map .str)) := by
    have := SzAll.of (k := 1) (n := 420) (ds := js.map fun j => PyData.tuple (j.2.map .str)) fun d hd => by
      obtain ⟨j, hj, rfl⟩ := List.mem_map.mp hd
      exact sz_tup4 (fun x hx => ((h j hj).wd x hx).tx) (h j hj).n4
    rw [List.length_map] at this
    exact this
  exact (Sz.list a).mono (Nat.le_refl _) (Nat.le_trans (Nat.add_le_add_right (Nat.mul_le_mul_right _ l) 2) z)
/-! ### rules within a comprehension: their readings are told ahead -/
def rJoin (K : PySem.W.Frag) : V → List V → Hp → VK → Prop := fun x xs H Q => ∃ a p, ∃ ys : List Str, x = .str a ∧ xs = [.ref p] ∧ (SqL K H p (ys.map V.str) ∨ SqT K H p (ys.map V.str)) ∧
  (ys.map (·.length)).sum + ys.length * a.length ≤ 16777216 ∧ Q (.str (Txt.join a ys)) H
theorem pe_joinK {K : PySem.W.Frag} {X : Cx} {o e : Expr} {to te : TE} {apos pos : Pos} (ho : PE X o to) (he : PE X e te) (hK : X.K = K := by rfl) (hs : starEach [e] X.env = [(false, eval e X.env)] := by rfl)
    (hbase : attributeBase o "join" X.env (eval o X.env) = eval o X.env := by rfl) (hline : (apos.endLine == pos.line) = true := by rfl) : PE X (.Call (.Attribute o "join" apos) [e] [] pos) (tM1 (rJoin K) to te) := by
  subst hK
  exact pe_join ho he hs hbase hline
def rListOf (K : PySem.W.Frag) : List V → Hp → VK → Prop := fun xs H Q => ∃ p ys, xs = [.ref p] ∧ (SqL K H p ys ∨ SqT K H p ys) ∧ ∀ l, H l = none → Q (.ref l) (upd H l (.lst ys))
theorem call_list_ofK {K : PySem.W.Frag} {X : Cx} (hK : X.K = K := by rfl) : CallR X (.type "list") (rListOf K) := by
  subst hK
  exact call_list_of
end Sf

namespace Sf
open PySem PySem.Spec PyProof.Rows L2
/-! ### calls of own methods that may raise, by position and by keyword; + of own objects -/
section
variable {X : Cx} {CX : CXT} {k : Nat} {f C : Addr} {fd : FuncData} {ps ks : List Str} {sp : Sp} {E : L2.St → XK} {m : Str} {apos pos : Pos} {o e : Expr} {es : List Expr} {kws : List Keyword} {ta : TE} {t tk : TA} {g : List Value → List Value → List Value} {gV : List V → List V → List V}
def tMethS (C : Addr) (m : Str) (sp : Sp) (E : L2.St → XK) (ta : TE) (t : TA) : TE := fun σ H Q => ta σ H fun x H1 => ∃ a dx fs, x = .ref a ∧ H1 a = some (.ins C dx fs) ∧ fs.lookup m = none ∧ t σ H1 fun vs H2 => sp (x :: vs) H2 Q (E σ)
theorem pe_methSE {pl : Sem Bool} (he : PE X o ta) (c : Cls X.K C) (hm : Meth X.K C m f) (F : FnOk X.prog X.w X.K X.mg X.base CX k f fd ps sp) (hr : Room k X.A) (hb : Binds X.K fd ps []) (hx : ∀ σ, PassesAt CX X σ (E σ)) (ha : PA X (e :: es) t)
    (hst : starEach (e :: es) X.env = (false, eval e X.env) :: starEach es X.env := by rfl) (hpl : (backTo pos (starEach es X.env)).any (·.1) = false := by rfl)
    (ht : eval (.Call (.Attribute o m apos) (e :: es) [] pos) X.env = (do
      let ov ← eval o X.env; standAt apos.atName
      let (f, first) ← holding [ov] (getMethod ov m pl); callWith pos f first (backTo pos (starEach (e :: es) X.env)) (backToKw pos (keywordEach [] X.env))) := by rfl) :
    PE X (.Call (.Attribute o m apos) (e :: es) [] pos) (tMethS C m sp E ta t) := by
  constructor
  intro pins s σ H Q I h
  apply PySem.W.methodCall_KW (pl := pl) _ ht
  apply thn (he.run pins s σ H _ I h)
  rintro u s1 ⟨x, H1, I1, rx, a, dx, fs, rfl, ea, l, q⟩
  cases (show u = Value.ref a from rx)
  apply getmeth_ok I1 ea c hm l
  apply PySem.W.callWith_K (first := [.ref a]) (h₀ := X.base) I.ok.mod.kin hm.kp (thn (ha.run pos pins s1 σ H1 _ I1 q) ?_) hst hpl
  rintro us s2 ⟨vs, H2, I2, r, q2⟩
  refine ⟨I2.kIn, run_fnSD (us := .ref a :: us) (vs := .ref a :: vs) (dvs := []) F hr hb .nil (hx σ) I2 (.cons rfl r) ?_⟩
  rw [List.append_nil]
  exact q2
def tMethKS (C : Addr) (m : Str) (n : Nat) (sp : Sp) (gV : List V → List V → List V) (E : L2.St → XK) (ta : TE) (tk : TA) : TE := fun σ H Q => ta σ H fun x H1 => ∃ a dx fs, x = .ref a ∧ H1 a = some (.ins C dx fs) ∧ fs.lookup m = none ∧ tk σ H1 fun zs H2 => zs.length = n ∧ sp (gV [x] zs) H2 Q (E σ)
theorem pe_methKS {pl : Sem Bool} (he : PE X o ta) (c : Cls X.K C) (hm : Meth X.K C m f) (F : FnOk X.prog X.w X.K X.mg X.base CX k f fd ps sp) (hr : Room k X.A) (hb : KBn X.K fd ps 1 ks g gV) (hx : ∀ σ, PassesAt CX X σ (E σ)) (hkw : PK X kws tk)
    (hall : (backToKw pos (keywordEach kws X.env)).all (·.1.isSome) = true := by rfl) (hks : (backToKw pos (keywordEach kws X.env)).filterMap (·.1) = ks := by rfl)
    (hpl : ((backTo pos (starEach [] X.env)).any (·.1) || (backToKw pos (keywordEach kws X.env)).any (·.1.isNone)) = false := by rfl)
    (ht : eval (.Call (.Attribute o m apos) [] kws pos) X.env = (do
      let ov ← eval o X.env; standAt apos.atName
      let (f, first) ← holding [ov] (getMethod ov m pl); callWith pos f first (backTo pos (starEach [] X.env)) (backToKw pos (keywordEach kws X.env))) := by rfl) :
    PE X (.Call (.Attribute o m apos) [] kws pos) (tMethKS C m ks.length sp gV E ta tk) := by
  constructor
  intro pins s σ H Q I h
  apply PySem.W.methodCall_KW (pl := pl) _ ht
  apply thn (he.run pins s σ H _ I h)
  rintro u s1 ⟨x, H1, I1, rx, a, dx, fs, rfl, ea, l, q⟩
  cases (show u = Value.ref a from rx)
  apply getmeth_ok I1 ea c hm l
  apply PySem.W.callWith_KW0 (first := [.ref a]) (h₀ := X.base) I.ok.mod.kin hm.kp hall ?_ hpl
  apply thn (hkw.run pos pins s1 σ H1 _ I1 q)
  rintro ws s2 ⟨zs, H2, I2, rz, len, q2⟩
  refine ⟨I2.kIn, ?_⟩
  rw [hks]
  have r1 : Vals [V.ref a] [Value.ref a] := .cons rfl .nil
  have n2 : ws.length = ks.length := by rw [← rz.length]; exact len
  apply wpAny_call
  apply codeAny_mono (F.run X.A X.stack s2 H2 ⟨[.ref a], ks.zip ws⟩ _ _ Q (E σ) hr I2.env0 (hb.to s2 [.ref a] ws I2.kIn rfl n2) (hb.rel r1 rz) q2)
  intro r s' hq
  cases r with
  | error e => exact hx σ pins H2 s2 e s' I2 hq
  | ok fl =>
    cases fl with
    | ret u => exact I2.after hq
    | next => exact hq.elim
    | brk => exact hq.elim
    | cont => exact hq.elim
/-- a + b, both of one own class with its own __add__ -/
def rAddO (C : Addr) (sp : Sp) : R2 := fun x y H Q => ∃ a b dx dy fs gs, x = .ref a ∧ y = .ref b ∧ H a = some (.ins C dx fs) ∧ H b = some (.ins C dy gs) ∧ sp [.ref a, .ref b] H Q E0
theorem op_addO (F : FnOk X.prog X.w X.K X.mg X.base CX k f fd ps sp) (hr : Room k X.A) (hc : PySem.W.selfFirst X.K C = true) (hs : PySem.W.findIn X.K (.ref C) "__add__" = some (some (.ref f))) (hf : PySem.W.isFn X.K (.ref f) = true) (hb : Binds X.K fd ps []) (hx : Passes CX X E0) :
    OpR X (binaryOp .Add) (rAddO C sp) := by
  intro pins s σ H x y u v Q I rx ry h
  obtain ⟨a, b, dx, dy, fs, gs, rfl, rfl, ha, hb', q⟩ := h
  cases (show u = Value.ref a from rx)
  cases (show v = Value.ref b from ry)
  obtain ⟨mA, O, _⟩ := ins_get I.hok ha
  obtain ⟨od, J, _⟩ := O.look
  obtain ⟨mB, O2, _⟩ := ins_get I.hok hb'
  obtain ⟨od2, J2, _⟩ := O2.look
  obtain ⟨ml, Fr⟩ := I.fr
  apply PySem.W.binop_K (op := .Add) Fr I.ok.mod.kin J J2.type hc hs hf
  apply wpAny_mono (run_fn (us := [.ref a, .ref b]) (vs := [.ref a, .ref b]) (dvs := []) F hr hb .nil hx I (.cons rfl (.cons rfl .nil)) q)
  · rintro w s' ⟨z, H', I', rz, q'⟩
    cases w with
    | notImplemented => cases z <;> first | (obtain ⟨_, e⟩ := rz; cases e) | cases rz
    | _ => exact ⟨z, H', I', rz, q'⟩
  · exact fun _ _ e => e
/-- a statement that is not reached -/
theorem ps_no {st : Stmt} : PS X st (fun _ _ _ => False) := ⟨fun _ _ _ _ _ _ h => h.elim⟩
end
theorem passLs {X : Cx} : ∀ σ, PassesAt (L2.CX X.prog X.w) X σ ((fun _ => E0 : L2.St → XK) σ) := fun σ pins H s e s' I c => passL pins σ H s e s' I c
theorem pg_tupK {K : PySem.W.Frag} {X : Cx} {es : List Expr} {pos : Pos} {k : Nat} {t : TGs} {n : Nat} (hc : X.calm = true) (h : PGs X es t) (hK : X.K = K := by rfl)
    (hn : (assignEach es X.env).length = n := by rfl) (hst : (assignEach es X.env).findIdx? (·.1) = none := by rfl) : PG X (.Tuple es k pos) (gTup K n t) := by
  subst hK
  exact pg_tup hc h hn hst
theorem wish {W : XK} {A : XK → Prop} {B : Prop} (k : A W → B) (h : A W) : B := k h
/-! ### cuts of lists -/
theorem cutV_to {xs : List V} {j : Nat} (h : j ≤ xs.length) : cutV xs none (some (j : Int)) = xs.take j := by
  unfold cutV
  show ((xs.drop 0).take (HT.sIx xs.length xs.length (some (j : Int)) - 0)) = _
  rw [HT.sIx_nat, Nat.min_eq_left h]
  rfl
theorem cutV_from {xs : List V} {j : Nat} (h : j ≤ xs.length) : cutV xs (some (j : Int)) none = xs.drop j := by
  unfold cutV
  show ((xs.drop (HT.sIx xs.length 0 (some (j : Int)))).take (xs.length - HT.sIx xs.length 0 (some (j : Int)))) = _
  rw [HT.sIx_nat, Nat.min_eq_left h]
  refine List.take_of_length_le ?_
  rw [List.length_drop]
  exact Nat.le_refl _
/-- without the one at j -/
def cutO {α : Type} (xs : List α) (j : Nat) : List α := xs.take j ++ xs.drop (j + 1)
theorem cutO_map {α : Type} {xs : List α} {f : α → V} {j : Nat} (h : j < xs.length) : cutV (xs.map f) none (some (j : Int)) ++ cutV (xs.map f) (some ((j : Int) + 1)) none = (cutO xs j).map f := by
  have e : (j : Int) + 1 = ((j + 1 : Nat) : Int) := by omega
  rw [e, cutV_to (by rw [List.length_map]; omega), cutV_from (by rw [List.length_map]; omega), ← List.map_take, ← List.map_drop, ← List.map_append]
  rfl
theorem cutO_mem {α : Type} {xs : List α} {j : Nat} {x : α} (h : x ∈ cutO xs j) : x ∈ xs := by
  rcases List.mem_append.mp h with z | z
  · exact List.mem_of_mem_take z
  · exact List.mem_of_mem_drop z
theorem cutO_len {α : Type} (xs : List α) (j : Nat) : (cutO xs j).length ≤ xs.length := by
  unfold cutO
  rw [List.length_append, List.length_take, List.length_drop]
  omega
theorem cutO_snd {js : Js} (j : Nat) : (cutO js j).map (·.2) = cutO (js.map (·.2)) j := by
  unfold cutO
  rw [List.map_append, List.map_take, List.map_drop]
theorem Rt.cutW {n : Nat} {ws : List Str} {js : Js} (h : Rt n ws js) (j : Nat) : Rt n (cutO ws j) js := ⟨Nat.le_trans (cutO_len _ _) h.wn, fun x hx => h.wd x (cutO_mem hx), h.jn, h.jd⟩
theorem Rt.cutJ {n : Nat} {ws : List Str} {js : Js} (h : Rt n ws js) (j : Nat) : Rt n ws (cutO js j) := ⟨h.wn, h.wd, Nat.le_trans (cutO_len _ _) h.jn, fun x hx => h.jd x (cutO_mem hx)⟩
/-! ### strips and rules, more of them -/
/-- what a box holds, whatever is in it -/
structure Any5 (ws : List Str) (js : Js) : Prop where
  w : ∀ x ∈ ws, Tx 5000 x
  j : ∀ j ∈ js, ∀ x ∈ j.2, Tx 5000 x
  wn : ws.length ≤ 1000
  jn : js.length ≤ 1000
theorem Rt.any5 {n : Nat} {ws : List Str} {js : Js} (h : Rt n ws js) (l : n ≤ 1000) : Any5 ws js := ⟨h.txs, fun j hj => (h.jd j hj).txs, Nat.le_trans h.wn l, Nat.le_trans h.jn l⟩
theorem Rt.addW {n k : Nat} {ws : List Str} {js : Js} {x : Str} (h : Rt n ws js) (l : ws.length + 1 ≤ k) (l2 : n ≤ k) (wx : Wd 40 x) (lx : 1 ≤ x.length) : Rt k (ws ++ [x]) js := ⟨by rw [List.length_append]; exact l, fun y hy => by
  rcases List.mem_append.mp hy with z | z
  · exact h.wd y z
  · rw [List.mem_singleton.mp z]; exact ⟨wx, lx⟩, Nat.le_trans h.jn l2, h.jd⟩
theorem Rt.addJ {n k : Nat} {ws : List Str} {js : Js} {q : Addr} {xs : List Str} (h : Rt n ws js) (l : js.length + 1 ≤ k) (l2 : n ≤ k) (j : Jn xs) : Rt k ws (js ++ [(q, xs)]) := ⟨Nat.le_trans h.wn l2, h.wd, by rw [List.length_append]; exact l, fun y hy => by
  rcases List.mem_append.mp hy with z | z
  · exact h.jd y z
  · rw [List.mem_singleton.mp z]; exact j⟩
theorem Rt.app {n k : Nat} {ws ws2 : List Str} {js js2 : Js} (h : Rt n ws js) (h2 : Rt n ws2 js2) (l : ws.length + ws2.length ≤ k) (l2 : js.length + js2.length ≤ k) : Rt k (ws ++ ws2) (js ++ js2) := ⟨by rw [List.length_append]; exact l, fun y hy => by
  rcases List.mem_append.mp hy with z | z
  · exact h.wd y z
  · exact h2.wd y z, by rw [List.length_append]; exact l2, fun y hy => by
  rcases List.mem_append.mp hy with z | z
  · exact h.jd y z
  · exact h2.jd y z⟩
end Sf

namespace Sf
open PySem PySem.Spec PyProof.Rows L2
/-! ### C(..) within a try: what is raised is wished for at the caller's slots -/
section
variable {X : Cx} {CX : CXT} {k : Nat} {f C : Addr} {fd : FuncData} {ps ks : List Str} {sp : Sp} {E : L2.St → XK} {x : Str} {p pos : Pos} {e : Expr} {es : List Expr} {kws : List Keyword} {t tk : TA} {g : List Value → List Value → List Value} {gV : List V → List V → List V}
theorem made_at {pins : List (Addr × Obj)} {σ : L2.St} {H : Hp} {s : Shared} {Q : VK} {E' : XK} {us : List Value} {kv : List (Str × Value)} {bs : List Value} {zs : List V} (M : Mk X.K C f) (F : FnOk X.prog X.w X.K X.mg X.base CX k f fd ps sp) (hr : Room (k + 1) X.A) (hx : PassesAt CX X σ E')
    (I : Inv X pins σ H s) (hb : ∀ s' : Shared, X.K.In s'.heap → BindsTo s' fd ⟨.ref (s.heap.objs.size + 1) :: us, kv⟩ (ps.zip bs)) (r : Vals zs bs)
    (q : sp zs (upd (upd H s.heap.objs.size (.own (s.heap.objs.size + 1))) (s.heap.objs.size + 1) (.ins C s.heap.objs.size [])) (fun v H2 => v = .non ∧ Q (.ref (s.heap.objs.size + 1)) H2) E') :
    wpAny (model X.prog X.w) X.A (call (.ref C) us kv) (EP X pins σ Q) X.xe s := by
  have I2 := Inv.made (C := C) I
  apply wpAny_call
  apply make_map (f := f) I.kIn M.makes M.init (beq_iff_eq.mp M.fn)
  apply codeAny_mono (F.run _ X.stack _ _ ⟨.ref (s.heap.objs.size + 1) :: us, kv⟩ bs zs _ E' (hr.make C us kv) (I2.env0.make C us kv) (hb _ I2.kIn) r q)
  intro res s' z
  cases res with
  | error er => exact hx pins _ _ er s' I2 z
  | ok fl =>
    cases fl with
    | ret u =>
      obtain ⟨v, H', I3, rv, rfl, q3⟩ := I2.after z
      exact ⟨rv, .ref (s.heap.objs.size + 1), H', I3, rfl, q3⟩
    | next => exact z.elim
    | brk => exact z.elim
    | cont => exact z.elim
def tMakeS (C : Addr) (sp : Sp) (E : L2.St → XK) (t : TA) : TE := fun σ H Q => t σ H fun vs H1 => ∀ x dx, H1 x = none → H1 dx = none → dx ≠ x → sp (.ref x :: vs) (upd (upd H1 dx (.own x)) x (.ins C dx [])) (fun v H2 => v = .non ∧ Q (.ref x) H2) (E σ)
theorem pe_makeSE (M : Mk X.K C f) (F : FnOk X.prog X.w X.K X.mg X.base CX k f fd ps sp) (hr : Room (k + 1) X.A) (hg : Gl X x) (hm : X.mg x = some (.ref C)) (hb : Binds X.K fd ps []) (hx : ∀ σ, PassesAt CX X σ (E σ)) (ha : PA X (e :: es) t)
    (hdb : (x == ("__debug__" : Str)) = false := by decide) (he : starEach (e :: es) X.env = (false, eval e X.env) :: starEach es X.env := by rfl) (hpl : (backTo pos (starEach es X.env)).any (·.1) = false := by rfl) :
    PE X (.Call (.Name x p) (e :: es) [] pos) (tMakeS C sp E t) := by
  constructor
  intro pins s σ H Q I h
  apply wpAny_Call_Name_kw (ld_glob I hg hm ?_ hdb)
  apply PySem.W.callWith_K (h₀ := X.base) I.ok.mod.kin M.kp (thn (ha.run pos pins s σ H _ I h) ?_) he hpl
  rintro us s1 ⟨vs, H1, I1, r, q⟩
  refine ⟨I1.kIn, ?_⟩
  have hq := q (s1.heap.objs.size + 1) s1.heap.objs.size (I1.hok.fresh (Nat.le_succ _)) (I1.hok.fresh (Nat.le_refl _)) (Nat.ne_of_lt (Nat.lt_succ_self _))
  have ln := F.len _ _ _ _ hq
  refine made_at (bs := .ref (s1.heap.objs.size + 1) :: us) (zs := .ref (s1.heap.objs.size + 1) :: vs) M F hr (hx σ) I1 (fun s' kin => ?_) (.cons rfl r) hq
  have b := hb s' (.ref (s1.heap.objs.size + 1) :: us) kin (by rw [List.append_nil, List.length_cons, ← r.length]; exact ln)
  rw [List.append_nil] at b
  exact b
def tMakeKS (C : Addr) (n : Nat) (sp : Sp) (gV : List V → List V → List V) (E : L2.St → XK) (tk : TA) : TE := fun σ H Q => tk σ H fun zs H1 => zs.length = n ∧ ∀ x dx, H1 x = none → H1 dx = none → dx ≠ x → sp (gV [.ref x] zs) (upd (upd H1 dx (.own x)) x (.ins C dx [])) (fun v H2 => v = .non ∧ Q (.ref x) H2) (E σ)
theorem pe_makeKS (M : Mk X.K C f) (F : FnOk X.prog X.w X.K X.mg X.base CX k f fd ps sp) (hr : Room (k + 1) X.A) (hg : Gl X x) (hm : X.mg x = some (.ref C)) (hb : KBn X.K fd ps 1 ks g gV) (hx : ∀ σ, PassesAt CX X σ (E σ)) (hkw : PK X kws tk)
    (hall : (backToKw pos (keywordEach kws X.env)).all (·.1.isSome) = true := by rfl) (hks : (backToKw pos (keywordEach kws X.env)).filterMap (·.1) = ks := by rfl) (hdb : (x == ("__debug__" : Str)) = false := by decide)
    (hpl : ((backTo pos (starEach [] X.env)).any (·.1) || (backToKw pos (keywordEach kws X.env)).any (·.1.isNone)) = false := by rfl) :
    PE X (.Call (.Name x p) [] kws pos) (tMakeKS C ks.length sp gV E tk) := by
  constructor
  intro pins s σ H Q I h
  apply wpAny_Call_Name_kw (ld_glob I hg hm ?_ hdb)
  apply PySem.W.callWith_KW0 (h₀ := X.base) I.ok.mod.kin M.kp hall ?_ hpl
  apply thn (hkw.run pos pins s σ H _ I h)
  rintro ws s1 ⟨zs, H1, I1, rz, len, q⟩
  refine ⟨I1.kIn, ?_⟩
  rw [hks]
  have hq := q (s1.heap.objs.size + 1) s1.heap.objs.size (I1.hok.fresh (Nat.le_succ _)) (I1.hok.fresh (Nat.le_refl _)) (Nat.ne_of_lt (Nat.lt_succ_self _))
  have n2 : ws.length = ks.length := by rw [← rz.length]; exact len
  have r1 : Vals [V.ref (s1.heap.objs.size + 1)] [Value.ref (s1.heap.objs.size + 1)] := .cons rfl .nil
  exact made_at (us := []) (kv := ks.zip ws) M F hr (hx σ) I1 (fun s' kin => hb.to s' [.ref (s1.heap.objs.size + 1)] ws kin rfl n2) (hb.rel r1 rz) hq
end
/-! ### strips and rules as data -/
theorem lay_j : ∀ {js : Js}, (∀ j ∈ js, ∀ x ∈ j.2, Tx 5000 x) → PyData.canLayAll0 (js.map fun j => PyData.tuple (j.2.map .str)) = true
  | [], _ => rfl
  | j :: js, h => by
    show (PyData.canLay0 (.tuple (j.2.map .str)) && PyData.canLayAll0 (js.map fun j => PyData.tuple (j.2.map .str))) = true
    rw [lay_j fun i hi => h i (List.mem_cons_of_mem _ hi), Bool.and_true]
    simp only [PyData.canLay0]
    exact lay_strs (h j List.mem_cons_self)
theorem depth_j : ∀ (js : Js), PyData.depthAll (js.map fun j => PyData.tuple (j.2.map .str)) ≤ 1
  | [] => Nat.zero_le _
  | j :: js => by
    show max (PyData.depth (.tuple (j.2.map .str))) (PyData.depthAll (js.map fun j => PyData.tuple (j.2.map .str))) ≤ 1
    have := depth_j js
    simp only [PyData.depth, depth_strs]
    omega
theorem shaped_j {js : Js} (h : ∀ j ∈ js, ∀ x ∈ j.2, Tx 5000 x) : SeqAt.shaped (jDat js) = true := by
  unfold SeqAt.shaped jDat
  rw [Bool.and_eq_true, decide_eq_true_eq]
  refine ⟨?_, ?_⟩
  · simp only [PyData.canLay0]
    exact lay_j h
  · simp only [PyData.depth]
    have := depth_j js
    omega
theorem eqv_jnil (js : Js) : PyData.eqv (jDat js) (.list []) = js.isEmpty := by
  unfold jDat
  cases js with
  | nil => simp only [List.map_nil, PyData.eqv, PyData.eqvAll]; rfl
  | cons x r => simp only [List.map_cons, PyData.eqv, PyData.eqvAll]; rfl
/-- tuples of texts of any number -/
theorem sz_jT {n m B L : Nat} {js : Js} (h : ∀ j ∈ js, (∀ x ∈ j.2, Tx B x) ∧ j.2.length ≤ L) (l : js.length ≤ m) (z : m * (L * (10 * B + 4) + 6) + 2 ≤ n) : Sz 2 n (jDat js) := by
  have a : SzAll 1 (js.length * (L * (10 * B + 4) + 4 + 2)) (js.map fun j => PyData.tuple (j.2.map .str)) := by
    have := SzAll.of (k := 1) (n := L * (10 * B + 4) + 4) (ds := js.map fun j => PyData.tuple (j.2.map .str)) fun d hd => by
      obtain ⟨j, hj, rfl⟩ := List.mem_map.mp hd
      obtain ⟨h1, h2⟩ := h j hj
      have c : SzAll 0 (j.2.length * (10 * B + 2 + 2)) (j.2.map PyData.str) := by
        have := SzAll.of (k := 0) (n := 10 * B + 2) (ds := j.2.map PyData.str) fun d hd => by
          obtain ⟨x, hx, rfl⟩ := List.mem_map.mp hd
          exact (h1 x hx).sz
        rw [List.length_map] at this
        exact this
      exact (Sz.tuple c).mono (Nat.le_refl _) (Nat.add_le_add_right (Nat.mul_le_mul_right _ h2) 4)
    rw [List.length_map] at this
    exact this
  exact (Sz.list a).mono (Nat.le_refl _) (Nat.le_trans (Nat.add_le_add_right (Nat.mul_le_mul_right _ l) 2) z)
end Sf

namespace Sf
open PySem PySem.Spec PyProof.Rows L2
/-! ### x == y, x of an own class with its own way to tell -/
def rEqO (K : PySem.W.Frag) (C : Addr) (sp : Sp) : R2 := fun x y H Q => ∃ a dx fs t, x = .ref a ∧ H a = some (.ins C dx fs) ∧ TyX K H y t ∧ PySem.W.notFirst K C t = true ∧ sp [.ref a, y] H Q E0
section
variable {X : Cx} {CX : CXT} {k : Nat} {f C : Addr} {fd : FuncData} {ps : List Str} {sp : Sp}
theorem op_eqO {K : PySem.W.Frag} (F : FnOk X.prog X.w X.K X.mg X.base CX k f fd ps sp) (hr : Room k X.A) (hs : PySem.W.findIn X.K (.ref C) "__eq__" = some (some (.ref f))) (hf : PySem.W.isFn X.K (.ref f) = true) (hb : Binds X.K fd ps []) (hx : Passes CX X E0) (hK : X.K = K := by rfl) :
    OpR X (compareOp .Eq) (rEqO K C sp) := by
  subst hK
  intro pins s σ H x y u v Q I rx ry h
  obtain ⟨a, dx, fs, t, rfl, ha, ty, hn, q⟩ := h
  cases (show u = Value.ref a from rx)
  obtain ⟨mA, O, _⟩ := ins_get I.hok ha
  obtain ⟨od, J, _⟩ := O.look
  obtain ⟨Pp, Z, p, _⟩ := kit_of I ry ty
  obtain ⟨ml, Fr⟩ := I.fr
  apply PySem.W.cmp_K (op := .Eq) (tb := t) hr.units0 Fr I.ok.mod.kin J (Z.ty _ _ I.kIn p) hn hs hf
  apply wpAny_mono (run_fn (us := [.ref a, v]) (vs := [.ref a, y]) (dvs := []) F hr hb .nil hx I (.cons rfl (.cons ry .nil)) q)
  · rintro w s' ⟨z, H', I', rz, q'⟩
    cases w with
    | notImplemented => cases z <;> first | (obtain ⟨_, e⟩ := rz; cases e) | cases rz
    | _ => exact ⟨z, H', I', rz, q'⟩
  · exact fun _ _ e => e
end
theorem kit_ty {K : PySem.W.Frag} {T : String} {D : Addr} (c : PySem.W.isClsIn K D = true) (ty : PySem.W.typeIn K (.ref D) = some (.type "type")) (s : PySem.W.subIn K (.type T) (.ref D) = some false) : PySem.W.kitOne K (.type T) (.ref D) = some false := by
  unfold PySem.W.kitOne
  split
  · rename_i z; cases beq_iff_eq.mp z
  · exact kit_sub c ty s
theorem not_first {K : PySem.W.Frag} {t : Value} {C : Addr} (s : PySem.W.subIn K t (.ref C) = some false) : PySem.W.notFirst K C t = true := by
  unfold PySem.W.notFirst
  rw [s]
  exact Bool.or_true _
theorem tyx_T {K : PySem.W.Frag} {H : Hp} {a : Addr} {xs : List V} (h : SqT K H a xs) : TyX K H (.ref a) (.type "tuple") := by
  rcases h with (h | ⟨o, h⟩) | ⟨o, its, n, h, c, _⟩
  · exact .base (.tup h)
  · exact .fTuple h
  · exact .kTuple h c
theorem first_self {K : PySem.W.Frag} {C : Addr} : PySem.W.notFirst K C (.ref C) = true := by
  unfold PySem.W.notFirst
  rw [beq_self_eq_true]
  rfl
/-- a method of a list, where a try stands around: the part K by name -/
theorem pe_bmK {K : PySem.W.Frag} {X : Cx} {T id : String} {name : Str} {r : V → List V → Hp → VK → Prop} {o e : Expr} {es : List Expr} {apos cpos : Pos} {to : TE} {t : TA} (pa : PlainAttrs T) (slot : Slot T name id) (hty : typeOf (.builtin id) = pure (.type "method_descriptor")) (hm : MtR X id r) (ho : PE X o to) (ha : PA X (e :: es) t) (hK : X.K = K := by rfl)
    (hbase : attributeBase o name X.env (eval o X.env) = eval o X.env := by rfl)
    (hfew : ((backTo cpos (starEach (e :: es) X.env)).all (fun x => !x.1) && (backToKw cpos (keywordEach [] X.env)).all (fun x => x.1.isSome)
      && decide ((e :: es).length + ([] : List Keyword).length + (if ([] : List Keyword).isEmpty then 0 else 1) < 30)) = true := by rfl)
    (hline : (apos.endLine == cpos.line) = true := by rfl) (hs : starEach (e :: es) X.env = (false, eval e X.env) :: starEach es X.env := by rfl) (hplain : (backTo cpos (starEach es X.env)).any (·.1) = false := by rfl) :
    PE X (.Call (.Attribute o name apos) (e :: es) [] cpos) (tBM K T r to t) := by
  subst hK
  exact pe_bm pa slot hty hm ho ha hbase hfew hline hs hplain
/-! ### what is shown tells what it is -/
theorem cps_app (a b : Str) : (a ++ b).cps = a.cps ++ b.cps := rfl
def jn : List (List Nat) → List Nat
  | [] => []
  | [x] => x
  | x :: y :: r => x ++ 44 :: 32 :: jn (y :: r)
theorem jn_join : ∀ ts : List Str, (Str.join ", " ts).cps.toList = jn (ts.map fun t => t.cps.toList)
  | [] => rfl
  | [x] => rfl
  | x :: y :: r => by
    show (x ++ ", " ++ Str.join ", " (y :: r)).cps.toList = _
    rw [cps_app, cps_app, Array.toList_append, Array.toList_append, jn_join (y :: r)]
    show _ = x.cps.toList ++ 44 :: 32 :: jn ((y :: r).map fun t => t.cps.toList)
    rw [List.append_assoc]
    rfl
def PF {α : Type} (P : α → Prop) (D : α → List Nat) : Prop := ∀ x y s t, P x → P y → D x ++ s = D y ++ t → x = y ∧ s = t
theorem pf_join {α : Type} {P : α → Prop} {D : α → List Nat} {c h : Nat} (pf : PF P D) (hd : ∀ x, P x → ∃ r, D x = h :: r) (hc : h ≠ c) (c4 : c ≠ 44) :
    ∀ xs ys : List α, ∀ s t, (∀ x ∈ xs, P x) → (∀ y ∈ ys, P y) → jn (xs.map D) ++ c :: s = jn (ys.map D) ++ c :: t → xs = ys ∧ s = t
  | [], [], s, t, _, _, e => ⟨rfl, (List.cons.inj e).2⟩
  | [], [y], s, t, _, hy, e => by
    obtain ⟨r, er⟩ := hd y (hy y List.mem_cons_self)
    have e : c :: s = D y ++ c :: t := e
    rw [er] at e
    exact absurd (List.cons.inj e).1.symm hc
  | [], y :: z :: q, s, t, _, hy, e => by
    obtain ⟨r, er⟩ := hd y (hy y List.mem_cons_self)
    have e : c :: s = (D y ++ 44 :: 32 :: jn ((z :: q).map D)) ++ c :: t := e
    rw [er] at e
    exact absurd (List.cons.inj e).1.symm hc
  | [x], [], s, t, hx, _, e => by
    obtain ⟨r, er⟩ := hd x (hx x List.mem_cons_self)
    have e : D x ++ c :: s = c :: t := e
    rw [er] at e
    exact absurd (List.cons.inj e).1 hc
  | x :: z :: q, [], s, t, hx, _, e => by
    obtain ⟨r, er⟩ := hd x (hx x List.mem_cons_self)
    have e : (D x ++ 44 :: 32 :: jn ((z :: q).map D)) ++ c :: s = c :: t := e
    rw [er] at e
    exact absurd (List.cons.inj e).1 hc
  | [x], [y], s, t, hx, hy, e => by
    obtain ⟨a, b⟩ := pf x y _ _ (hx x List.mem_cons_self) (hy y List.mem_cons_self) (show D x ++ c :: s = D y ++ c :: t from e)
    exact ⟨by rw [a], (List.cons.inj b).2⟩
  | [x], y :: z :: q, s, t, hx, hy, e => by
    have e : D x ++ c :: s = (D y ++ 44 :: 32 :: jn ((z :: q).map D)) ++ c :: t := e
    rw [List.append_assoc] at e
    obtain ⟨a, b⟩ := pf x y _ _ (hx x List.mem_cons_self) (hy y List.mem_cons_self) e
    exact absurd (List.cons.inj b).1 c4
  | x :: z :: q, [y], s, t, hx, hy, e => by
    have e : (D x ++ 44 :: 32 :: jn ((z :: q).map D)) ++ c :: s = D y ++ c :: t := e
    rw [List.append_assoc] at e
    obtain ⟨a, b⟩ := pf x y _ _ (hx x List.mem_cons_self) (hy y List.mem_cons_self) e
    exact absurd (List.cons.inj b).1.symm c4
  | x :: z :: q, y :: z' :: q', s, t, hx, hy, e => by
    have e : (D x ++ 44 :: 32 :: jn ((z :: q).map D)) ++ c :: s = (D y ++ 44 :: 32 :: jn ((z' :: q').map D)) ++ c :: t := e
    rw [List.append_assoc, List.append_assoc] at e
    obtain ⟨a, b⟩ := pf x y _ _ (hx x List.mem_cons_self) (hy y List.mem_cons_self) e
    have b := (List.cons.inj (List.cons.inj b).2).2
    obtain ⟨a2, b2⟩ := pf_join pf hd hc c4 (z :: q) (z' :: q') s t (fun x h => hx x (List.mem_cons_of_mem _ h)) (fun x h => hy x (List.mem_cons_of_mem _ h)) b
    exact ⟨by rw [a, a2], b2⟩
/-- a text of letters, as it is shown -/
def dS (x : Str) : List Nat := (reprText x).cps.toList
theorem abc_rc : ∀ c ∈ abcS.cps.toList, Builtin.Str.reprChar 39 c = [c] ∧ c ≠ 39 := by decide +kernel
theorem fold_rc : ∀ (l acc : List Nat) (A : Array Nat), A.toList = acc → (∀ c ∈ l, c ∈ abcS.cps.toList) → (l.foldl (fun out c => out ++ (Builtin.Str.reprChar 39 c).toArray) A).toList = acc ++ l
  | [], acc, A, e, _ => by rw [List.append_nil]; exact e
  | c :: r, acc, A, e, h => by
    rw [List.foldl_cons, fold_rc r (acc ++ [c]) _ (by rw [Array.toList_append, e, (abc_rc c (h c List.mem_cons_self)).1]) fun d hd => h d (List.mem_cons_of_mem _ hd), List.append_assoc]
    rfl
theorem dS_eq {x : Str} (h : plain x = true) : dS x = 39 :: (x.cps.toList ++ [39]) := by
  have hp := plain_iff.mp h
  have q : reprQuote x = 39 := by
    unfold reprQuote
    have : x.cps.contains 39 = false := by
      rw [Array.contains_eq_mem]
      refine decide_eq_false fun z => ?_
      exact (abc_rc 39 (hp 39 (Array.mem_toList_iff.mpr z))).2 rfl
    rw [this]
    rfl
  unfold dS reprText
  rw [q]
  show ((x.cps.foldl (fun out c => out ++ (Builtin.Str.reprChar 39 c).toArray) #[39]).push 39).toList = _
  rw [Array.toList_push, ← Array.foldl_toList, fold_rc x.cps.toList [39] #[39] rfl hp]
  rfl
theorem cut39 : ∀ (l m s t : List Nat), (∀ c ∈ l, c ≠ 39) → (∀ c ∈ m, c ≠ 39) → l ++ 39 :: s = m ++ 39 :: t → l = m ∧ s = t
  | [], [], s, t, _, _, e => ⟨rfl, (List.cons.inj e).2⟩
  | [], c :: m, s, t, _, h, e => absurd (List.cons.inj e).1.symm (h c List.mem_cons_self)
  | c :: l, [], s, t, h, _, e => absurd (List.cons.inj e).1 (h c List.mem_cons_self)
  | c :: l, d :: m, s, t, h, h', e => by
    obtain ⟨a, b⟩ := List.cons.inj e
    obtain ⟨a2, b2⟩ := cut39 l m s t (fun c hc => h c (List.mem_cons_of_mem _ hc)) (fun c hc => h' c (List.mem_cons_of_mem _ hc)) b
    exact ⟨by rw [a, a2], b2⟩
theorem str_ext {x y : Str} (h : x.cps.toList = y.cps.toList) : x = y := by
  cases x; cases y
  congr 1
  exact Array.toList_inj.mp h
theorem pf_str : PF (fun x : Str => plain x = true) dS := fun x y s t hx hy e => by
  rw [dS_eq hx, dS_eq hy] at e
  have e : (x.cps.toList ++ [39]) ++ s = (y.cps.toList ++ [39]) ++ t := (List.cons.inj e).2
  rw [List.append_assoc, List.append_assoc] at e
  obtain ⟨a, b⟩ := cut39 _ _ s t (fun c hc => (abc_rc c (plain_iff.mp hx c hc)).2) (fun c hc => (abc_rc c (plain_iff.mp hy c hc)).2) e
  exact ⟨str_ext a, b⟩
theorem hd_str (x : Str) (h : plain x = true) : ∃ r, dS x = 39 :: r := ⟨_, dS_eq h⟩
/-- a rule of four pieces, as it is shown -/
def dJ (xs : List Str) : List Nat := 40 :: (jn (xs.map dS) ++ [41])
theorem pf_rule : PF (fun xs : List Str => ∀ x ∈ xs, plain x = true) dJ := fun xs ys s t hx hy e => by
  have e : (jn (xs.map dS) ++ [41]) ++ s = (jn (ys.map dS) ++ [41]) ++ t := (List.cons.inj e).2
  rw [List.append_assoc, List.append_assoc] at e
  exact pf_join (c := 41) (h := 39) pf_str hd_str (by decide) (by decide) xs ys s t hx hy e
theorem shown_strs : ∀ xs : List Str, PyData.shownAll (xs.map PyData.str) = xs.map reprText
  | [] => by rw [List.map_nil, PyData.shownAll]; rfl
  | x :: r => by rw [List.map_cons, PyData.shownAll, shown_strs r, PyData.shown]; rfl
theorem shown_rule {xs : List Str} (h : xs.length = 4) : (PyData.shown (.tuple (xs.map .str))).cps.toList = dJ xs := by
  rw [PyData.shown, shown_strs]
  unfold tupleText
  rw [List.length_map, h]
  show ((("(" : Str) ++ Str.join ", " (xs.map reprText)) ++ (")" : Str)).cps.toList = _
  rw [cps_app, cps_app, Array.toList_append, Array.toList_append, jn_join, List.map_map]
  rfl
theorem shown_w (ws : List Str) : (PyData.shown (wDat ws)).cps.toList = 91 :: (jn (ws.map dS) ++ [93]) := by
  unfold wDat
  rw [PyData.shown, shown_strs, listText_eq_join, cps_app, cps_app, Array.toList_append, Array.toList_append, jn_join, List.map_map]
  rfl
theorem shown_all : ∀ {js : List (List Str)}, (∀ j ∈ js, j.length = 4) → (PyData.shownAll (js.map fun j => .tuple (j.map .str))).map (fun t => t.cps.toList) = js.map dJ
  | [], _ => by rw [List.map_nil, PyData.shownAll]; rfl
  | j :: r, h => by
    rw [List.map_cons, PyData.shownAll, List.map_cons, shown_rule (h j List.mem_cons_self), shown_all fun i hi => h i (List.mem_cons_of_mem _ hi)]
    rfl
theorem shown_j {js : Js} (h : ∀ j ∈ js, Jn j.2) : (PyData.shown (jDat js)).cps.toList = 91 :: (jn ((js.map (·.2)).map dJ) ++ [93]) := by
  unfold jDat
  have e : (js.map fun j => PyData.tuple (j.2.map .str)) = (js.map (·.2)).map fun j => PyData.tuple (j.map .str) := by rw [List.map_map]; rfl
  rw [PyData.shown, listText_eq_join, cps_app, cps_app, Array.toList_append, Array.toList_append, jn_join, e, shown_all fun j hj => by
    obtain ⟨i, hi, rfl⟩ := List.mem_map.mp hj
    exact (h i hi).n4]
  rfl
theorem Jn.plains {xs : List Str} (h : Jn xs) : ∀ x ∈ xs, plain x = true := fun x hx => (h.wd x hx).pl
theorem plan_inj {n m : Nat} {ws vs : List Str} {js ks : Js} (rt : Rt n ws js) (rk : Rt m vs ks) (e : PyData.shown (.tuple [wDat ws, jDat js]) = PyData.shown (.tuple [wDat vs, jDat ks])) : ws = vs ∧ js.map (·.2) = ks.map (·.2) := by
  have big : ∀ (ws : List Str) (js : Js), (∀ j ∈ js, Jn j.2) → (PyData.shown (.tuple [wDat ws, jDat js])).cps.toList = 40 :: 91 :: (jn (ws.map dS) ++ 93 :: (44 :: 32 :: 91 :: (jn ((js.map (·.2)).map dJ) ++ 93 :: [41]))) := fun ws js h => by
    rw [PyData.shown, PyData.shownAll, PyData.shownAll, PyData.shownAll]
    show ((("(" : Str) ++ (PyData.shown (wDat ws) ++ ", " ++ PyData.shown (jDat js))) ++ (")" : Str)).cps.toList = _
    rw [cps_app, cps_app, cps_app, cps_app, Array.toList_append, Array.toList_append, Array.toList_append, Array.toList_append, shown_w, shown_j h]
    show 40 :: (91 :: (jn (ws.map dS) ++ [93]) ++ 44 :: 32 :: [] ++ 91 :: (jn ((js.map (·.2)).map dJ) ++ [93])) ++ [41] = _
    simp only [List.append_assoc, List.cons_append, List.nil_append]
  have e := congrArg (fun t : Str => t.cps.toList) e
  have e : (PyData.shown (.tuple [wDat ws, jDat js])).cps.toList = (PyData.shown (.tuple [wDat vs, jDat ks])).cps.toList := e
  rw [big ws js rt.jd, big vs ks rk.jd] at e
  have e := (List.cons.inj (List.cons.inj e).2).2
  obtain ⟨a, b⟩ := pf_join (c := 93) (h := 39) pf_str hd_str (by decide) (by decide) ws vs _ _ (fun x hx => (rt.wd x hx).1.pl) (fun x hx => (rk.wd x hx).1.pl) e
  have b := (List.cons.inj (List.cons.inj (List.cons.inj b).2).2).2
  have mem : ∀ {js : Js}, (∀ j ∈ js, Jn j.2) → ∀ x ∈ js.map (·.2), ∀ y ∈ x, plain y = true := fun {js} h x hx => by
    obtain ⟨i, hi, rfl⟩ := List.mem_map.mp hx
    exact (h i hi).plains
  exact ⟨a, (pf_join (c := 93) (h := 40) pf_rule (fun x _ => ⟨_, rfl⟩) (by decide) (by decide) _ _ _ _ (mem rt.jd) (mem rk.jd) b).1⟩
/-! ### whether two boxes hold the same -/
theorem eqv_strs : ∀ xs ys : List Str, PyData.eqvAll (xs.map PyData.str) (ys.map PyData.str) = decide (xs = ys)
  | [], [] => by simp only [List.map_nil, PyData.eqvAll]; rfl
  | [], y :: q => by simp only [List.map_nil, List.map_cons, PyData.eqvAll]; rfl
  | x :: r, [] => by simp only [List.map_nil, List.map_cons, PyData.eqvAll]; rfl
  | x :: r, y :: q => by
    rw [List.map_cons, List.map_cons, PyData.eqvAll, eqv_strs r q]
    simp only [PyData.eqv]
    by_cases h : x = y
    · subst h
      by_cases h2 : r = q
      · subst h2; simp
      · simp [h2]
    · have : (x == y) = false := beq_eq_false_iff_ne.mpr h
      rw [this, Bool.false_and]
      exact (decide_eq_false fun z => h (List.cons.inj z).1).symm
theorem eqv_w (ws vs : List Str) : PyData.eqv (wDat ws) (wDat vs) = decide (ws = vs) := by
  unfold wDat
  simp only [PyData.eqv]
  exact eqv_strs ws vs
theorem eqv_rules : ∀ xs ys : List (List Str), PyData.eqvAll (xs.map fun j => PyData.tuple (j.map .str)) (ys.map fun j => PyData.tuple (j.map .str)) = decide (xs = ys)
  | [], [] => by simp only [List.map_nil, PyData.eqvAll]; rfl
  | [], y :: q => by simp only [List.map_nil, List.map_cons, PyData.eqvAll]; rfl
  | x :: r, [] => by simp only [List.map_nil, List.map_cons, PyData.eqvAll]; rfl
  | x :: r, y :: q => by
    rw [List.map_cons, List.map_cons, PyData.eqvAll, eqv_rules r q]
    have : PyData.eqv (PyData.tuple (x.map .str)) (PyData.tuple (y.map .str)) = decide (x = y) := by
      simp only [PyData.eqv]
      exact eqv_strs x y
    rw [this]
    by_cases h : x = y
    · subst h
      by_cases h2 : r = q
      · subst h2; simp
      · simp [h2]
    · rw [decide_eq_false h, Bool.false_and]
      exact (decide_eq_false fun z => h (List.cons.inj z).1).symm
theorem eqv_j (js ks : Js) : PyData.eqv (jDat js) (jDat ks) = decide (js.map (·.2) = ks.map (·.2)) := by
  unfold jDat
  have e : ∀ js : Js, (js.map fun j => PyData.tuple (j.2.map .str)) = (js.map (·.2)).map fun j => PyData.tuple (j.map .str) := fun js => by rw [List.map_map]; rfl
  simp only [PyData.eqv]
  rw [e, e]
  exact eqv_rules _ _
theorem eqB_self (ws : List Str) (js : Js) : (decide (ws = ws) && decide (js.map (·.2) = js.map (·.2))) = true := by rw [decide_eq_true rfl, decide_eq_true rfl]; rfl
def eqB (ws vs : List Str) (js ks : Js) : Bool := decide (ws = vs) && decide (js.map (·.2) = ks.map (·.2))
theorem plan_eq {n m : Nat} {ws vs : List Str} {js ks : Js} (rt : Rt n ws js) (rk : Rt m vs ks) : decide (PyData.shown (.tuple [wDat ws, jDat js]) = PyData.shown (.tuple [wDat vs, jDat ks])) = eqB ws vs js ks := by
  unfold eqB
  by_cases h : PyData.shown (.tuple [wDat ws, jDat js]) = PyData.shown (.tuple [wDat vs, jDat ks])
  · obtain ⟨a, b⟩ := plan_inj rt rk h
    rw [decide_eq_true h, decide_eq_true a, decide_eq_true b]
    rfl
  · rw [decide_eq_false h]
    by_cases a : ws = vs
    · by_cases b : js.map (·.2) = ks.map (·.2)
      · refine absurd ?_ h
        subst a
        have : jDat js = jDat ks := by
          unfold jDat
          have e : ∀ js : Js, (js.map fun j => PyData.tuple (j.2.map .str)) = (js.map (·.2)).map fun j => PyData.tuple (j.map .str) := fun js => by rw [List.map_map]; rfl
          rw [e, e, b]
        rw [this]
      · rw [decide_eq_false b, Bool.and_false]
    · rw [decide_eq_false a, Bool.false_and]
theorem eqB_comm (ws vs : List Str) (js ks : Js) : eqB ws vs js ks = eqB vs ws ks js := by
  unfold eqB
  rw [decide_eq_decide.mpr (eq_comm (a := ws) (b := vs)), decide_eq_decide.mpr (eq_comm (a := js.map (·.2)) (b := ks.map (·.2)))]
theorem eqB_rfl (ws : List Str) (js : Js) : eqB ws ws js js = true := eqB_self ws js
end Sf

namespace Sf
open PySem PySem.Spec PyProof.Rows L2
/-- d.setdefault(k, x), the keys of d tuples -/
def rSetdT : V → List V → Hp → VK → Prop := fun x xs H Q => ∃ (a : Addr) (kvs : List (List L2.Key × V)) (k : List L2.Key) (b : Addr) (d : V), x = .ref a ∧ xs = [.ref b, d] ∧ H a = some (.dT kvs) ∧ H b = some (.tup (k.map kV)) ∧ kvs.length < sizeLine ∧
  (∀ v, valV kvs k = some v → Q v H) ∧ (valV kvs k = none → Q d (upd H a (.dT (putK kvs k d))))
theorem mt_setdT {X : Cx} (hu : X.A.units + 1 < cLine) : MtR X "dict.setdefault" rSetdT := by
  intro pins s σ H x xs v us Q I rx rxs h
  obtain ⟨a, kvs, k, b, d, rfl, rfl, ha, hb, lk, q1, q2⟩ := h
  cases rx
  obtain ⟨u1, u2, rfl, r1, r2⟩ := vals2 rxs
  cases r1
  obtain ⟨z, hd, xs', rel, dd⟩ := dt_of I.hok ha
  have hz : xs'.length ≤ sizeLine := by rw [← Paired.length rel]; exact z
  refine call_setdefault_heap (knd := tupleKind (mixKind X.prog X.w)) (hsz := hz) (tupleKind_room_in1 hu) (key_of I.hok hb) hd dd (fun p hp => ?_) fun hn h' dd' hs => ?_
  · have r := rel.val k
    rw [hp] at r
    obtain ⟨v0, ev, rv⟩ : ∃ v0, valV kvs k = some v0 ∧ RelV v0 p.2 := by
      cases ev : valV kvs k with
      | none =>
        rw [ev] at r
        exact (show False from r).elim
      | some v0 =>
        rw [ev] at r
        exact ⟨v0, rfl, r⟩
    exact ⟨v0, H, I.tok _, rv, q1 v0 ev⟩
  · have r := rel.val k
    rw [hn] at r
    have e : valV kvs k = none := by
      cases ev : valV kvs k with
      | none => rfl
      | some v0 =>
        rw [ev] at r
        exact (show False from r).elim
    have hl : (putK kvs k d).length ≤ sizeLine := by have := length_putK kvs k d; omega
    obtain ⟨q, es, ep, hq, h2, h3, h4, _, h5⟩ := dd'
    have I2 : Inv X pins σ (upd H a (.dT (putK kvs k d))) { s with heap := h', toks := s.toks + (tupleKind (mixKind X.prog X.w)).draws k } :=
      d_write I (by rw [ha]; exact True.intro) hs ⟨q, hq⟩ ⟨hl, hd, _, (rel.put k hb r2).keeps (fun c ys ec => (by rw [upd_ne (ne_of ec ha (fun z => nomatch z))]; exact ec)), q, es, ep, hq, h2, h3, h4, h5⟩
    exact ⟨d, _, I2, r2, q2 e⟩
end Sf

namespace Sf
open PySem PySem.Spec PyProof.Rows L2
/-! ### zip(x, y) of two texts -/
/-- the signs of two texts, side by side in new pairs -/
def ItzS (x y : Str) : It :=
  ⟨fun i _ => i < x.cps.size ∧ i < y.cps.size, fun i H v H' => ∃ T c d, v = .ref T ∧ H T = none ∧ H' = upd H T (.tup [.str ⟨#[c]⟩, .str ⟨#[d]⟩]) ∧ x.cps[i]? = some c ∧ y.cps[i]? = some d, fun i _ => x.cps.size ≤ i ∨ y.cps.size ≤ i⟩
/-- five cells in a row: both iterators, the pair of them, the pair handed out, the zip -/
def ZsAt (b : Addr) (x y : Str) (t u : Tok) (i : Nat) (h : Heap) : Prop :=
  IsZip h (b + 4) (b + 2) (b + 3) .none ∧ IsTupOf2 h (b + 2) (.ref b) (.ref (b + 1)) ∧ (∃ p q, IsTupOf2 h (b + 3) p q) ∧ h.IsStrIter b (strIterType x) x t i ∧ h.IsStrIter (b + 1) (strIterType y) y u i ∧ i ≤ x.cps.size ∧ i ≤ y.cps.size
theorem zs_sep (b : Addr) : ZipSep2 (b + 4) (b + 2) (b + 3) b (b + 1) [b] [b + 1] := by
  constructor <;> simp <;> omega
def five (b : Addr) : List Addr := [b + 4, b + 2, b + 3, b, b + 1]
theorem in_five {b c : Addr} (h : c ∈ five b) : c = b + 4 ∨ c = b + 2 ∨ c = b + 3 ∨ c = b ∨ c = b + 1 := by simpa [five] using h
theorem turn_zs {P : Program} {w : World} {K : PySem.W.Frag} {elts : List Expr} {kk : Nat} {tpos : Pos} (b : Addr) (x y : Str) (t u : Tok) :
    Turn P w K (.Tuple elts kk tpos) (ItzS x y) (five b) (b + 4) (ZsAt b x y t u) where
  mem := by simp [five]
  obj := fun i h st c hc => by
    obtain ⟨a1, a2, ⟨p, q, a3⟩, ⟨o4, e4, _, d4⟩, ⟨o5, e5, _, d5⟩, _⟩ := st
    rcases in_five hc with rfl | rfl | rfl | rfl | rfl
    · exact ⟨_, a1, fun v z => nomatch z⟩
    · exact ⟨_, a2, fun v z => nomatch z⟩
    · exact ⟨_, a3, fun v z => nomatch z⟩
    · exact ⟨o4, e4, fun v z => by rw [d4] at z; cases z⟩
    · exact ⟨o5, e5, fun v z => by rw [d5] at z; cases z⟩
  keep := fun i h h' st k => by
    obtain ⟨a1, a2, ⟨p, q, a3⟩, ⟨o4, e4, r4⟩, ⟨o5, e5, r5⟩, l⟩ := st
    have m : ∀ c, (c = b + 4 ∨ c = b + 2 ∨ c = b + 3 ∨ c = b ∨ c = b + 1) → c ∈ five b := fun c hc => by simpa [five] using hc
    exact ⟨k _ (m _ (by simp)) _ a1, k _ (m _ (by simp)) _ a2, ⟨p, q, k _ (m _ (by simp)) _ a3⟩, ⟨o4, k _ (m _ (by simp)) _ e4, r4⟩, ⟨o5, k _ (m _ (by simp)) _ e5, r5⟩, l⟩
  item := by
    intro X hP hw hK hc i pins s σ H E I hf st hg
    subst hP hw hK
    have bound : ∀ c ∈ five b, c < s.heap.objs.size := fun c hcm => by
      obtain ⟨a1, a2, ⟨p, q, a3⟩, ⟨o4, e4, _⟩, ⟨o5, e5, _⟩, _⟩ := st
      rcases in_five hcm with rfl | rfl | rfl | rfl | rfl
      · exact Heap.lt_size a1
      · exact Heap.lt_size a2
      · exact Heap.lt_size a3
      · exact Heap.lt_size e4
      · exact Heap.lt_size e5
    obtain ⟨a1, a2, ⟨p, q, a3⟩, s1, s2, l1, l2⟩ := st
    have hh : X.A.in1.handled = none := I.ok.hd hc
    have D1 := Draws.text (prog := X.prog) (w := X.w) hh b x t
    have D2 := Draws.text (prog := X.prog) (w := X.w) hh (b + 1) y u
    refine wpAny_pyNext_zipD2_item (zs_sep b) D1 D2 a1 a2 a3 s1 s2 hg.1 hg.2 fun v1 v2 h' tk y1 y2 z1 z2 z3 z4 z5 _ hk => ?_
    obtain ⟨c, u1, ec, rfl⟩ := y1
    obtain ⟨d, u2, ed, rfl⟩ := y2
    refine ⟨_, rfl, wpAny_letOwnedTupleGo_zip (s := { s with heap := h', toks := tk }) z1 fun h2 z2' sb => ?_⟩
    have off : s.heap.objs.size ∉ five b := fun z => Nat.lt_irrefl _ (bound _ z)
    have n4 : s.heap.objs.size ≠ b + 4 := fun z => off (by simp [five, z])
    have new : ObjOk X.prog X.w (upd H s.heap.objs.size (.tup [.str ⟨#[c]⟩, .str ⟨#[d]⟩])) h2 s.heap.objs.size (.tup [.str ⟨#[c]⟩, .str ⟨#[d]⟩]) :=
      ⟨by show 2 ≤ sizeLine; decide, [.str ⟨#[c]⟩ u1, .str ⟨#[d]⟩ u2], .cons ⟨u1, rfl⟩ (.cons ⟨u2, rfl⟩ .nil), _, (sb.2 _ n4).trans z5, rfl, _, rfl⟩
    have I1 : Inv X pins σ (upd H s.heap.objs.size (.tup [.str ⟨#[c]⟩, .str ⟨#[d]⟩])) { s with heap := h2, toks := tk } :=
      I.turnedNew (t' := tk) (ch := five b) (fun e o hb r => by
        have ne : e ≠ b + 4 ∧ e ≠ b + 2 ∧ e ≠ b + 3 ∧ e ≠ b ∧ e ≠ b + 1 := by simpa [five] using hb
        exact (sb.2 e ne.1).trans (hk e o ne.1 ne.2.2.1 ne.2.2.2.1 ne.2.2.2.2 r)) hf (Nat.le_refl _) new
    refine ⟨.ref s.heap.objs.size, _, I1, rfl, ⟨_, c, d, rfl, I.hok.fresh (Nat.le_refl _), rfl, ec, ed⟩, ⟨z2', ?_, ⟨_, _, (sb.2 _ (by simp)).trans z2⟩, ?_, ?_, hg.1, hg.2⟩, fun e hcm => ?_⟩
    · exact (sb.2 _ (by simp)).trans (hk _ _ (by simp) (by simp) (by simp) (by simp) a2)
    · exact z3.extBut sb.extBut (by simp)
    · exact z4.extBut sb.extBut (by simp)
    · rw [upd_ne (Nat.ne_of_lt (bound e hcm))]
      exact (hf e hcm).1
  done := by
    intro X hP hw hK hc i pins s σ H E I hf st hg
    subst hP hw hK
    obtain ⟨a1, a2, ⟨p, q, a3⟩, s1, s2, l1, l2⟩ := st
    have hh : X.A.in1.handled = none := I.ok.hd hc
    have D1 := Draws.text (prog := X.prog) (w := X.w) hh b x t
    have D2 := Draws.text (prog := X.prog) (w := X.w) hh (b + 1) y u
    have hg : x.cps.size ≤ i ∨ y.cps.size ≤ i := hg
    exact wpAny_pyNext_zipD2_end (zs_sep b) D1 D2 a1 a2 a3 s1 s2 l1 l2 (by omega) fun h' tk hk => ⟨rfl, I.turnedL (t' := tk) (ch := five b) (fun e o hb r => by
      have ne : e ≠ b + 4 ∧ e ≠ b + 2 ∧ e ≠ b + 3 ∧ e ≠ b ∧ e ≠ b + 1 := by simpa [five] using hb
      exact hk e o ne.1 ne.2.2.1 ne.2.2.2.1 ne.2.2.2.2 r) hf⟩
  self := fun A i s Q E st h => wpAny_pyIter_zip st.1 h
/-- two texts, or two lists -/
def iZipB (K : PySem.W.Frag) (ta : TA) : TI := fun σ H R => ta σ H fun vs H1 => (∃ x y, vs = [.str x, .str y] ∧ R (ItzS x y) H1) ∨ ∃ a b xs ys, vs = [.ref a, .ref b] ∧ SqL K H1 a xs ∧ SqL K H1 b ys ∧ R (Itz K a b) H1
theorem pi_zipB {K : PySem.W.Frag} {X : Cx} {e e2 : Expr} {ta : TA} {p pos tpos : Pos} {elts : List Expr} {kk : Nat} (hg : Gl X "zip") (hm : X.mg "zip" = none) (ha : PA X [e, e2] ta) (hK : X.K = K := by rfl)
    (hs : starEach [e, e2] X.env = (false, eval e X.env) :: starEach [e2] X.env := by rfl) (hpl : (backTo pos (starEach [e2] X.env)).any (·.1) = false := by rfl) :
    PI X (.Tuple elts kk tpos) (.Call (.Name "zip" p) [e, e2] [] pos) (iZipB K ta) := by
  subst hK
  constructor
  intro pins s σ H R I h
  apply Call_
  case he => rfl
  apply ld_blt I hg hm PyProof.Rows.boot_zip
  apply PyProof.Rows.callWith_type1 _ hs hpl
  apply thn (ha.run pos pins s σ H _ I h)
  rintro us s1 ⟨vs, H1, I1, r1, q1⟩
  have far : ∀ c ∈ five s1.heap.objs.size, s1.heap.objs.size ≤ c := fun c hcm => by
    rcases in_five hcm with rfl | rfl | rfl | rfl | rfl
    · exact Nat.le_add_right _ _
    · exact Nat.le_add_right _ _
    · exact Nat.le_add_right _ _
    · exact Nat.le_refl _
    · exact Nat.le_add_right _ _
  have ok : ∀ c ∈ five s1.heap.objs.size, FpOk X pins H1 c := fun c hcm => I1.fpOk (far c hcm) (I1.hok.fresh (far c hcm))
  rcases q1 with ⟨x, y, rfl, q⟩ | ⟨a, b, xs, ys, rfl, hx, hy, q⟩
  · obtain ⟨v1, v2, rfl, a1, a2⟩ := vals2 r1
    obtain ⟨t, rfl⟩ := a1
    obtain ⟨u, rfl⟩ := a2
    apply zip_begins2 (begins_text x t) (begins_text y u) True.intro True.intro
    intro h' z1 z2 z3 z4 z5 _ hk
    apply wpAny_pyIter_zip z1
    exact ⟨_, five s1.heap.objs.size, _, _, H1, rfl, I1.kept (t' := s1.toks) hk, turn_zs s1.heap.objs.size x y t u, ⟨z1, z2, ⟨_, _, z3⟩, ⟨_, z4, rfl, rfl⟩, ⟨_, z5, rfl, rfl⟩, Nat.zero_le _, Nat.zero_le _⟩, ok, q⟩
  · obtain ⟨v1, v2, rfl, a1, a2⟩ := vals2 r1
    cases (show v1 = Value.ref a from a1)
    cases (show v2 = Value.ref b from a2)
    obtain ⟨_, _, p1, _⟩ := I1.list hx
    obtain ⟨_, _, p2, _⟩ := I1.list hy
    have D := PySem.W.ktu_apart s1.heap.objs.size a b p1.lt p2.lt
    apply call_zip_2 p1.isList p2.isList
    intro h' z1 z2 z3 z4 z5 _ hk
    apply wpAny_pyIter_zip z1
    exact ⟨_, five s1.heap.objs.size, _, _, H1, rfl, I1.kept (t' := s1.toks) hk, turn_zip D, ⟨z1, z2, ⟨_, _, z3⟩, z4, z5⟩, ok, q⟩
theorem walk_zs {x y : Str} {n : Nat} (hn : n = min x.cps.size y.cps.size) : Walk (ItzS x y) n (fun _ => True) (ItzS x y).yld :=
  ⟨fun i _ hi _ => ⟨by omega, by omega⟩, fun _ _ => by show _ ≤ n ∨ _ ≤ n; omega, fun _ _ _ _ _ _ q => q⟩
/-! ### tables as they stand -/
def nats (ns : List Nat) : List V := ns.map fun (n : Nat) => V.int (n : Int)
/-- a row's list, and what it holds -/
abbrev Rows := List (Addr × List Nat)
def rrefs (rs : Rows) : List V := rs.map fun q => V.ref q.1
/-- the table at p: letters, rows, ends -/
structure Sh (K : PySem.W.Frag) (H : Hp) (p r g : Addr) (x : Str) (rs : Rows) (es : List Nat) : Prop where
  p : SqT K H p [.str x, .ref r, .ref g]
  r : H r = some (.lst (rrefs rs))
  g : H g = some (.lst (nats es))
  q : ∀ q ∈ rs, H q.1 = some (.lst (nats q.2))
theorem Sh.mono {K : PySem.W.Frag} {G H : Hp} {p r g : Addr} {x : Str} {rs : Rows} {es : List Nat} (h : Sh K G p r g x rs es) (s : Same G H) : Sh K H p r g x rs es := ⟨sameT s h.p, s _ _ h.r, s _ _ h.g, fun q hq => s _ _ (h.q q hq)⟩
/-- a right table -/
structure Tbl (x : Str) (rs : Rows) (es : List Nat) : Prop where
  wd : Wd 26 x
  asc : x.cps.toList.Pairwise (· < ·)
  n0 : 0 < rs.length
  n9 : rs.length ≤ 1000
  row : ∀ q ∈ rs, q.2.length = x.length ∧ ∀ n ∈ q.2, n < rs.length
  ea : es.Pairwise (· < ·)
  el : ∀ n ∈ es, n < rs.length
theorem asc_len : ∀ {l : List Nat} {m k : Nat}, l.Pairwise (· < ·) → (∀ n ∈ l, k ≤ n ∧ n < m) → l.length ≤ m - k
  | [], _, _, _, _ => Nat.zero_le _
  | n :: r, m, k, h, b => by
    obtain ⟨h1, h2⟩ := List.pairwise_cons.mp h
    obtain ⟨b1, b2⟩ := b n List.mem_cons_self
    have := asc_len (m := m) (k := n + 1) h2 fun j hj => ⟨h1 j hj, (b j (List.mem_cons_of_mem _ hj)).2⟩
    rw [List.length_cons]
    omega
theorem Tbl.e9 {x : Str} {rs : Rows} {es : List Nat} (h : Tbl x rs es) : es.length ≤ 1000 := by
  have := asc_len (m := rs.length) (k := 0) h.ea fun n hn => ⟨Nat.zero_le _, h.el n hn⟩
  have := h.n9
  omega
theorem hu1 {A : Around} (h : A.units + 64 < cLine) : A.units + 1 < cLine := by omega
/-- len of a list or a tuple within a comprehension: the part K by name -/
theorem call_len_seqK {K : PySem.W.Frag} {X : Cx} (hK : X.K = K := by rfl) : CallR X (.builtin "len") (fun xs H Q => ∃ p ys, xs = [.ref p] ∧ (SqL K H p ys ∨ SqT K H p ys) ∧ Q (.int (ys.length : Nat)) H) := by
  subst hK
  exact call_len_seq
theorem call_tuple_ofK {K : PySem.W.Frag} {X : Cx} (hK : X.K = K := by rfl) : CallR X (.type "tuple") (fun xs H Q => ∃ p ys, xs = [.ref p] ∧ ((SqL K H p ys ∧ ∀ l, H l = none → Q (.ref l) (upd H l (.tup ys))) ∨ (SqT K H p ys ∧ Q (.ref p) H))) := by
  subst hK
  exact call_tuple_of
end Sf

namespace K19
open PySem PySem.Spec PyProof.Rows L2 Sf
def top (i : Nat) : Stmt := PySem.Challenge.pw_splicedfilms_k19_least_tables.main.body.getD i (.Pass ⟨0, 0, 0, 0⟩)
/-- where things stand -/
structure Ad where
  (FilmError InvalidTable init is_piece is_table ascends are_states check_table copied reached least_table kinds least purse coin qt_letters qt_least qt_spoil qt_copy qt_sheet qt_renumbered qt_bent right law : Addr)
  (t_PICTURES : Tok)
def Ad.err (a : Ad) : Nat → Addr
  | 0 => a.FilmError | _ => a.InvalidTable
structure Txt (K : PySem.W.Frag) (mg : Str → Option Value) (a : Ad) : Prop where
  g_FilmError : mg "FilmError" = some (.ref a.FilmError)
  g_InvalidTable : mg "InvalidTable" = some (.ref a.InvalidTable)
  e_FilmError : ErrC K a.FilmError a.init
  e_InvalidTable : ErrC K a.InvalidTable a.init
  subs : ∀ i j, i ≤ 1 → j ≤ 1 → PySem.W.subIn K (.ref (a.err i)) (.ref (a.err j)) = some (decide (i = j) || decide (j = 0))
  cls : ∀ i, i ≤ 1 → PySem.W.isClsIn K (a.err i) = true
  g_is_piece : mg "is_piece" = some (.ref a.is_piece)
  k_is_piece : PySem.W.keepIn K (.ref a.is_piece) = true
  g_is_table : mg "is_table" = some (.ref a.is_table)
  k_is_table : PySem.W.keepIn K (.ref a.is_table) = true
  g_ascends : mg "_ascends" = some (.ref a.ascends)
  k_ascends : PySem.W.keepIn K (.ref a.ascends) = true
  g_are_states : mg "_are_states" = some (.ref a.are_states)
  k_are_states : PySem.W.keepIn K (.ref a.are_states) = true
  g_check_table : mg "check_table" = some (.ref a.check_table)
  k_check_table : PySem.W.keepIn K (.ref a.check_table) = true
  g_copied : mg "copied" = some (.ref a.copied)
  k_copied : PySem.W.keepIn K (.ref a.copied) = true
  g_reached : mg "reached" = some (.ref a.reached)
  k_reached : PySem.W.keepIn K (.ref a.reached) = true
  g_least_table : mg "least_table" = some (.ref a.least_table)
  k_least_table : PySem.W.keepIn K (.ref a.least_table) = true
  g_kinds : mg "_kinds" = some (.ref a.kinds)
  k_kinds : PySem.W.keepIn K (.ref a.kinds) = true
  g_least : mg "least" = some (.ref a.least)
  k_least : PySem.W.keepIn K (.ref a.least) = true
  g_purse : mg "_law_purse" = some (.ref a.purse)
  k_purse : PySem.W.keepIn K (.ref a.purse) = true
  g_coin : mg "_law_coin" = some (.ref a.coin)
  k_coin : PySem.W.keepIn K (.ref a.coin) = true
  g_qt_letters : mg "_law_qt_letters" = some (.ref a.qt_letters)
  k_qt_letters : PySem.W.keepIn K (.ref a.qt_letters) = true
  g_qt_least : mg "_law_qt_least" = some (.ref a.qt_least)
  k_qt_least : PySem.W.keepIn K (.ref a.qt_least) = true
  g_qt_spoil : mg "_law_qt_spoil" = some (.ref a.qt_spoil)
  k_qt_spoil : PySem.W.keepIn K (.ref a.qt_spoil) = true
  g_qt_copy : mg "_law_qt_copy" = some (.ref a.qt_copy)
  k_qt_copy : PySem.W.keepIn K (.ref a.qt_copy) = true
  g_qt_sheet : mg "_law_qt_sheet" = some (.ref a.qt_sheet)
  k_qt_sheet : PySem.W.keepIn K (.ref a.qt_sheet) = true
  g_qt_renumbered : mg "_law_qt_renumbered" = some (.ref a.qt_renumbered)
  k_qt_renumbered : PySem.W.keepIn K (.ref a.qt_renumbered) = true
  g_qt_bent : mg "_law_qt_bent" = some (.ref a.qt_bent)
  k_qt_bent : PySem.W.keepIn K (.ref a.qt_bent) = true
  g_right : mg "_law_right" = some (.ref a.right)
  k_right : PySem.W.keepIn K (.ref a.right) = true
  g_law : mg "law" = some (.ref a.law)
  k_law : PySem.W.keepIn K (.ref a.law) = true
  b_int : mg "int" = none
  b_len : mg "len" = none
  b_max : mg "max" = none
  b_min : mg "min" = none
  b_abs : mg "abs" = none
  b_repr : mg "repr" = none
  b_isinstance : mg "isinstance" = none
  b_list : mg "list" = none
  b_tuple : mg "tuple" = none
  b_range : mg "range" = none
  b_sorted : mg "sorted" = none
  b_all : mg "all" = none
  b_zip : mg "zip" = none
  g_PICTURES : mg "PICTURES" = some (.str abcS a.t_PICTURES)
theorem Txt.err {K : PySem.W.Frag} {mg : Str → Option Value} {a : Ad} (T : Txt K mg a) : ∀ i, ErrC K (a.err i) a.init
  | 0 => T.e_FilmError | _ + 1 => T.e_InvalidTable
section
variable {K : PySem.W.Frag} {mg : Str → Option Value} {a : Ad}
theorem Txt.isE (T : Txt K mg a) (i j : Nat) (h : i ≤ 1) (h1 : 1 ≤ j) (h2 : j ≤ 1) : PySem.W.kitOne K (.ref (a.err i)) (.ref (a.err j)) = some (decide (i = j)) := by
  have s := T.subs i j h h2
  rw [decide_eq_false (show ¬ j = 0 by omega), Bool.or_false] at s
  refine kit_one (T.cls j h2) (T.err j).oe.tyC s fun e => ?_
  -- a class stands under itself
  have s2 := T.subs j i h2 h
  by_cases z : i = j
  · exact decide_eq_true z
  · rw [e, T.subs j j h2 h2, decide_eq_true rfl, Bool.true_or, decide_eq_false z] at s
    cases s
theorem Txt.isF (T : Txt K mg a) (i : Nat) (h : i ≤ 1) : PySem.W.exmOne K (.ref (a.err i)) (.ref a.FilmError) = some true := by
  have s := T.subs i 0 h (by decide)
  rw [decide_eq_true (show 0 = 0 from rfl), Bool.or_true] at s
  exact kit_exm T.e_FilmError.oe.exC (T.cls 0 (by decide)) T.e_FilmError.oe.tyC s
end
section
variable {P : Program} {w : World} {K : PySem.W.Frag} {mg : Str → Option Value} {base : Heap} {a : Ad}
abbrev s_FilmError___init__ : Stmt := inClass (top 1) 0
theorem sc_FilmError___init__ : FnScope ["self", "value"] ["self", "value"] (defScope s_FilmError___init__) := ⟨rfl, rfl, rfl, by decide +kernel, rfl, by decide +kernel, by decide +kernel⟩
theorem ok_init {f : Addr} {fd : FuncData} (F : Fun K "__init__" "FilmError.__init__" s_FilmError___init__ f fd) : FnOk P w K mg base CX0 1 f fd ["self", "value"] (spErrInit K) := by
  refine F.ok sc_FilmError___init__ (fun vs H Q E h => by obtain ⟨a, C, v, rfl, _⟩ := h; rfl) (fun cdv A outer s H vs Q E hr h => ?_)
  refine ⟨_, (pss_one (ps_ost (pv 0) (pv 1))), ?_⟩
  obtain ⟨a, C, v, rfl, ha, oe, no, k⟩ := h
  exact ⟨_, rfl, _, rfl, a, C, rfl, oe, no, .inl ⟨ha, k⟩⟩
theorem tail_cps (x : Str) : (cutS x (some 1) none).cps.toList = x.cps.toList.drop 1 := by
  show ((x.cps.toList.drop (HT.sIx x.length 0 (some ((1 : Nat) : Int)))).take (x.length - HT.sIx x.length 0 (some ((1 : Nat) : Int)))) = _
  rw [HT.sIx_nat]
  rcases Nat.le_total 1 x.length with q | q
  · rw [Nat.min_eq_left q]
    exact List.take_of_length_le (by rw [List.length_drop, ← len_ls]; exact Nat.le_refl _)
  · rw [Nat.min_eq_right q, Nat.sub_self]
    have : x.cps.toList.drop 1 = [] := List.drop_of_length_le (by rw [← len_ls]; exact q)
    rw [this]; rfl
theorem tailV (xs : List V) : cutV xs (some 1) none = xs.drop 1 := by
  unfold cutV
  show ((xs.drop (HT.sIx xs.length 0 (some ((1 : Nat) : Int)))).take (xs.length - HT.sIx xs.length 0 (some ((1 : Nat) : Int)))) = _
  rw [HT.sIx_nat]
  rcases Nat.le_total 1 xs.length with q | q
  · rw [Nat.min_eq_left q]
    exact List.take_of_length_le (by rw [List.length_drop]; exact Nat.le_refl _)
  · rw [Nat.min_eq_right q, Nat.sub_self, List.drop_of_length_le (Nat.le_refl _), List.drop_of_length_le q]
    rfl
theorem next_lt {l : List Nat} {i c d : Nat} (h : l.Pairwise (· < ·)) (ec : l[i]? = some c) (ed : (l.drop 1)[i]? = some d) : c < d := by
  rw [List.getElem?_drop] at ed
  obtain ⟨hi, rfl⟩ := List.getElem?_eq_some_iff.mp ec
  obtain ⟨hj, rfl⟩ := List.getElem?_eq_some_iff.mp ed
  exact List.pairwise_iff_getElem.mp h i (1 + i) hi hj (by omega)
theorem all_true (n : Nat) : (List.replicate n true).all id = true := List.all_eq_true.mpr fun b hb => List.eq_of_mem_replicate hb
abbrev s_ascends : Stmt := top 7
theorem sc_ascends : FnScope ["things", "low", "high"] ["things"] (defScope s_ascends) := ⟨rfl, rfl, rfl, by decide +kernel, rfl, by decide +kernel, by decide +kernel⟩
/-- ascending signs, or ascending numbers -/
def spAsc (K : PySem.W.Frag) : Sp := fun vs H Q _ => (∃ (x : Str), vs = [.str x] ∧ x.cps.toList.Pairwise (· < ·) ∧ x.length ≤ 1000 ∧ ∀ H', Same H H' → Q (.bl true) H') ∨
  ∃ (a : Addr) (ns : List Nat), vs = [.ref a] ∧ H a = some (.lst (nats ns)) ∧ ns.Pairwise (· < ·) ∧ ns.length ≤ 1000 ∧ ∀ H', Same H H' → Q (.bl true) H'
theorem ok_ascends {f : Addr} {fd : FuncData} (F : Fun K "_ascends" "_ascends" s_ascends f fd) (T : Txt K mg a) : FnOk P w K mg base CX0 1 f fd ["things"] (spAsc K) := by
  refine F.ok sc_ascends (fun vs H Q E h => by rcases h with ⟨x, rfl, _⟩ | ⟨x, y, rfl, _⟩ <;> rfl) (fun cdv A outer s H vs Q E hr h => ?_)
  refine ⟨_, (pss_one (ps_ret (pe_callB (cr_all rfl) (by rfl) T.b_all (by decide +kernel) (pa_cons (pe_lc (own := [("low", 1), ("high", 2)]) (g := _) (tt := tYes) rfl sc_ascends.nd (pi_zipB rfl T.b_zip (pa_cons (pv 0) (pa_cons (pe_slice (SlR.or sl_str sl_list) (pv 0) (po_some pe_int) po_none) pa_nil))) (blkOk_by (own := [("low", 1), ("high", 2)]) (N := ["things", "low", "high"]) (sc := defScope s_ascends) (by decide +kernel)) (fun _ _ _ _ _ => pg_tupK (K := K) (n := 2) rfl (pgs_cons (pg_name (i := 1) sc_ascends.nd rfl (Or.inl rfl)) (pgs_cons (pg_name (i := 2) sc_ascends.nd rfl (Or.inl rfl)) pgs_nil))) (fun _ _ _ _ _ => pts_nil) (fun _ _ _ _ _ => (pe_cmpR (OpR.or op_lt op_lt_str) (pv 1) (pv 2) (nomark _)))) pa_nil)))), ?_⟩
  rcases h with ⟨x, rfl, hx, lx, k⟩ | ⟨l, ns, rfl, hl, hn, ln, k⟩
  · refine ⟨_, rfl, _, rfl, _, rfl, .inl ⟨x, rfl, Nat.le_trans lx (small_line (by decide)), .inl ⟨x, _, rfl, fun D hD => ?_⟩⟩⟩
    refine lc_it (walk_zs rfl) (fun i H' => ∃ H0, Same H H0 ∧ H0 D = none ∧ H' = upd H0 D (.lst (List.replicate i (.bl true)))) ⟨H, Same.refl _, hD, rfl⟩ (fun _ _ _ _ => trivial) ?_ ?_
    · rintro i v H1 H2 hi ⟨H0, s0, n0, rfl⟩ ⟨T', c, d, rfl, hT, rfl, ec, ed⟩
      obtain ⟨hT0, nT⟩ := free_old hT
      have lt : c < d := by
        refine next_lt hx (i := i) (by rw [Array.getElem?_toList]; exact ec) ?_
        rw [← tail_cps, Array.getElem?_toList]
        exact ed
      refine ⟨T', _, rfl, SqT.of upd_same, rfl, _, _, rfl, _, _, rfl, rfl, rfl, ?_⟩
      refine ⟨_, rfl, _, rfl, .inr ⟨_, _, rfl, rfl, _, upd_old upd_same hT, ?_, ?_⟩⟩
      · rw [List.length_replicate]
        have hi : i < min x.cps.size _ := hi
        exact small_lt (by have : x.cps.size = x.length := rfl; omega)
      · refine ⟨upd H0 T' (.tup [.str ⟨#[c]⟩, .str ⟨#[d]⟩]), same_new s0 hT0, by rw [upd_ne nT.symm]; exact n0, ?_⟩
        have e : decide ((⟨#[c]⟩ : Str).cps.toList < (⟨#[d]⟩ : Str).cps.toList) = true := decide_eq_true (show [c] < [d] from List.Lex.rel lt)
        rw [upd_swap nT, upd_upd, e, List.replicate_succ']
    · rintro H1 ⟨H0, s0, n0, rfl⟩
      generalize (min _ _ : Nat) = n
      refine ⟨D, List.replicate n true, rfl, SqL.of ?_, ?_⟩
      · rw [List.map_replicate]
        exact upd_same
      · rw [all_true]
        exact k _ (same_new s0 n0)
  · refine ⟨_, rfl, _, rfl, _, rfl, .inr ⟨l, _, rfl, SqL.of hl, fun q hq => .inr ⟨l, q, _, _, rfl, SqL.of (upd_old hl hq), SqL.of upd_same, fun D hD => ?_⟩⟩⟩
    have sq := same_new (u := .lst (cutV (nats ns) (some 1) none)) (Same.refl H) hq
    have l0 := upd_old (u := .lst (cutV (nats ns) (some 1) none)) hl hq
    have q0 := upd_same (H := H) (a := q) (o := .lst (cutV (nats ns) (some 1) none))
    generalize upd H q _ = Hq at sq l0 q0 hD
    refine lc_it (walk_zip (xs := nats ns) (ys := cutV (nats ns) (some 1) none) rfl) (fun i H' => ∃ H0, Same Hq H0 ∧ H0 D = none ∧ H' = upd H0 D (.lst (List.replicate i (.bl true)))) ⟨Hq, Same.refl _, hD, rfl⟩ (fun i H' _ p => ?_) ?_ ?_
    · obtain ⟨H0, s0, n0, rfl⟩ := p
      exact ⟨SqL.of (upd_old (s0 _ _ l0) n0), SqL.of (upd_old (s0 _ _ q0) n0)⟩
    · rintro i v H1 H2 hi ⟨H0, s0, n0, rfl⟩ ⟨T', x1, x2, rfl, hT, rfl, ec, ed⟩
      obtain ⟨hT0, nT⟩ := free_old hT
      rw [tailV] at ed
      unfold nats at ec ed
      rw [← List.map_drop] at ed
      obtain ⟨c, ec2, rfl⟩ := map_at ec
      obtain ⟨d, ed2, rfl⟩ := map_at ed
      have lt := next_lt hn ec2 ed2
      refine ⟨T', _, rfl, SqT.of upd_same, rfl, _, _, rfl, _, _, rfl, rfl, rfl, ?_⟩
      refine ⟨_, rfl, _, rfl, .inl ⟨_, _, rfl, rfl, _, upd_old upd_same hT, ?_, ?_⟩⟩
      · rw [List.length_replicate]
        have := (List.getElem?_eq_some_iff.mp ec2).1
        exact small_lt (by omega)
      · refine ⟨upd H0 T' (.tup [.int c, .int d]), same_new s0 hT0, by rw [upd_ne nT.symm]; exact n0, ?_⟩
        have e : decide ((c : Int) < (d : Int)) = true := decide_eq_true (by omega)
        rw [upd_swap nT, upd_upd]
        show upd _ D (.lst (List.replicate i (V.bl true) ++ [V.bl (decide ((c : Int) < (d : Int)))])) = _
        rw [e, List.replicate_succ']
    · rintro H1 ⟨H0, s0, n0, rfl⟩
      generalize (min _ _ : Nat) = n
      refine ⟨D, List.replicate n true, rfl, SqL.of ?_, ?_⟩
      · rw [List.map_replicate]
        exact upd_same
      · rw [all_true]
        exact k _ ((sq.trans s0).trans (same_new (Same.refl _) n0))
abbrev s_are_states : Stmt := top 8
theorem sc_are_states : FnScope ["numbers", "rows", "number"] ["numbers", "rows"] (defScope s_are_states) := ⟨rfl, rfl, rfl, by decide +kernel, rfl, by decide +kernel, by decide +kernel⟩
/-- numbers of rows, all of them -/
def spAre (K : PySem.W.Frag) : Sp := fun vs H Q _ => ∃ (l r : Addr) (ns : List Nat) (xs : List V), vs = [.ref l, .ref r] ∧ H l = some (.lst (nats ns)) ∧ H r = some (.lst xs) ∧ ns.length ≤ 1000 ∧ (∀ n ∈ ns, n < xs.length) ∧ ∀ H', Same H H' → Q (.bl true) H'
theorem ok_are_states {f : Addr} {fd : FuncData} (F : Fun K "_are_states" "_are_states" s_are_states f fd) (T : Txt K mg a) : FnOk P w K mg base CX0 1 f fd ["numbers", "rows"] (spAre K) := by
  refine F.ok sc_are_states (fun vs H Q E h => by obtain ⟨l, r, ns, xs, rfl, _⟩ := h; rfl) (fun cdv A outer s H vs Q E hr h => ?_)
  refine ⟨_, (pss_one (ps_ret (pe_callB (cr_all rfl) (by rfl) T.b_all (by decide +kernel) (pa_cons (pe_lc (own := [("number", 2)]) (g := gName 2) (tt := tYes) rfl sc_are_states.nd (pi_list (pv 0)) (blkOk_by (own := [("number", 2)]) (N := ["numbers", "rows", "number"]) (sc := defScope s_are_states) (by decide +kernel)) (fun _ _ _ _ _ => pg_name (i := 2) sc_are_states.nd rfl (Or.inl rfl)) (fun _ _ _ _ _ => pts_nil) (fun _ _ _ _ _ => (pe_chain op_le op_lt pe_int (pv 2) (pe_callB (call_len_seqK (K := K)) (by rfl) T.b_len PySem.boot_len (pa_cons (pv 1) pa_nil))))) pa_nil)))), ?_⟩
  obtain ⟨l, r, ns, xs, rfl, hl, hx, ln, hn, k⟩ := h
  refine ⟨_, rfl, l, rfl, ⟨_, SqL.of hl⟩, fun D hD => ?_⟩
  refine lc_list (xs := nats ns) (fun i H' => H' = upd H D (.lst (List.replicate i (.bl true)))) rfl (fun i H' _ q => by rw [q]; exact SqL.of (upd_old hl hD)) ?_ ?_
  · rintro i v H1 hv rfl
    unfold nats at hv
    obtain ⟨c, ec, rfl⟩ := map_at hv
    have hc := hn c (List.mem_of_getElem? ec)
    have hi := (List.getElem?_eq_some_iff.mp ec).1
    refine ⟨rfl, _, rfl, _, _, rfl, rfl, _, rfl, ?_⟩
    refine ite2 (fun _ => ?_) (fun z => absurd (decide_eq_true (by omega)) z)
    refine ⟨_, rfl, r, xs, rfl, .inl (SqL.of (upd_old hx hD)), _, _, rfl, rfl, _, upd_same, ?_, ?_⟩
    · rw [List.length_replicate]; exact small_lt (by omega)
    · have e : decide ((c : Int) < (xs.length : Int)) = true := decide_eq_true (by omega)
      rw [upd_upd]
      show upd _ D (.lst (List.replicate i (V.bl true) ++ [V.bl (decide ((c : Int) < (xs.length : Int)))])) = _
      rw [e, List.replicate_succ']
  · rintro H1 rfl
    refine ⟨D, List.replicate ns.length true, rfl, SqL.of ?_, ?_⟩
    · rw [List.map_replicate]
      unfold nats
      rw [List.length_map]
      exact upd_same
    · rw [all_true]
      unfold nats
      exact k _ (same_new (Same.refl _) hD)
abbrev s_is_piece : Stmt := top 5
theorem sc_is_piece : FnScope ["text"] ["text"] (defScope s_is_piece) := ⟨rfl, rfl, rfl, by decide +kernel, rfl, by decide +kernel, by decide +kernel⟩
/-- is_piece(text) of letters alone -/
def spPiece : Sp := fun vs H Q _ => ∃ (x : Str), vs = [.str x] ∧ Tx 5000 x ∧ ∀ H', Same H H' → Q (.bl (plain x)) H'
theorem ok_is_piece {f : Addr} {fd : FuncData} (F : Fun K "is_piece" "is_piece" s_is_piece f fd) (T : Txt K mg a) : FnOk P w K mg base CX0 1 f fd ["text"] spPiece := by
  refine F.ok sc_is_piece (fun vs H Q E h => by obtain ⟨x, rfl, _⟩ := h; rfl) (fun cdv A outer s H vs Q E hr h => ?_)
  refine ⟨_, (pss_one (ps_ret (pe_cmpR op_eq (pe_bm PySem.F.plainAttrs_str PySem.F.slot_str_strip PySem.F.type_str_strip mt_stripChars (pv 0) (pa_cons (pe_glob (v := .str abcS) rfl T.g_PICTURES ⟨_, rfl⟩) pa_nil)) pe_str (nomark _)))), ?_⟩
  obtain ⟨x, rfl, hx, k⟩ := h
  rw [← strip_plain] at k
  exact ⟨_, rfl, rfl, _, abcS, rfl, rfl, hx.line (by decide), rfl, k H (Same.refl _)⟩
abbrev s_is_table : Stmt := top 6
theorem sc_is_table : FnScope ["told", "pictures", "rows", "ends", "row"] ["told"] (defScope s_is_table) := ⟨rfl, rfl, rfl, by decide +kernel, rfl, by decide +kernel, by decide +kernel⟩
def spIsT (K : PySem.W.Frag) : Sp := fun vs H Q _ => ∃ (p r g : Addr) (x : Str) (rs : Rows) (es : List Nat), vs = [.ref p] ∧ Sh K H p r g x rs es ∧ Tbl x rs es ∧ ∀ H', Same H H' → Q (.bl true) H'
theorem ok_is_table {f : Addr} {fd fd1 fd2 fd3 : FuncData} (F : Fun K "is_table" "is_table" s_is_table f fd) (T : Txt K mg a) (c_is_piece : Cal P w K mg base 1 a.is_piece fd1 ["text"] spPiece) (c_ascends : Cal P w K mg base 1 a.ascends fd2 ["things"] (spAsc K))
    (c_are_states : Cal P w K mg base 1 a.are_states fd3 ["numbers", "rows"] (spAre K)) : FnOk P w K mg base CX0 2 f fd ["told"] (spIsT K) := by
  refine F.ok sc_is_table (fun vs H Q E h => by obtain ⟨p, r, g, x, rs, es, rfl, _⟩ := h; rfl) (fun cdv A outer s H vs Q E hr h => ?_)
  have hr_is_piece := hr
  have hr_ascends := hr
  have hr_are_states := hr
  refine ⟨_, (pss_cons (ps_if (pt_cmpR op_ne (pe_callB call_len_seq (by rfl) T.b_len PySem.boot_len (pa_cons (pv 0) pa_nil)) pe_int (nomark _)) (pss_one (ps_ret pe_bl)) pss_nil)
      (pss_cons (ps_asg (pv 0) (pg_tup rfl (pgs_cons (pg_name (i := 1) sc_is_table.nd rfl (Or.inl rfl)) (pgs_cons (pg_name (i := 2) sc_is_table.nd rfl (Or.inl rfl)) (pgs_cons (pg_name (i := 3) sc_is_table.nd rfl (Or.inl rfl)) pgs_nil)))))
      (pss_cons (ps_if (PW.pt (pw_or (pt_not (pt_val (pe_call c_is_piece.ok hr_is_piece rfl T.g_is_piece T.k_is_piece c_is_piece.binds .nil pass0 (pa_cons (pv 1) pa_nil)))) (pw_or (pt_not (pt_val (pe_call c_ascends.ok hr_ascends rfl T.g_ascends T.k_ascends c_ascends.binds .nil pass0 (pa_cons (pv 1) pa_nil)))) (pw_or1 (pt_cmpR op_eq (pe_callB call_len_seq (by rfl) T.b_len PySem.boot_len (pa_cons (pv 2) pa_nil)) pe_int (nomark _)))))) (pss_one (ps_ret pe_bl)) pss_nil)
      (pss_cons (ps_for PassesOwn.never rfl (pi_list (pv 2)) (pg_name (i := 4) sc_is_table.nd rfl (Or.inl rfl))
      (pss_one (ps_if (PW.pt (pw_or (pt_cmpR op_ne (pe_callB call_len_seq (by rfl) T.b_len PySem.boot_len (pa_cons (pv 4) pa_nil)) (pe_callB call_len_str (by rfl) T.b_len PySem.boot_len (pa_cons (pv 1) pa_nil)) (nomark _)) (pw_or1 (pt_not (pt_val (pe_call c_are_states.ok hr_are_states rfl T.g_are_states T.k_are_states c_are_states.binds .nil pass0 (pa_cons (pv 4) (pa_cons (pv 2) pa_nil)))))))) (pss_one (ps_ret pe_bl)) pss_nil)))
      (pss_one (ps_ret (pe_and (pe_call c_ascends.ok hr_ascends rfl T.g_ascends T.k_ascends c_ascends.binds .nil pass0 (pa_cons (pv 3) pa_nil)) (pe_one (pe_call c_are_states.ok hr_are_states rfl T.g_are_states T.k_are_states c_are_states.binds .nil pass0 (pa_cons (pv 3) (pa_cons (pv 2) pa_nil))))))))))), ?_⟩
  obtain ⟨p, r, g, x, rs, es, rfl, sh, tb, k⟩ := h
  have wx := tb.wd
  have xl := wx.len
  have n0 := tb.n0
  have n9 := tb.n9
  have lr : (rrefs rs).length = rs.length := List.length_map ..
  refine ⟨_, rfl, p, _, rfl, .inr sh.p, rfl, _, rfl, ?_⟩
  refine iteNS rfl ?_
  refine ⟨_, rfl, p, _, rfl, sh.p, rfl, _, _, rfl, _, _, rfl, _, _, rfl, rfl, ?_⟩
  refine ⟨_, rfl, x, rfl, wx.tx.mono (by decide), fun H1 s1 => ?_⟩
  rw [wx.pl]
  refine ⟨_, rfl, iteF ?_⟩
  refine ⟨_, rfl, .inl ⟨x, rfl, tb.asc, by omega, fun H2 s2 => ⟨_, rfl, iteF ?_⟩⟩⟩
  have s12 := s1.trans s2
  have sh2 := sh.mono s12
  refine ⟨_, rfl, r, _, rfl, .inl (SqL.of sh2.r), rfl, _, rfl, ?_⟩
  rw [lr]
  refine ite2 (fun c => absurd (V.int.inj (of_decide_eq_true c)) (by omega)) (fun _ => ?_)
  refine ⟨_, rfl, r, rfl, ⟨_, SqL.of sh2.r⟩, for_list (xs := rrefs rs) (fun i σ H' => ∃ x4, σ = [some (.ref p), some (.str x), some (.ref r), some (.ref g), x4] ∧ Same H H') ⟨_, rfl, s12⟩ (fun i σ H' _ q => by obtain ⟨_, _, s'⟩ := q; exact SqL.of (s' _ _ sh.r)) ?_ ?_⟩
  · rintro i v σ H3 hv ⟨x4, rfl, s3⟩
    obtain ⟨q, eq, rfl⟩ := map_at hv
    have mq := List.mem_of_getElem? eq
    obtain ⟨lq, hq⟩ := tb.row q mq
    have sh3 := sh.mono s3
    have row3 := sh3.q q mq
    have ln : (nats q.2).length = x.length := by unfold nats; rw [List.length_map]; exact lq
    refine ⟨_, rfl, q.1, _, rfl, .inl (SqL.of row3), _, rfl, x, rfl, wx.tx.line (by decide), rfl, _, rfl, ?_⟩
    refine iteNS (by rw [ln]) ?_
    exact ⟨_, rfl, _, rfl, q.1, r, q.2, _, rfl, row3, sh3.r, by omega, fun n hn => by rw [lr]; exact hq n hn, fun H4 s4 => ⟨_, rfl, iteF ⟨_, rfl, s3.trans s4⟩⟩⟩
  · rintro σ H3 ⟨x4, rfl, s3⟩
    have sh3 := sh.mono s3
    refine ⟨_, rfl, .inr ⟨g, es, rfl, sh3.g, tb.ea, tb.e9, fun H4 s4 => ⟨_, rfl, iteT ?_⟩⟩⟩
    have sh4 := sh3.mono s4
    exact ⟨_, rfl, _, rfl, g, r, es, _, rfl, sh4.g, sh4.r, tb.e9, fun n hn => by rw [lr]; exact tb.el n hn, fun H5 s5 => k _ ((s3.trans s4).trans s5)⟩
abbrev s_check_table : Stmt := top 9
theorem sc_check_table : FnScope ["told"] ["told"] (defScope s_check_table) := ⟨rfl, rfl, rfl, by decide +kernel, rfl, by decide +kernel, by decide +kernel⟩
def spNo : Sp := fun _ _ _ _ => False
/-- a right table is let -/
def spChkT (K : PySem.W.Frag) : Sp := fun vs H Q _ => ∃ (p r g : Addr) (x : Str) (rs : Rows) (es : List Nat), vs = [.ref p] ∧ Sh K H p r g x rs es ∧ Tbl x rs es ∧ ∀ H', Same H H' → Q .non H'
theorem ok_check_table {f : Addr} {fd fd1 fd2 fdI : FuncData} (F : Fun K "check_table" "check_table" s_check_table f fd) (T : Txt K mg a) (c_init : Cal P w K mg base 1 a.init fdI ["self", "value"] (spErrInit K)) (c_is_table : Cal P w K mg base 2 a.is_table fd1 ["told"] (spIsT K))
    (c_copied : Cal P w K mg base 1 a.copied fd2 ["told"] spNo) : FnOk P w K mg base (L2.CX P w) 3 f fd ["told"] (spChkT K) := by
  refine F.okX sc_check_table (fun vs H Q E h => by obtain ⟨p, r, g, x, rs, es, rfl, _⟩ := h; rfl) (fun cdv A outer s H vs Q E hr0 h => ?_)
  have hr : (Room 2 (A.deeper (envOfC "check_table" (defScope s_check_table) s.heap.objs.size f cdv))) := hr0
  have hr_is_table := hr
  have hr_copied : (Room 1 (A.deeper (envOfC "check_table" (defScope s_check_table) s.heap.objs.size f cdv))) := hr0.mono (by decide)
  refine ⟨_, (pss_one (ps_if (pt_not (pt_val (pe_call c_is_table.ok hr_is_table rfl T.g_is_table T.k_is_table c_is_table.binds .nil pass0 (pa_cons (pv 0) pa_nil)))) (pss_one (ps_raise rfl (takes_of rfl rfl rfl rfl) (pmk_oex T.e_InvalidTable.oe T.e_InvalidTable.iC T.e_InvalidTable.tI c_init.ok hr c_init.binds .nil pass0 rfl T.g_InvalidTable (pa_cons (pe_call c_copied.ok hr_copied rfl T.g_copied T.k_copied c_copied.binds .nil pass0 (pa_cons (pv 0) pa_nil)) pa_nil)))) pss_nil)), ?_⟩
  obtain ⟨p, r, g, x, rs, es, rfl, sh, tb, k⟩ := h
  exact ⟨_, rfl, p, r, g, x, rs, es, rfl, sh, tb, fun H1 s1 => ⟨_, rfl, iteF (k _ s1)⟩⟩
end
end K19

namespace Tb
/-! ### tables: states below n, w ways out of each, some of them ends -/
structure Tab where
  n : Nat
  w : Nat
  d : Nat → Nat → Nat
  e : Nat → Bool
/-- goes from states to states -/
structure Ok (A : Tab) : Prop where
  pos : 0 < A.n
  lt : ∀ s a, s < A.n → a < A.w → A.d s a < A.n
def run (A : Tab) (s : Nat) : List Nat → Nat
  | [] => s
  | a :: r => run A (A.d s a) r
/-- alike: the same texts lead to ends -/
def Eqv (A : Tab) (s : Nat) (B : Tab) (t : Nat) : Prop := ∀ x : List Nat, (∀ a ∈ x, a < A.w) → A.e (run A s x) = B.e (run B t x)
theorem Eqv.refl (A : Tab) (s : Nat) : Eqv A s A s := fun _ _ => rfl
theorem Eqv.symm {A B : Tab} {s t : Nat} (h : Eqv A s B t) (w : A.w = B.w) : Eqv B t A s := fun x hx => (h x (w ▸ hx)).symm
theorem Eqv.trans {A B C : Tab} {s t u : Nat} (h : Eqv A s B t) (k : Eqv B t C u) (w : A.w = B.w) : Eqv A s C u := fun x hx => (h x hx).trans (k x (w ▸ hx))
theorem Eqv.step {A B : Tab} {s t a : Nat} (h : Eqv A s B t) (ha : a < A.w) : Eqv A (A.d s a) B (B.d t a) := fun x hx => h (a :: x) fun b hb => by
  rcases List.mem_cons.mp hb with z | z
  · rw [z]; exact ha
  · exact hx b z
theorem Eqv.end {A B : Tab} {s t : Nat} (h : Eqv A s B t) : A.e s = B.e t := h [] nofun
/-- each state but the first is met from one ahead of it, at a place ahead of which only lesser ones are met -/
def Bfs (A : Tab) : Prop := ∀ s, 0 < s → s < A.n → ∃ q a, q < s ∧ a < A.w ∧ A.d q a = s ∧ ∀ q' a', a' < A.w → (q' < q ∨ (q' = q ∧ a' < a)) → A.d q' a' < s
/-- no two states are alike -/
def Red (A : Tab) : Prop := ∀ s t, s < A.n → t < A.n → Eqv A s A t → s = t
structure Least (A : Tab) : Prop extends Ok A where
  bfs : Bfs A
  red : Red A
theorem one_le {B C : Tab} (b : Least B) (c : Least C) (w : B.w = C.w) (h : Eqv B 0 C 0) : ∀ s, s < B.n → s < C.n ∧ Eqv B s C s := by
  intro s
  induction s using Nat.strongRecOn with
  | ind s ih =>
    intro hs
    by_cases z : s = 0
    · subst z
      exact ⟨c.pos, h⟩
    obtain ⟨q, a, hq, ha, hd, hm⟩ := b.bfs s (Nat.pos_of_ne_zero z) hs
    obtain ⟨qc, eq⟩ := ih q hq (Nat.lt_trans hq hs)
    have et : Eqv B s C (C.d q a) := by
      have := eq.step ha
      rw [hd] at this
      exact this
    have tc : C.d q a < C.n := c.lt q a qc (w ▸ ha)
    suffices e : C.d q a = s by rw [e] at et tc; exact ⟨tc, et⟩
    rcases Nat.lt_trichotomy (C.d q a) s with lt | e | gt
    · obtain ⟨_, e2⟩ := ih _ lt (Nat.lt_trans lt hs)
      exact (b.red s _ hs (Nat.lt_trans lt hs) (et.trans (e2.symm w) w)).symm
    · exact e
    · exfalso
      obtain ⟨q', a', hq', ha', hd', hm'⟩ := c.bfs s (Nat.pos_of_ne_zero z) (Nat.lt_trans gt tc)
      have step : ∀ r, r < s → B.d q' a' = r → False := fun r hr er => by
        obtain ⟨qc', eq'⟩ := ih q' hq' (Nat.lt_trans hq' hs)
        have e1 := eq'.step (w ▸ ha' : a' < B.w)
        rw [er, hd'] at e1
        obtain ⟨rc, e2⟩ := ih r hr (Nat.lt_trans hr hs)
        have := c.red r s rc (Nat.lt_trans gt tc) ((e2.symm w).trans e1 w.symm)
        omega
      by_cases before : q' < q ∨ (q' = q ∧ a' < a)
      · exact step _ (hm q' a' (w ▸ ha') before) rfl
      · by_cases same : q' = q ∧ a' = a
        · rw [same.1, same.2] at hd'
          omega
        · have := hm' q a (w ▸ ha) (by omega)
          omega
/-- there is one alone -/
theorem Least.one {B C : Tab} (b : Least B) (c : Least C) (w : B.w = C.w) (h : Eqv B 0 C 0) : B.n = C.n ∧ (∀ s, s < B.n → B.e s = C.e s) ∧ ∀ s a, s < B.n → a < B.w → B.d s a = C.d s a := by
  have f := one_le b c w h
  have g := one_le c b w.symm (h.symm w)
  have n : B.n = C.n := by
    rcases Nat.lt_trichotomy B.n C.n with lt | e | gt
    · have := (g B.n lt).1; omega
    · exact e
    · have := (f C.n gt).1; omega
  refine ⟨n, fun s hs => (f s hs).2.end, fun s a hs ha => ?_⟩
  have e1 := (f s hs).2.step ha
  have hu := b.lt s a hs ha
  have e2 := (f _ hu).2
  exact c.red _ _ (n ▸ hu) (c.lt s a (n ▸ hs) (w ▸ ha)) ((e2.symm w).trans e1 w.symm)
/-! ### parts of a table that is met in order -/
/-- the kinds tell which states are alike, and are numbered as they come -/
structure Kinds (A : Tab) (k : Nat → Nat) (m : Nat) : Prop where
  eqv : ∀ s t, s < A.n → t < A.n → (k s = k t ↔ Eqv A s A t)
  num : ∀ s v, s < A.n → v < k s → ∃ t, t < s ∧ k t = v
  lt : ∀ s, s < A.n → k s < m
  all : ∀ v, v < m → ∃ s, s < A.n ∧ k s = v
/-- the table of the kinds, by the first state of each -/
theorem quo {A B : Tab} {k f : Nat → Nat} (ok : Ok A) (bfs : Bfs A) (K : Kinds A k B.n) (w : B.w = A.w) (f1 : ∀ v, v < B.n → f v < A.n ∧ k (f v) = v) (f2 : ∀ v s, v < B.n → s < A.n → k s = v → f v ≤ s)
    (hd : ∀ v a, v < B.n → a < A.w → B.d v a = k (A.d (f v) a)) (he : ∀ v, v < B.n → B.e v = A.e (f v)) : Least B ∧ ∀ s, s < A.n → Eqv A s B (k s) := by
  have al : ∀ s, s < A.n → Eqv A s A (f (k s)) := fun s hs => by
    obtain ⟨a1, a2⟩ := f1 (k s) (K.lt s hs)
    exact (K.eqv s _ hs a1).mp a2.symm
  have go : ∀ s, s < A.n → ∀ a, a < A.w → B.d (k s) a = k (A.d s a) := fun s hs a ha => by
    have lt := K.lt s hs
    rw [hd _ a lt ha]
    exact ((K.eqv _ _ (ok.lt s a hs ha) (ok.lt _ a (f1 _ lt).1 ha)).mpr ((al s hs).step ha)).symm
  have same : ∀ x s, s < A.n → (∀ a ∈ x, a < A.w) → A.e (run A s x) = B.e (run B (k s) x) := by
    intro x
    induction x with
    | nil =>
      intro s hs _
      show A.e s = B.e (k s)
      rw [he _ (K.lt s hs)]
      exact (al s hs).end
    | cons a r ih =>
      intro s hs hx
      have ha := hx a List.mem_cons_self
      show A.e (run A (A.d s a) r) = B.e (run B (B.d (k s) a) r)
      rw [go s hs a ha]
      exact ih _ (ok.lt s a hs ha) fun b hb => hx b (List.mem_cons_of_mem _ hb)
  have eq : ∀ s, s < A.n → Eqv A s B (k s) := fun s hs x hx => same x s hs hx
  refine ⟨⟨⟨Nat.lt_of_le_of_lt (Nat.zero_le _) (K.lt 0 ok.pos), fun s a hs ha => ?_⟩, ?_, ?_⟩, eq⟩
  · rw [hd s a hs (w ▸ ha)]
    exact K.lt _ (ok.lt _ a (f1 s hs).1 (w ▸ ha))
  · intro v v0 hv
    obtain ⟨s0, sk⟩ := f1 v hv
    have s1 : 0 < f v := by
      rcases Nat.eq_zero_or_pos (f v) with z | z
      · obtain ⟨t, ht, _⟩ := K.num (f v) 0 s0 (by rw [sk]; exact v0)
        omega
      · exact z
    obtain ⟨q, a, hq, ha, hdq, hm⟩ := bfs (f v) s1 s0
    have qn := Nat.lt_trans hq s0
    -- what comes ahead of the first of kind v is of lesser kind
    have les : ∀ t, t < f v → k t < v := fun t ht => by
      have tn := Nat.lt_trans ht s0
      rcases Nat.lt_trichotomy (k t) v with z | z | z
      · exact z
      · have := f2 v t hv tn z
        omega
      · obtain ⟨u, hu, ku⟩ := K.num t v tn z
        have := f2 v u hv (Nat.lt_trans hu tn) ku
        omega
    have kq := les q hq
    refine ⟨k q, a, kq, w ▸ ha, by rw [go q qn a ha, hdq, sk], fun q' a' ha' before => ?_⟩
    have ha' : a' < A.w := w ▸ ha'
    have q'n : q' < B.n := by omega
    rw [hd q' a' q'n ha']
    refine les _ (hm (f q') a' ha' ?_)
    obtain ⟨g1, g2⟩ := f1 q' q'n
    rcases before with lt | ⟨e, lt⟩
    · left
      -- a lesser kind comes first ahead
      obtain ⟨t, ht, kt⟩ := K.num q q' qn lt
      exact Nat.lt_of_le_of_lt (f2 q' t q'n (Nat.lt_trans ht qn) kt) ht
    · have := f2 q' q q'n qn e.symm
      rcases Nat.lt_or_ge (f q') q with z | z
      · exact .inl z
      · exact .inr ⟨by omega, lt⟩
  · intro u v hu hv h
    obtain ⟨a1, a2⟩ := f1 u hu
    obtain ⟨b1, b2⟩ := f1 v hv
    have e1 := eq _ a1
    have e2 := eq _ b1
    rw [a2] at e1
    rw [b2] at e2
    have e := (K.eqv _ _ a1 b1).mpr ((e1.trans h w.symm).trans (e2.symm w.symm) w.symm)
    rw [a2, b2] at e
    exact e
/-! ### a table renumbered by the order in which its states are met -/
/-- the order in which the states are met from the first one -/
structure Order (A : Tab) (o : List Nat) : Prop where
  nd : o.Nodup
  lt : ∀ s ∈ o, s < A.n
  first : o[0]? = some 0
  met : ∀ i s, 0 < i → o[i]? = some s → ∃ p q a, p < i ∧ o[p]? = some q ∧ a < A.w ∧ A.d q a = s ∧ ∀ p' q' a', o[p']? = some q' → a' < A.w → (p' < p ∨ (p' = p ∧ a' < a)) → ∃ j, j < i ∧ o[j]? = some (A.d q' a')
  cl : ∀ s ∈ o, ∀ a, a < A.w → A.d s a ∈ o
theorem ren {A B : Tab} {o : List Nat} (ok : Ok A) (O : Order A o) (w : B.w = A.w) (n : B.n = o.length) (hd : ∀ i s a, o[i]? = some s → a < A.w → o[B.d i a]? = some (A.d s a)) (he : ∀ i s, o[i]? = some s → B.e i = A.e s) :
    Ok B ∧ Bfs B ∧ ∀ i s, o[i]? = some s → Eqv A s B i := by
  have lt : ∀ {i s}, o[i]? = some s → i < B.n := fun {i s} h => by
    rw [n]
    exact (List.getElem?_eq_some_iff.mp h).1
  have at_ : ∀ i, i < B.n → ∃ s, o[i]? = some s := fun i hi => ⟨o[i]'(n ▸ hi), List.getElem?_eq_getElem (n ▸ hi)⟩
  have inj : ∀ {i j s}, o[i]? = some s → o[j]? = some s → i = j := fun {i j s} h h' => by
    obtain ⟨hi, ei⟩ := List.getElem?_eq_some_iff.mp h
    obtain ⟨hj, ej⟩ := List.getElem?_eq_some_iff.mp h'
    have nd := List.pairwise_iff_getElem.mp O.nd
    rcases Nat.lt_trichotomy i j with z | z | z
    · exact absurd (ei.trans ej.symm) (nd i j hi hj z)
    · exact z
    · exact absurd (ej.trans ei.symm) (nd j i hj hi z)
  have same : ∀ x i s, o[i]? = some s → (∀ a ∈ x, a < A.w) → A.e (run A s x) = B.e (run B i x) := by
    intro x
    induction x with
    | nil => exact fun i s h _ => (he i s h).symm
    | cons a r ih => exact fun i s h hx => ih _ _ (hd i s a h (hx a List.mem_cons_self)) fun b hb => hx b (List.mem_cons_of_mem _ hb)
  refine ⟨⟨lt O.first, fun i a hi ha => ?_⟩, ?_, fun i s h x hx => same x i s h hx⟩
  · obtain ⟨s, h⟩ := at_ i hi
    exact lt (hd i s a h (w ▸ ha))
  · intro i i0 hi
    obtain ⟨s, h⟩ := at_ i hi
    obtain ⟨p, q, a, hp, hq, ha, e, m⟩ := O.met i s i0 h
    have e1 := hd p q a hq ha
    rw [e] at e1
    refine ⟨p, a, hp, w ▸ ha, inj e1 h, fun p' a' ha' before => ?_⟩
    have p'n : p' < B.n := by omega
    obtain ⟨q', h'⟩ := at_ p' p'n
    obtain ⟨j, hj, ej⟩ := m p' q' a' h' (w ▸ ha') before
    have e2 := hd p' q' a' h' (w ▸ ha')
    rw [inj e2 ej]
    exact hj
/-! ### finer and finer kinds -/
/-- alike states are of one kind, those of one kind are ends or none -/
structure Inv (A : Tab) (S : Nat → Prop) (k : Nat → Nat) : Prop where
  eqv : ∀ s t, S s → S t → Eqv A s A t → k s = k t
  e : ∀ s t, S s → S t → k s = k t → A.e s = A.e t
/-- one step finer -/
def Finer (A : Tab) (S : Nat → Prop) (k k' : Nat → Nat) : Prop := ∀ s t, S s → S t → (k' s = k' t ↔ k s = k t ∧ ∀ a, a < A.w → k (A.d s a) = k (A.d t a))
theorem Inv.step {A : Tab} {S : Nat → Prop} {k k' : Nat → Nat} (i : Inv A S k) (f : Finer A S k k') (cl : ∀ s a, S s → a < A.w → S (A.d s a)) : Inv A S k' where
  eqv := fun s t hs ht h => (f s t hs ht).mpr ⟨i.eqv s t hs ht h, fun a ha => i.eqv _ _ (cl s a hs ha) (cl t a ht ha) (h.step ha)⟩
  e := fun s t hs ht h => i.e s t hs ht ((f s t hs ht).mp h).1
theorem stable {A : Tab} {S : Nat → Prop} {k k' : Nat → Nat} (i : Inv A S k) (f : Finer A S k k') (cl : ∀ s a, S s → a < A.w → S (A.d s a)) (st : ∀ s t, S s → S t → k s = k t → k' s = k' t) : ∀ s t, S s → S t → (k' s = k' t ↔ Eqv A s A t) := by
  have go : ∀ x s t, S s → S t → k' s = k' t → (∀ a ∈ x, a < A.w) → A.e (run A s x) = A.e (run A t x) := by
    intro x
    induction x with
    | nil => exact fun s t hs ht h _ => i.e s t hs ht ((f s t hs ht).mp h).1
    | cons a r ih =>
      intro s t hs ht h hx
      have ha := hx a List.mem_cons_self
      exact ih _ _ (cl s a hs ha) (cl t a ht ha) (st _ _ (cl s a hs ha) (cl t a ht ha) (((f s t hs ht).mp h).2 a ha)) fun b hb => hx b (List.mem_cons_of_mem _ hb)
  exact fun s t hs ht => ⟨fun h x hx => go x s t hs ht h hx, (i.step f cl).eqv s t hs ht⟩
theorem cover : ∀ (m : Nat) (l : List Nat), (∀ v, v < m → v ∈ l) → m ≤ l.length
  | 0, _, _ => Nat.zero_le _
  | m + 1, l, h => by
    have hm := h m (Nat.lt_succ_self m)
    have := cover m (l.erase m) fun v hv => (List.mem_erase_of_ne (by omega)).mpr (h v (Nat.lt_succ_of_lt hv))
    rw [List.length_erase_of_mem hm] at this
    have := List.length_pos_of_mem hm
    omega
/-- onto as many is one to one -/
theorem onto_inj {m : Nat} {f : Nat → Nat} (h : ∀ v, v < m → ∃ i, i < m ∧ f i = v) {i j : Nat} (hi : i < m) (hj : j < m) (e : f i = f j) : i = j := by
  rcases Nat.lt_trichotomy i j with lt | z | gt
  · exfalso
    have := cover m (((List.range m).erase j).map f) fun v hv => by
      obtain ⟨u, hu, eu⟩ := h v hv
      by_cases z : u = j
      · refine List.mem_map.mpr ⟨i, (List.mem_erase_of_ne (by omega)).mpr (List.mem_range.mpr hi), ?_⟩
        rw [e, ← z, eu]
      · exact List.mem_map.mpr ⟨u, (List.mem_erase_of_ne z).mpr (List.mem_range.mpr hu), eu⟩
    rw [List.length_map, List.length_erase_of_mem (List.mem_range.mpr hj), List.length_range] at this
    omega
  · exact z
  · exfalso
    have := cover m (((List.range m).erase i).map f) fun v hv => by
      obtain ⟨u, hu, eu⟩ := h v hv
      by_cases z : u = i
      · refine List.mem_map.mpr ⟨j, (List.mem_erase_of_ne (by omega)).mpr (List.mem_range.mpr hj), ?_⟩
        rw [← e, ← z, eu]
      · exact List.mem_map.mpr ⟨u, (List.mem_erase_of_ne z).mpr (List.mem_range.mpr hu), eu⟩
    rw [List.length_map, List.length_erase_of_mem (List.mem_range.mpr hi), List.length_range] at this
    omega
/-- as many kinds as before are the same kinds -/
theorem same_many {S : Nat → Prop} {k k' : Nat → Nat} {m : Nat} (a : ∀ s, S s → k s < m) (b : ∀ v, v < m → ∃ s, S s ∧ k s = v) (a' : ∀ s, S s → k' s < m) (b' : ∀ v, v < m → ∃ s, S s ∧ k' s = v) (r : ∀ s t, S s → S t → k' s = k' t → k s = k t) : ∀ s t, S s → S t → k s = k t → k' s = k' t := by
  -- the coarser kind of a finer one
  have ch : ∀ v, ∃ u, v < m → ∃ s, S s ∧ k' s = v ∧ k s = u := fun v => by
    by_cases hv : v < m
    · obtain ⟨s, hs, e⟩ := b' v hv
      exact ⟨k s, fun _ => ⟨s, hs, e, rfl⟩⟩
    · exact ⟨0, fun h => absurd h hv⟩
  let f := fun v => Classical.choose (ch v)
  have hf : ∀ s, S s → f (k' s) = k s := fun s hs => by
    obtain ⟨t, ht, e, e2⟩ := Classical.choose_spec (ch (k' s)) (a' s hs)
    exact e2.symm.trans (r t s ht hs e)
  intro s t hs ht e
  refine onto_inj (m := m) (f := f) (fun v hv => ?_) (a' s hs) (a' t ht) (by rw [hf s hs, hf t ht, e])
  obtain ⟨u, hu, eu⟩ := b v hv
  exact ⟨k' u, a' u hu, by rw [hf u hu, eu]⟩
/-! ### meeting the states in order -/
/-- what has been met when the row of the state at place t is walked as far as a -/
structure Part (A : Tab) (o : List Nat) (t a : Nat) : Prop where
  nd : o.Nodup
  lt : ∀ s ∈ o, s < A.n
  first : o[0]? = some 0
  met : ∀ i s, 0 < i → o[i]? = some s → ∃ p q b, p < i ∧ o[p]? = some q ∧ b < A.w ∧ A.d q b = s ∧ ∀ p' q' b', o[p']? = some q' → b' < A.w → (p' < p ∨ (p' = p ∧ b' < b)) → ∃ j, j < i ∧ o[j]? = some (A.d q' b')
  done : ∀ p q b, o[p]? = some q → b < A.w → (p < t ∨ (p = t ∧ b < a)) → A.d q b ∈ o
theorem Part.start {A : Tab} (h : 0 < A.n) : Part A [0] 0 0 where
  nd := List.nodup_cons.mpr ⟨nofun, List.nodup_nil⟩
  lt := fun s hs => by rw [List.mem_singleton.mp hs]; exact h
  first := rfl
  met := fun i s hi e => by
    have := (List.getElem?_eq_some_iff.mp e).1
    have : i < 1 := this
    omega
  done := fun p q b _ _ h => by omega
theorem Part.old {A : Tab} {o : List Nat} {t a q : Nat} (h : Part A o t a) (hq : o[t]? = some q) (m : A.d q a ∈ o) : Part A o t (a + 1) where
  nd := h.nd
  lt := h.lt
  first := h.first
  met := h.met
  done := fun p q' b e hb c => by
    by_cases z : p = t ∧ b = a
    · rw [z.1, hq] at e
      cases e
      rw [z.2]; exact m
    · exact h.done p q' b e hb (by omega)
theorem Part.new {A : Tab} {o : List Nat} {t a q : Nat} (h : Part A o t a) (hq : o[t]? = some q) (ha : a < A.w) (hs : A.d q a < A.n) (m : A.d q a ∉ o) : Part A (o ++ [A.d q a]) t (a + 1) := by
  have tl := (List.getElem?_eq_some_iff.mp hq).1
  have old : ∀ {i s : Nat}, o[i]? = some s → (o ++ [A.d q a])[i]? = some s := fun {i s} e => by
    rw [List.getElem?_append_left (List.getElem?_eq_some_iff.mp e).1]
    exact e
  have back : ∀ {i s : Nat}, (o ++ [A.d q a])[i]? = some s → i < o.length → o[i]? = some s := fun {i s} e l => by
    rw [List.getElem?_append_left l] at e
    exact e
  refine ⟨?_, fun s hs' => ?_, old h.first, fun i s hi e => ?_, fun p q' b e hb c => ?_⟩
  · refine List.nodup_append.mpr ⟨h.nd, List.nodup_cons.mpr ⟨nofun, List.nodup_nil⟩, fun x hx y hy e => ?_⟩
    rw [List.mem_singleton.mp hy] at e
    exact m (e ▸ hx)
  · rcases List.mem_append.mp hs' with z | z
    · exact h.lt s z
    · rw [List.mem_singleton.mp z]; exact hs
  · by_cases l : i < o.length
    · obtain ⟨p, q', b, hp, e1, hb, e2, w⟩ := h.met i s hi (back e l)
      refine ⟨p, q', b, hp, old e1, hb, e2, fun p' q2 b' e3 hb' c => ?_⟩
      obtain ⟨j, hj, e4⟩ := w p' q2 b' (back e3 (by omega)) hb' c
      exact ⟨j, hj, old e4⟩
    · have il : i = o.length := by
        have := (List.getElem?_eq_some_iff.mp e).1
        rw [List.length_append] at this
        have : i < o.length + 1 := this
        omega
      subst il
      have es : A.d q a = s := by
        rw [List.getElem?_append_right (Nat.le_refl _), Nat.sub_self] at e
        exact Option.some.inj e
      refine ⟨t, q, a, tl, old hq, ha, es, fun p' q2 b' e3 hb' c => ?_⟩
      have mem := h.done p' q2 b' (back e3 (by omega)) hb' c
      obtain ⟨j, hj, ej⟩ := List.getElem_of_mem mem
      exact ⟨j, hj, old (by rw [List.getElem?_eq_getElem hj, ej])⟩
  · have pl : p < o.length := by omega
    by_cases z : p = t ∧ b = a
    · have e := back e pl
      rw [z.1, hq] at e
      cases e
      rw [z.2]; exact List.mem_append_right _ (List.mem_singleton.mpr rfl)
    · exact List.mem_append_left _ (h.done p q' b (back e pl) hb (by omega))
theorem Part.next {A : Tab} {o : List Nat} {t : Nat} (h : Part A o t A.w) : Part A o (t + 1) 0 where
  nd := h.nd
  lt := h.lt
  first := h.first
  met := h.met
  done := fun p q b e hb c => h.done p q b e hb (by omega)
theorem Part.order {A : Tab} {o : List Nat} {t a : Nat} (h : Part A o t a) (ht : o.length ≤ t) : Order A o where
  nd := h.nd
  lt := h.lt
  first := h.first
  met := h.met
  cl := fun s hs a ha => by
    obtain ⟨p, hp, e⟩ := List.getElem_of_mem hs
    exact h.done p s a (by rw [List.getElem?_eq_getElem hp, e]) ha (by omega)
/-- not more than there are -/
theorem few {o : List Nat} {n : Nat} (nd : o.Nodup) (lt : ∀ s ∈ o, s < n) : o.length ≤ n := by
  have := List.Nodup.length_le_of_subset nd (l₂ := List.range n) fun s hs => List.mem_range.mpr (lt s hs)
  rw [List.length_range] at this
  exact this
/-! ### numbers by first coming -/
/-- the unlike marks S of a list o, as they come; g tells the mark -/
structure Signs {κ : Type} [DecidableEq κ] (o : List Nat) (g : Nat → κ) (S : List κ) : Prop where
  nd : S.Nodup
  mem : ∀ s ∈ o, g s ∈ S
  of : ∀ k ∈ S, ∃ s ∈ o, g s = k
  num : ∀ (i s v : Nat), o[i]? = some s → v < S.idxOf (g s) → ∃ j t : Nat, j < i ∧ o[j]? = some t ∧ S.idxOf (g t) = v
section
variable {κ : Type} [DecidableEq κ] {o : List Nat} {g : Nat → κ} {S : List κ}
theorem Signs.nil : Signs (κ := κ) [] g [] := ⟨List.nodup_nil, nofun, nofun, fun i s v e => by cases e⟩
theorem Signs.old {s : Nat} (h : Signs o g S) (m : g s ∈ S) : Signs (o ++ [s]) g S where
  nd := h.nd
  mem := fun t ht => by
    rcases List.mem_append.mp ht with z | z
    · exact h.mem t z
    · rw [List.mem_singleton.mp z]; exact m
  of := fun k hk => let ⟨t, ht, e⟩ := h.of k hk; ⟨t, List.mem_append_left _ ht, e⟩
  num := fun i t v e lt => by
    by_cases l : i < o.length
    · rw [List.getElem?_append_left l] at e
      obtain ⟨j, u, hj, eu, ev⟩ := h.num i t v e lt
      exact ⟨j, u, hj, by rw [List.getElem?_append_left (by omega)]; exact eu, ev⟩
    · have il : i = o.length := by
        have := (List.getElem?_eq_some_iff.mp e).1
        rw [List.length_append] at this
        have : i < o.length + 1 := this
        omega
      subst il
      rw [List.getElem?_append_right (Nat.le_refl _), Nat.sub_self] at e
      have e : s = t := Option.some.inj e
      subst e
      have lS : S.idxOf (g s) < S.length := List.idxOf_lt_length_iff.mpr m
      have hv : v < S.length := by omega
      obtain ⟨u, hu, eu⟩ := h.of S[v] (List.getElem_mem hv)
      obtain ⟨j, hj, ej⟩ := List.getElem_of_mem hu
      refine ⟨j, u, hj, by rw [List.getElem?_append_left hj, List.getElem?_eq_getElem hj, ej], ?_⟩
      rw [eu]
      exact h.nd.idxOf_getElem v hv
theorem Signs.new {s : Nat} (h : Signs o g S) (m : g s ∉ S) : Signs (o ++ [s]) g (S ++ [g s]) where
  nd := List.nodup_append.mpr ⟨h.nd, List.nodup_cons.mpr ⟨nofun, List.nodup_nil⟩, fun x hx y hy e => by
    rw [List.mem_singleton.mp hy] at e
    exact m (e ▸ hx)⟩
  mem := fun t ht => by
    rcases List.mem_append.mp ht with z | z
    · exact List.mem_append_left _ (h.mem t z)
    · rw [List.mem_singleton.mp z]; exact List.mem_append_right _ (List.mem_singleton.mpr rfl)
  of := fun k hk => by
    rcases List.mem_append.mp hk with z | z
    · obtain ⟨t, ht, e⟩ := h.of k z
      exact ⟨t, List.mem_append_left _ ht, e⟩
    · exact ⟨s, List.mem_append_right _ (List.mem_singleton.mpr rfl), (List.mem_singleton.mp z).symm⟩
  num := fun i t v e lt => by
    have keep : ∀ u, g u ∈ S → (S ++ [g s]).idxOf (g u) = S.idxOf (g u) := fun u hu => by rw [List.idxOf_append, if_pos hu]
    by_cases l : i < o.length
    · rw [List.getElem?_append_left l] at e
      rw [keep t (h.mem t (List.mem_of_getElem? e))] at lt
      obtain ⟨j, u, hj, eu, ev⟩ := h.num i t v e lt
      exact ⟨j, u, hj, by rw [List.getElem?_append_left (by omega)]; exact eu, by rw [keep u (h.mem u (List.mem_of_getElem? eu))]; exact ev⟩
    · have il : i = o.length := by
        have := (List.getElem?_eq_some_iff.mp e).1
        rw [List.length_append] at this
        have : i < o.length + 1 := this
        omega
      subst il
      rw [List.getElem?_append_right (Nat.le_refl _), Nat.sub_self] at e
      have e : s = t := Option.some.inj e
      subst e
      have es : (S ++ [g s]).idxOf (g s) = S.length := by
        rw [List.idxOf_append, if_neg m]
        simp
      rw [es] at lt
      obtain ⟨u, hu, eu⟩ := h.of S[v] (List.getElem_mem lt)
      obtain ⟨j, hj, ej⟩ := List.getElem_of_mem hu
      refine ⟨j, u, hj, by rw [List.getElem?_append_left hj, List.getElem?_eq_getElem hj, ej], ?_⟩
      rw [keep u (by rw [eu]; exact List.getElem_mem lt), eu]
      exact h.nd.idxOf_getElem v lt
theorem Signs.inj {s t : Nat} (h : Signs o g S) (hs : s ∈ o) (e : S.idxOf (g s) = S.idxOf (g t)) (ht : t ∈ o) : g s = g t := by
  have a := List.getElem_idxOf (List.idxOf_lt_length_iff.mpr (h.mem s hs))
  have b := List.getElem_idxOf (List.idxOf_lt_length_iff.mpr (h.mem t ht))
  rw [← a, ← b]
  congr 1
end
def ix {κ : Type} [DecidableEq κ] (S : List κ) (k : κ) : Nat := S.idxOf k
theorem ix_self {κ : Type} [DecidableEq κ] (y : κ) (r : List κ) : ix (y :: r) y = 0 := List.idxOf_cons_self
theorem ix_ne {κ : Type} [DecidableEq κ] {x y : κ} (r : List κ) (e : ¬ y = x) : ix (y :: r) x = ix r x + 1 := by
  unfold ix
  rw [List.idxOf_cons]
  have : (y == x) = false := beq_eq_false_iff_ne.mpr e
  rw [this]
  rfl
theorem ix_app {κ : Type} [DecidableEq κ] {S : List κ} (m : List κ) {k : κ} (h : k ∈ S) : ix (S ++ m) k = ix S k := by
  unfold ix
  rw [List.idxOf_append, if_pos h]
theorem ix_end {κ : Type} [DecidableEq κ] {S : List κ} {k : κ} (h : k ∉ S) : ix (S ++ [k]) k = S.length := by
  unfold ix
  rw [List.idxOf_append, if_neg h]
  simp
theorem ix_lt {κ : Type} [DecidableEq κ] {S : List κ} {k : κ} (h : k ∈ S) : ix S k < S.length := List.idxOf_lt_length_iff.mpr h
theorem Signs.onto {κ : Type} [DecidableEq κ] {o : List Nat} {g : Nat → κ} {S : List κ} (h : Signs o g S) {v : Nat} (hv : v < S.length) : ∃ s ∈ o, ix S (g s) = v := by
  obtain ⟨s, hs, e⟩ := h.of S[v] (List.getElem_mem hv)
  exact ⟨s, hs, by rw [e]; exact h.nd.idxOf_getElem v hv⟩
/-- the finer ones are no fewer -/
theorem le_many {S : Nat → Prop} {k k' : Nat → Nat} {m m' : Nat} (b : ∀ v, v < m → ∃ s, S s ∧ k s = v) (a' : ∀ s, S s → k' s < m') (r : ∀ s t, S s → S t → k' s = k' t → k s = k t) : m ≤ m' := by
  have ch : ∀ u, ∃ w, ∀ s, S s → k' s = u → k s = w := fun u => by
    by_cases h : ∃ s, S s ∧ k' s = u
    · obtain ⟨s, hs, e⟩ := h
      exact ⟨k s, fun t ht e' => (r s t hs ht (e.trans e'.symm)).symm⟩
    · exact ⟨0, fun t ht e' => absurd ⟨t, ht, e'⟩ h⟩
  have := cover m ((List.range m').map fun u => Classical.choose (ch u)) fun v hv => by
    obtain ⟨s, hs, e⟩ := b v hv
    exact List.mem_map.mpr ⟨k' s, List.mem_range.mpr (a' s hs), ((Classical.choose_spec (ch (k' s)) s hs rfl).symm.trans e)⟩
  rw [List.length_map, List.length_range] at this
  exact this
end Tb

namespace Sf
open PySem PySem.Spec PyProof.Rows L2
/-- a table as a machine -/
def tabOf (x : Str) (rs : Rows) (es : List Nat) : Tb.Tab := ⟨rs.length, x.length, fun s a => (((rs[s]?).map (·.2)).getD []).getD a 0, fun s => decide (s ∈ es)⟩
theorem tab_d {x : Str} {rs : Rows} {es : List Nat} {s a n : Nat} {q : Addr × List Nat} (h : rs[s]? = some q) (e : q.2[a]? = some n) : (tabOf x rs es).d s a = n := by
  show (((rs[s]?).map (·.2)).getD []).getD a 0 = n
  rw [h]
  show q.2.getD a 0 = n
  rw [List.getD_eq_getElem?_getD, e]
  rfl
theorem Tbl.ok {x : Str} {rs : Rows} {es : List Nat} (h : Tbl x rs es) : Tb.Ok (tabOf x rs es) := ⟨h.n0, fun s a hs ha => by
  have hs : s < rs.length := hs
  have ha : a < x.length := ha
  have e := List.getElem?_eq_getElem hs
  obtain ⟨l, b⟩ := h.row rs[s] (List.getElem_mem hs)
  have ha2 : a < rs[s].2.length := by omega
  rw [tab_d e (List.getElem?_eq_getElem ha2)]
  exact b _ (List.getElem_mem ha2)⟩
/-- a set of numbers, as a dict of truths -/
def setD (ns : List Nat) : List (L2.Key × V) := ns.map fun (n : Nat) => (.inl (n : Int), V.bl true)
theorem setD_val (ns : List Nat) (n : Nat) : (valV (setD ns) (.inl (n : Int))).isSome = decide (n ∈ ns) := by
  induction ns with
  | nil => rfl
  | cons m r ih =>
    show (valV ((.inl (m : Int), V.bl true) :: setD r) (.inl (n : Int))).isSome = _
    by_cases e : m = n
    · subst e
      rw [valV_pos rfl]
      simp
    · rw [valV_neg (by intro z; exact e (Int.ofNat.inj (Sum.inl.inj z))), ih]
      simp [Ne.symm e]
theorem setD_put {ns : List Nat} {n : Nat} (h : n ∉ ns) : putK (setD ns) (.inl (n : Int)) (V.bl true) = setD (ns ++ [n]) := by
  unfold putK
  have e : ((setD ns).any fun kv => decide (kv.1 = .inl (n : Int))) = false := by
    rw [List.any_eq_false]
    intro kv hkv
    unfold setD at hkv
    obtain ⟨m, hm, rfl⟩ := List.mem_map.mp hkv
    intro z
    have z := of_decide_eq_true z
    exact h (by rw [← Int.ofNat.inj (Sum.inl.inj z)]; exact hm)
  rw [e, if_neg (by decide)]
  unfold setD
  rw [List.map_append]
  rfl
/-- marks with their numbers, as a dict -/
def sD (S : List (List L2.Key)) (k : Nat) : List (List L2.Key × V) := match S with
  | [] => []
  | x :: r => (x, V.int (k : Int)) :: sD r (k + 1)
theorem sD_len : ∀ (S : List (List L2.Key)) (k : Nat), (sD S k).length = S.length
  | [], _ => rfl
  | _ :: r, k => by show (sD r (k + 1)).length + 1 = r.length + 1; rw [sD_len r]
theorem sD_some : ∀ {S : List (List L2.Key)} {x : List L2.Key} (k : Nat), x ∈ S → valV (sD S k) x = some (.int ((k + Tb.ix S x : Nat) : Int))
  | y :: r, x, k, h => by
    by_cases e : y = x
    · subst e
      show valV ((y, V.int (k : Int)) :: sD r (k + 1)) y = _
      rw [valV_pos rfl, Tb.ix_self]
      rfl
    · have m : x ∈ r := by
        rcases List.mem_cons.mp h with z | z
        · exact absurd z.symm e
        · exact z
      show valV ((y, V.int (k : Int)) :: sD r (k + 1)) x = _
      rw [valV_neg e, sD_some (k + 1) m, Tb.ix_ne r e]
      congr 2
      omega
theorem sD_none : ∀ {S : List (List L2.Key)} {x : List L2.Key} (k : Nat), x ∉ S → valV (sD S k) x = none
  | [], _, _, _ => rfl
  | y :: r, x, k, h => by
    have ne : ¬ y = x := fun e => h (by rw [e]; exact List.mem_cons_self)
    show valV ((y, V.int (k : Int)) :: sD r (k + 1)) x = _
    rw [valV_neg ne, sD_none (k + 1) fun z => h (List.mem_cons_of_mem _ z)]
theorem sD_app : ∀ (S : List (List L2.Key)) (x : List L2.Key) (k : Nat), sD (S ++ [x]) k = sD S k ++ [(x, V.int ((k + S.length : Nat) : Int))]
  | [], x, k => rfl
  | y :: r, x, k => by
    show (y, V.int (k : Int)) :: sD (r ++ [x]) (k + 1) = (y, V.int (k : Int)) :: (sD r (k + 1) ++ _)
    rw [sD_app r x (k + 1)]
    have : k + 1 + r.length = k + (y :: r).length := by rw [List.length_cons]; omega
    rw [this]
theorem put_none {κ : Type} [DecidableEq κ] {kvs : List (κ × V)} {x : κ} (y : V) (h : valV kvs x = none) : putK kvs x y = kvs ++ [(x, y)] := by
  unfold putK
  have e : (kvs.any fun kv => decide (kv.1 = x)) = false := by rw [valV_any, h]; rfl
  rw [e, if_neg (by decide)]
theorem sD_put {S : List (List L2.Key)} {x : List L2.Key} (h : x ∉ S) : putK (sD S 0) x (.int (S.length : Int)) = sD (S ++ [x]) 0 := by
  rw [put_none _ (sD_none 0 h), sD_app, Nat.zero_add]
/-- numbers of states, as a dict -/
def kD (o : List Nat) (k : Nat → Nat) : List (L2.Key × V) := o.map fun (s : Nat) => (.inl (s : Int), V.int (k s : Int))
theorem kD_none {o : List Nat} {k : Nat → Nat} {s : Nat} (h : s ∉ o) : valV (kD o k) (.inl (s : Int)) = none := by
  induction o with
  | nil => rfl
  | cons m r ih =>
    have ne : ¬ (Sum.inl (m : Int) : L2.Key) = .inl (s : Int) := fun z => h (by rw [Int.ofNat.inj (Sum.inl.inj z)]; exact List.mem_cons_self)
    show valV ((.inl (m : Int), V.int (k m : Int)) :: kD r k) (.inl (s : Int)) = none
    rw [valV_neg ne]
    exact ih fun z => h (List.mem_cons_of_mem _ z)
theorem kD_some {o : List Nat} {k : Nat → Nat} {s : Nat} (h : s ∈ o) : valV (kD o k) (.inl (s : Int)) = some (.int (k s : Int)) := by
  induction o with
  | nil => cases h
  | cons m r ih =>
    show valV ((.inl (m : Int), V.int (k m : Int)) :: kD r k) (.inl (s : Int)) = _
    by_cases e : m = s
    · subst e
      exact valV_pos rfl
    · have ne : ¬ (Sum.inl (m : Int) : L2.Key) = .inl (s : Int) := fun z => e (Int.ofNat.inj (Sum.inl.inj z))
      rw [valV_neg ne]
      rcases List.mem_cons.mp h with z | z
      · exact absurd z.symm e
      · exact ih z
theorem kD_put {o : List Nat} {k : Nat → Nat} {s : Nat} (h : s ∉ o) : putK (kD o k) (.inl (s : Int)) (.int (k s : Int)) = kD (o ++ [s]) k := by
  rw [put_none _ (kD_none h)]
  unfold kD
  rw [List.map_append]
  rfl
theorem kD_congr {o : List Nat} {k k' : Nat → Nat} (h : ∀ s ∈ o, k s = k' s) : kD o k = kD o k' := by
  unfold kD
  exact List.map_congr_left fun s hs => by rw [h s hs]
/-- a dict made entry by entry, over any walk -/
theorem dc_walk {J : It} {n : Nat} {G : Hp → Prop} {Y : Nat → Hp → V → Hp → Prop} (wk : Walk J n G Y) {g : TG} {tt : TT} {tk tv : TE} {ws : List Nat} {σ : L2.St} {H1 : Hp} {D : Addr} {Qd : Hp → Prop} (Pv : Nat → Hp → Prop)
    (h0 : Pv 0 (upd H1 D (.dK []))) (hG : ∀ i Hx, i ≤ n → Pv i Hx → G Hx)
    (hs : ∀ i v Hx Hy, i < n → Pv i Hx → Y i Hx v Hy → g v (wipe σ ws) Hy fun σa Ha => wipe σa ws = wipe σ ws ∧ tt σa Ha fun c Hb =>
      if c = true then tk σa Hb fun kx Hc => tv σa Hc fun vx Hd => ∃ ent key, kx = kV key ∧ Hd D = some (.dK ent) ∧ ent.length < sizeLine ∧ Pv (i + 1) (upd Hd D (.dK (putK ent key vx))) else Pv (i + 1) Hb)
    (hd : ∀ Hx, Pv n Hx → Qd Hx) : ∃ W : Nat → Nat → Hp → Prop, (∃ m, W 0 m (upd H1 D (.dK []))) ∧ ∀ i m Hx, W i m Hx →
      (J.stop i Hx ∧ Qd Hx) ∨ (J.go i Hx ∧ ∃ N : Hp → Prop, (∀ Hy, N Hy → ∃ m', m' < m ∧ W (i + 1) m' Hy) ∧ ∀ v Hy, J.yld i Hx v Hy → g v (wipe σ ws) Hy fun σa Ha => wipe σa ws = wipe σ ws ∧ tt σa Ha fun c Hb =>
        if c = true then tk σa Hb fun kx Hc => tv σa Hc fun vx Hd => ∃ ent key, kx = kV key ∧ Hd D = some (.dK ent) ∧ ent.length < sizeLine ∧ N (upd Hd D (.dK (putK ent key vx))) else N Hb) := by
  refine ⟨fun i m Hx => n - i = m ∧ i ≤ n ∧ Pv i Hx, ⟨n, Nat.sub_zero n, Nat.zero_le n, h0⟩, fun i m Hx c => ?_⟩
  obtain ⟨em, hi, p⟩ := c
  subst em
  rcases Nat.lt_or_ge i n with lt | ge
  · exact .inr ⟨wk.goes i Hx lt (hG i Hx hi p), Pv (i + 1), fun Hy p' => ⟨n - (i + 1), by omega, rfl, lt, p'⟩, fun v Hy y => hs i v Hx Hy lt p (wk.yields i Hx v Hy lt (hG i Hx hi p) y)⟩
  · cases Nat.le_antisymm hi ge
    exact .inl ⟨wk.stops Hx (hG _ Hx hi p), hd Hx p⟩
theorem in_nats (c : Nat) : ∀ ns : List Nat, inV (.int (c : Int)) (nats ns) = decide (c ∈ ns)
  | [] => rfl
  | n :: r => by
    have ih := in_nats c r
    show (eqV (.int (n : Int)) (.int (c : Int)) || inV (.int (c : Int)) (nats r)) = _
    rw [ih]
    show (((n : Int) == (c : Int)) || decide (c ∈ r)) = _
    by_cases e : n = c
    · subst e; simp
    · have e1 : ((n : Int) == (c : Int)) = false := beq_eq_false_iff_ne.mpr fun z => e (Int.ofNat.inj z)
      rw [e1]
      simp [Ne.symm e]
theorem flat_nats (ns : List Nat) : (nats ns).all flatV = true := by
  rw [List.all_eq_true]
  intro v hv
  unfold nats at hv
  obtain ⟨n, _, rfl⟩ := List.mem_map.mp hv
  rfl
theorem few_signs {κ : Type} [DecidableEq κ] {o : List Nat} {g : Nat → κ} {S : List κ} (h : Tb.Signs o g S) : S.length ≤ o.length := by
  have := List.Nodup.length_le_of_subset h.nd (l₂ := o.map g) fun k hk => by
    obtain ⟨s, hs, e⟩ := h.of k hk
    exact List.mem_map.mpr ⟨s, hs, e⟩
  rw [List.length_map] at this
  exact this
end Sf

namespace K19
open PySem PySem.Spec PyProof.Rows L2 Sf
section
variable {P : Program} {w : World} {K : PySem.W.Frag} {mg : Str → Option Value} {base : Heap} {a : Ad}
abbrev s_reached : Stmt := top 12
theorem sc_reached : FnScope ["told", "rows", "order", "seen", "at", "state"] ["told"] (defScope s_reached) := ⟨rfl, rfl, rfl, by decide +kernel, rfl, by decide +kernel, by decide +kernel⟩
/-- the states in the order in which they are met -/
def spReached (K : PySem.W.Frag) : Sp := fun vs H Q _ => ∃ (p r g : Addr) (x : Str) (rs : Rows) (es : List Nat), vs = [.ref p] ∧ Sh K H p r g x rs es ∧ Tbl x rs es ∧
  ∀ l o H', Same H H' → H l = none → H' l = some (.lst (nats o)) → Tb.Order (tabOf x rs es) o → Q (.ref l) H'
theorem ok_reached {f : Addr} {fd : FuncData} (F : Fun K "reached" "reached" s_reached f fd) (T : Txt K mg a) : FnOk P w K mg base CX0 1 f fd ["told"] (spReached K) := by
  refine F.ok sc_reached (fun vs H Q E h => by obtain ⟨p, r, g, x, rs, es, rfl, _⟩ := h; rfl) (fun cdv A outer s H vs Q E hr h => ?_)
  refine ⟨_, (pss_cons (ps_set (i := 1) sc_reached.nd rfl (Or.inl rfl) (pe_ix ix_tup (pv 0) pe_int (fun _ _ => rfl)))
      (pss_cons (ps_set (i := 2) sc_reached.nd rfl (Or.inl rfl) (pe_lst (pa_cons pe_int pa_nil)))
      (pss_cons (ps_set (i := 3) sc_reached.nd rfl (Or.inl rfl) (pe_disp (pps_cons pe_int pe_bl pps_nil) (by rfl) (by rfl) (fun z => by cases z) (by decide)))
      (pss_cons (ps_set (i := 4) sc_reached.nd rfl (Or.inl rfl) pe_int)
      (pss_cons (ps_while PassesOwn.never (pt_cmpR op_lt (pv 4) (pe_callB call_len_seq (by rfl) T.b_len PySem.boot_len (pa_cons (pv 2) pa_nil)) (nomark _))
      (pss_cons (ps_for PassesOwn.never rfl (pi_list (pe_ix ix_list (pv 1) (pe_ix ix_list (pv 2) (pv 4) (fun _ _ => rfl)) (fun _ _ => rfl))) (pg_name (i := 5) sc_reached.nd rfl (Or.inl rfl))
      (pss_one (ps_if (pt_cmp (pc_dnotin (hu1 hr.units) (pv 5) (pv 3))) (pss_cons (ps_dput (hu1 hr.units) (pv 3) (pv 5) pe_bl rfl)
      (pss_one (ps_expr (pe_bm PySem.F.plainAttrs_list PySem.F.slot_list_append PySem.F.type_list_append mt_append (pv 2) (pa_cons (pv 5) pa_nil))))) pss_nil)))
      (pss_one (ps_aug (i := 4) sc_reached.nd rfl (Or.inl rfl) pe_int ip_add))))
      (pss_one (ps_ret (pv 2)))))))), ?_⟩
  obtain ⟨p, r, g, x, rs, es, rfl, sh, tb, k⟩ := h
  have n0 := tb.n0
  have n9 := tb.n9
  refine ⟨_, rfl, p, _, 1, _, rfl, rfl, sh.p, atI_nat (j := 1) rfl, ?_⟩
  refine ⟨by show 1 ≤ sizeLine; decide, fun l hl => ?_⟩
  have s1 := same_new (u := .lst [.int 0]) (Same.refl H) hl
  have d1 := upd_same (H := H) (a := l) (o := .lst [.int 0])
  generalize upd H l _ = H1 at s1 d1
  intro d hd
  refine ⟨upd_same, [(.inl ((0 : Nat) : Int), .bl true)], rfl, by decide, ?_⟩
  have s2 := same_new (u := .dK (setD [0])) s1 hd
  have dl := upd_old (u := .dK (setD [0])) d1 hd
  have dd := upd_same (H := H1) (a := d) (o := .dK (setD [0]))
  have eq2 : upd (upd H1 d (.dK [])) d (.dK (mergeK [] [(.inl ((0 : Nat) : Int), V.bl true)])) = upd H1 d (.dK (setD [0])) := by rw [upd_upd]; rfl
  rw [eq2]
  have fd := same_none s1 hd
  have nld : l ≠ d := ne_of_none d1 hd
  generalize upd H1 d _ = H2 at s2 dl dd
  refine ⟨fun m σ H' => ∃ (t : Nat) (o : List Nat) (x5 : Option V), m = rs.length - t ∧ σ = [some (.ref p), some (.ref r), some (.ref l), some (.ref d), some (.int t), x5] ∧ H' l = some (.lst (nats o)) ∧ H' d = some (.dK (setD o)) ∧ Tb.Part (tabOf x rs es) o t 0 ∧ t ≤ o.length ∧ Same H H', ⟨_, 0, [0], _, rfl, rfl, dl, dd, Tb.Part.start n0, Nat.zero_le _, s2⟩, ?_⟩
  rintro m σ H' ⟨t, o, x5, rfl, rfl, el, ed, pt, ht, sH⟩
  have sh' := sh.mono sH
  have lo := Tb.few pt.nd pt.lt
  have lo : o.length ≤ rs.length := lo
  have ll : (nats o).length = o.length := List.length_map ..
  refine ⟨_, rfl, _, rfl, l, _, rfl, .inl (SqL.of el), _, _, rfl, rfl, _, rfl, ?_⟩
  rw [ll]
  refine ite2 (fun c => ?_) (fun c => ?_)
  · have ct : t < o.length := by have := of_decide_eq_true c; omega
    have eo : o[t]? = some o[t] := List.getElem?_eq_getElem ct
    have mo := pt.lt o[t] (List.getElem_mem ct)
    generalize o[t] = q at eo mo
    have mo : q < rs.length := mo
    have er : rs[q]? = some rs[q] := List.getElem?_eq_getElem mo
    have mr := List.getElem_mem mo
    generalize rs[q] = row at er mr
    obtain ⟨lrow, brow⟩ := tb.row row mr
    refine ⟨fun σ' H'' => ∃ o2 x5', σ' = [some (.ref p), some (.ref r), some (.ref l), some (.ref d), some (.int ((t + 1 : Nat) : Int)), x5'] ∧ H'' l = some (.lst (nats o2)) ∧ H'' d = some (.dK (setD o2)) ∧ Tb.Part (tabOf x rs es) o2 (t + 1) 0 ∧ t + 1 ≤ o2.length ∧ Same H H'', ?_, ?_⟩
    · rintro σ' H'' ⟨o2, x5', rfl, a1, a2, a3, a4, a5⟩
      exact ⟨rs.length - (t + 1), by omega, t + 1, o2, x5', rfl, rfl, a1, a2, a3, a4, a5⟩
    have ln : (nats row.2).length = x.length := by unfold nats; rw [List.length_map]; exact lrow
    refine ⟨_, rfl, _, rfl, _, rfl, l, _, (t : Int), _, rfl, rfl, SqL.of el, atI_nat (by unfold nats; rw [List.getElem?_map, eo]; rfl), r, _, (q : Int), _, rfl, rfl, SqL.of sh'.r, atI_nat (by unfold rrefs; rw [List.getElem?_map, er]; rfl), row.1, rfl, ⟨_, SqL.of (sh'.q row mr)⟩, ?_⟩
    refine for_list (xs := nats row.2) (fun i σ H'' => ∃ o2 x5', σ = [some (.ref p), some (.ref r), some (.ref l), some (.ref d), some (.int t), x5'] ∧ H'' l = some (.lst (nats o2)) ∧ H'' d = some (.dK (setD o2)) ∧ Tb.Part (tabOf x rs es) o2 t i ∧ o2[t]? = some q ∧ Same H H'')
      ⟨o, _, rfl, el, ed, pt, eo, sH⟩ (fun i σ H'' _ z => by obtain ⟨o2, x5', _, _, _, _, _, s'⟩ := z; exact SqL.of ((sh.mono s').q row mr)) ?_ ?_
    · rintro i v σ H3 hv ⟨o2, x5', rfl, el3, ed3, pt3, eo3, s3⟩
      unfold nats at hv
      obtain ⟨c', ec, rfl⟩ := map_at hv
      have dc : (tabOf x rs es).d q i = c' := tab_d er ec
      have cn : c' < rs.length := brow c' (List.mem_of_getElem? ec)
      have ci : i < x.length := by have := (List.getElem?_eq_some_iff.mp ec).1; omega
      have lo3 : o2.length ≤ rs.length := Tb.few pt3.nd pt3.lt
      refine ⟨_, rfl, _, rfl, d, _, rfl, DGet.k (k := .inl (c' : Int)) ed3, _, rfl, ?_⟩
      rw [setD_val]
      refine ite2 (fun cc => ?_) (fun cc => ?_)
      · have nm : c' ∉ o2 := fun z => by rw [decide_eq_true z] at cc; cases cc
        refine ⟨_, rfl, _, rfl, d, _, rfl, DPut.k (k := .inl (c' : Int)) ed3 ?_, ?_⟩
        · unfold setD; rw [List.length_map]; exact small_lt (by omega)
        rw [setD_put nm]
        have el4 : upd H3 d (.dK (setD (o2 ++ [c']))) l = _ := (upd_ne nld).trans el3
        have ed4 := upd_same (H := H3) (a := d) (o := .dK (setD (o2 ++ [c'])))
        have s4 := same_mut (u := .dK (setD (o2 ++ [c']))) s3 fd
        generalize upd H3 d _ = H4 at el4 ed4 s4
        refine ⟨_, rfl, .inl ⟨rfl, _, SqL.of el4⟩, _, rfl, l, _, _, rfl, rfl, el4, by unfold nats; rw [List.length_map]; exact small_lt (by omega), o2 ++ [c'], _, rfl, ?_, (upd_ne nld.symm).trans ed4, ?_, ?_, same_mut s4 hl⟩
        · unfold nats
          rw [upd_same, List.map_append]; rfl
        · rw [← dc]
          exact pt3.new eo3 ci (by rw [dc]; exact cn) (by rw [dc]; exact nm)
        · rw [List.getElem?_append_left (List.getElem?_eq_some_iff.mp eo3).1]
          exact eo3
      · have mem : c' ∈ o2 := Classical.byContradiction fun z => cc (by rw [decide_eq_false z]; rfl)
        exact ⟨o2, _, rfl, el3, ed3, pt3.old eo3 (by rw [dc]; exact mem), eo3, s3⟩
    · rintro σ H3 ⟨o2, x5', rfl, el3, ed3, pt3, eo3, s3⟩
      rw [ln] at pt3
      have := (List.getElem?_eq_some_iff.mp eo3).1
      exact ⟨_, rfl, _, _, rfl, rfl, o2, _, rfl, el3, ed3, pt3.next, this, s3⟩
  · refine ⟨_, rfl, k l o H' sH hl el (pt.order ?_)⟩
    have : ¬ (t : Int) < (o.length : Int) := fun z => c (decide_eq_true z)
    omega
end
end K19

namespace K19
open PySem PySem.Spec PyProof.Rows L2 Sf
section
variable {P : Program} {w : World} {K : PySem.W.Frag} {mg : Str → Option Value} {base : Heap} {a : Ad}
/-- the mark of a state: its kind, and the kinds that its row leads to -/
def mark (A : Tb.Tab) (k : Nat → Nat) (s : Nat) : List L2.Key := .inl (k s : Int) :: (List.range A.w).map fun b => .inl (k (A.d s b) : Int)
theorem mark_inj {A : Tb.Tab} {k : Nat → Nat} {s t : Nat} : mark A k s = mark A k t ↔ k s = k t ∧ ∀ b, b < A.w → k (A.d s b) = k (A.d t b) := by
  unfold mark
  constructor
  · intro e
    obtain ⟨a, b⟩ := List.cons.inj e
    refine ⟨Int.ofNat.inj (Sum.inl.inj a), fun c hc => ?_⟩
    have := List.map_inj_left.mp b c (List.mem_range.mpr hc)
    exact Int.ofNat.inj (Sum.inl.inj this)
  · rintro ⟨a, b⟩
    rw [a]
    congr 1
    exact List.map_congr_left fun c hc => by rw [b c (List.mem_range.mp hc)]
theorem mark_row {x : Str} {rs : Rows} {es : List Nat} {k : Nat → Nat} {s : Nat} {q : Addr × List Nat} (h : rs[s]? = some q) (l : q.2.length = x.length) : (mark (tabOf x rs es) k s).map kV = .int (k s : Int) :: nats (q.2.map k) := by
  unfold mark nats
  rw [List.map_cons, List.map_map, List.map_map]
  congr 1
  refine List.ext_getElem (by rw [List.length_map, List.length_map, List.length_range]; exact l.symm) fun i h1 h2 => ?_
  rw [List.getElem_map, List.getElem_map, List.getElem_range]
  have hi : i < q.2.length := by rw [List.length_map] at h2; exact h2
  show V.int (k ((tabOf x rs es).d s i) : Int) = V.int (k q.2[i] : Int)
  rw [tab_d h (List.getElem?_eq_getElem hi)]
abbrev s_kinds : Stmt := top 14
theorem sc_kinds : FnScope ["told", "order", "_", "rows", "ends", "kinds", "state", "number", "signs", "finer", "sign", "after"] ["told", "order"] (defScope s_kinds) := ⟨rfl, rfl, rfl, by decide +kernel, rfl, by decide +kernel, by decide +kernel⟩
/-- which states are alike, numbered as they come -/
def spKinds (K : PySem.W.Frag) : Sp := fun vs H Q _ => ∃ (p r g l : Addr) (x : Str) (rs : Rows) (es o : List Nat), vs = [.ref p, .ref l] ∧ Sh K H p r g x rs es ∧ Tbl x rs es ∧ H l = some (.lst (nats o)) ∧ Tb.Order (tabOf x rs es) o ∧
  ∀ d k m H', Same H H' → H d = none → H' d = some (.dK (kD o k)) → (∀ s t, s ∈ o → t ∈ o → (k s = k t ↔ Tb.Eqv (tabOf x rs es) s (tabOf x rs es) t)) → (∀ (i s v : Nat), o[i]? = some s → v < k s → ∃ j t : Nat, j < i ∧ o[j]? = some t ∧ k t = v) →
    (∀ s ∈ o, k s < m) → (∀ v, v < m → ∃ s ∈ o, k s = v) → Q (.ref d) H'
theorem ok_kinds {f : Addr} {fd : FuncData} (F : Fun K "_kinds" "_kinds" s_kinds f fd) (T : Txt K mg a) : FnOk P w K mg base CX0 1 f fd ["told", "order"] (spKinds K) := by
  refine F.ok sc_kinds (fun vs H Q E h => by obtain ⟨p, r, g, l, x, rs, es, o, rfl, _⟩ := h; rfl) (fun cdv A outer s H vs Q E hr h => ?_)
  refine ⟨_, (pss_cons (ps_asg (pv 0) (pg_tup rfl (pgs_cons (pg_name (i := 2) sc_kinds.nd rfl (Or.inl rfl)) (pgs_cons (pg_name (i := 3) sc_kinds.nd rfl (Or.inl rfl)) (pgs_cons (pg_name (i := 4) sc_kinds.nd rfl (Or.inr rfl)) pgs_nil)))))
      (pss_cons (ps_set (i := 5) sc_kinds.nd rfl (Or.inr rfl) (pe_dc (own := [("state", 6)]) (g := gName 6) (tt := tYes) rfl sc_kinds.nd (pi_list (pv 1)) (blkOk_by (own := [("state", 6)]) (N := ["told", "order", "_", "rows", "ends", "kinds", "state", "number", "signs", "finer", "sign", "after"]) (sc := defScope s_kinds) (by decide +kernel)) (fun _ _ _ _ _ => pg_name (i := 6) sc_kinds.nd rfl (Or.inl rfl)) (fun _ _ _ _ _ => pts_nil) (fun _ _ _ _ _ => (pv 6)) (fun _ _ _ _ _ => (pe_callTy call_int1 (by rfl) T.b_int (by decide +kernel) (pa_cons (pe_cmpR (show OpR _ _ (rIn K false) from op_in_seq) (pv 6) (pv 4) rfl) pa_nil)))))
      (pss_cons (ps_set (i := 7) sc_kinds.nd rfl (Or.inl rfl) pe_int)
      (pss_one (ps_while PassesOwn.never (pt_val pe_bl)
      (pss_cons (ps_set (i := 8) sc_kinds.nd rfl (Or.inl rfl) pe_dnewT)
      (pss_cons (ps_set (i := 9) sc_kinds.nd rfl (Or.inl rfl) pe_dnewK)
      (pss_cons (ps_for PassesOwn.never rfl (pi_list (pv 1)) (pg_name (i := 6) sc_kinds.nd rfl (Or.inl rfl))
      (pss_cons (ps_set (i := 10) sc_kinds.nd rfl (Or.inl rfl) (pe_callTy call_tuple_of (by rfl) T.b_tuple (by decide +kernel) (pa_cons (pe_op op_cat (pe_lst (pa_cons (pe_dget (hu1 hr.units) (pv 5) (pv 6) (fun _ _ => rfl)) pa_nil)) (pe_lc (own := [("after", 11)]) (g := gName 11) (tt := tYes) rfl sc_kinds.nd (pi_list (pe_ix ix_list (pv 3) (pv 6) (fun _ _ => rfl))) (blkOk_by (own := [("after", 11)]) (N := ["told", "order", "_", "rows", "ends", "kinds", "state", "number", "signs", "finer", "sign", "after"]) (sc := defScope s_kinds) (by decide +kernel)) (fun _ _ _ _ _ => pg_name (i := 11) sc_kinds.nd rfl (Or.inl rfl)) (fun _ _ _ _ _ => pts_nil) (fun _ _ _ _ _ => (pe_dget (hu1 hr.units) (pv 5) (pv 11) (fun _ _ => rfl))))) pa_nil)))
      (pss_one (ps_dput (hu1 hr.units) (pv 9) (pv 6) (pe_bm PySem.F.plainAttrs_dict PySem.F.slot_dict_setdefault PySem.F.type_dict_setdefault (mt_setdT (hu1 hr.units)) (pv 8) (pa_cons (pv 10) (pa_cons (pe_callB call_len_dT (by rfl) T.b_len PySem.boot_len (pa_cons (pv 8) pa_nil)) pa_nil))) rfl))))
      (pss_cons (ps_set (i := 5) sc_kinds.nd rfl (Or.inr rfl) (pv 9))
      (pss_cons (ps_if (pt_cmpR op_eq (pe_callB call_len_dT (by rfl) T.b_len PySem.boot_len (pa_cons (pv 8) pa_nil)) (pv 7) (nomark _)) (pss_one (ps_ret (pv 5))) pss_nil)
      (pss_one (ps_set (i := 7) sc_kinds.nd rfl (Or.inl rfl) (pe_callB call_len_dT (by rfl) T.b_len PySem.boot_len (pa_cons (pv 8) pa_nil)))))))))))))), ?_⟩
  obtain ⟨p, r, g, l, x, rs, es, o, rfl, sh, tb, hl, O, k⟩ := h
  have n0 := tb.n0
  have n9 := tb.n9
  refine ⟨_, rfl, p, _, rfl, sh.p, rfl, _, _, rfl, _, _, rfl, _, _, rfl, rfl, ?_⟩
  have lno : (nats o).length = o.length := List.length_map ..
  have lo : o.length ≤ rs.length := Tb.few O.nd O.lt
  refine ⟨_, rfl, l, rfl, ⟨_, SqL.of hl⟩, fun D hD => ?_⟩
  refine dc_walk (walk_list (K := K) (xs := nats o)) (fun i H' => H' = upd H D (.dK (kD (o.take i) fun s => if s ∈ es then 1 else 0))) rfl (fun i H' _ q => by rw [q]; exact SqL.of (upd_old hl hD)) ?_ ?_
  · rintro i v H1 H2 hi rfl ⟨rfl, hv⟩
    unfold nats at hv
    obtain ⟨c, ec, rfl⟩ := map_at hv
    have ci := (List.getElem?_eq_some_iff.mp ec).1
    refine ⟨rfl, ?_⟩
    refine ⟨_, rfl, _, rfl, _, rfl, g, _, rfl, .inl (SqL.of (upd_old sh.g hD)), rfl, flat_nats es, ?_⟩
    rw [if_neg (by decide), in_nats]
    refine .inr ⟨_, rfl, _, .inl (c : Int), rfl, upd_same, ?_, ?_⟩
    · unfold kD
      rw [List.length_map, List.length_take]
      exact small_lt (by omega)
    · have nm : c ∉ o.take i := fun z => by
        obtain ⟨j, hj, ej⟩ := List.getElem_of_mem z
        rw [List.length_take] at hj
        rw [List.getElem_take] at ej
        have ec2 := (List.getElem?_eq_some_iff.mp ec).2
        exact List.pairwise_iff_getElem.mp O.nd j i (by omega) ci (by omega) (ej.trans ec2.symm)
      have e : (V.int (if decide (c ∈ es) = true then 1 else 0)) = V.int (((fun s => if s ∈ es then 1 else 0) c : Nat) : Int) := by
        by_cases z : c ∈ es
        · simp [z]
        · simp [z]
      rw [upd_upd, e, kD_put nm, List.take_add_one, ec]
      rfl
  · rintro H1 rfl
    rw [lno, List.take_length]
    have s1 := same_new (u := .dK (kD o fun s => if s ∈ es then 1 else 0)) (Same.refl H) hD
    have d1 := upd_same (H := H) (a := D) (o := .dK (kD o fun s => if s ∈ es then 1 else 0))
    generalize upd H D _ = H1 at s1 d1
    have lt_of : ∀ {q : Nat}, q ∈ o → q < rs.length := fun {q} hq => O.lt q hq
    refine ⟨fun m σ H' => ∃ (dk : Addr) (κ : Nat → Nat) (num : Nat) (x6 x8 x9 x10 x11 : Option V), m = o.length + 1 - num ∧ σ = [some (.ref p), some (.ref l), some (.str x), some (.ref r), some (.ref g), some (.ref dk), x6, some (.int num), x8, x9, x10, x11] ∧ H' dk = some (.dK (kD o κ)) ∧ H dk = none ∧
      Tb.Inv (tabOf x rs es) (· ∈ o) κ ∧ (num = 0 ∨ ((∀ s ∈ o, κ s < num) ∧ ∀ v, v < num → ∃ s ∈ o, κ s = v)) ∧ Same H H', ⟨_, D, _, 0, _, _, _, _, _, rfl, rfl, d1, hD, ⟨?_, ?_⟩, .inl rfl, s1⟩, ?_⟩
    · intro s t hs ht h
      have e : decide (s ∈ es) = decide (t ∈ es) := h.end
      have e : s ∈ es ↔ t ∈ es := decide_eq_decide.mp e
      show (if s ∈ es then 1 else 0) = (if t ∈ es then 1 else 0)
      by_cases z : s ∈ es
      · rw [if_pos z, if_pos (e.mp z)]
      · rw [if_neg z, if_neg fun w => z (e.mpr w)]
    · intro s t hs ht h
      show decide (s ∈ es) = decide (t ∈ es)
      by_cases z : s ∈ es
      · by_cases w : t ∈ es
        · rw [decide_eq_true z, decide_eq_true w]
        · simp [z, w] at h
      · by_cases w : t ∈ es
        · simp [z, w] at h
        · rw [decide_eq_false z, decide_eq_false w]
    rintro m σ H' ⟨dk, κ, num, x6, x8, x9, x10, x11, rfl, rfl, ek, fk, inv, hnum, sH⟩
    refine ⟨_, rfl, iteT ?_⟩
    refine ⟨fun σ' H'' => ∃ (d2 : Addr) (κ2 : Nat → Nat) (n2 : Nat) (x6 x8 x9 x10 x11 : Option V), num < n2 ∧ n2 ≤ o.length ∧ σ' = [some (.ref p), some (.ref l), some (.str x), some (.ref r), some (.ref g), some (.ref d2), x6, some (.int n2), x8, x9, x10, x11] ∧ H'' d2 = some (.dK (kD o κ2)) ∧ H d2 = none ∧
      Tb.Inv (tabOf x rs es) (· ∈ o) κ2 ∧ ((∀ s ∈ o, κ2 s < n2) ∧ ∀ v, v < n2 → ∃ s ∈ o, κ2 s = v) ∧ Same H H'', ?_, ?_⟩
    · rintro σ' H'' ⟨d2, κ2, n2, y6, y8, y9, y10, y11, a1, a2, rfl, a3, a4, a5, a6, a7⟩
      exact ⟨o.length + 1 - n2, by omega, d2, κ2, n2, y6, y8, y9, y10, y11, rfl, rfl, a3, a4, a5, .inr a6, a7⟩
    intro sg hsg
    have nkg : dk ≠ sg := ne_of_none ek hsg
    have s2 := same_new (u := .dT []) sH hsg
    have ek := upd_old (u := .dT []) ek hsg
    have eg := upd_same (H := H') (a := sg) (o := .dT [])
    have fg := same_none sH hsg
    generalize upd H' sg _ = H2 at s2 ek eg
    intro fn hfn
    have nkf : dk ≠ fn := ne_of_none ek hfn
    have ngf : sg ≠ fn := ne_of_none eg hfn
    have s3 := same_new (u := .dK []) s2 hfn
    have ek := upd_old (u := .dK []) ek hfn
    have eg := upd_old (u := .dK []) eg hfn
    have ef := upd_same (H := H2) (a := fn) (o := .dK [])
    have ff := same_none s2 hfn
    generalize upd H2 fn _ = H3 at s3 ek eg ef
    refine ⟨_, rfl, l, rfl, ⟨_, SqL.of (s3 _ _ hl)⟩, for_list (xs := nats o) (fun i σ H'' => ∃ (S : List (List L2.Key)) (y6 y10 y11 : Option V), σ = [some (.ref p), some (.ref l), some (.str x), some (.ref r), some (.ref g), some (.ref dk), y6, some (.int num), some (.ref sg), some (.ref fn), y10, y11] ∧
      H'' dk = some (.dK (kD o κ)) ∧ H'' sg = some (.dT (sD S 0)) ∧ H'' fn = some (.dK (kD (o.take i) fun s => Tb.ix S (mark (tabOf x rs es) κ s))) ∧ Tb.Signs (o.take i) (mark (tabOf x rs es) κ) S ∧ Same H H'')
      ⟨[], _, _, _, rfl, ek, eg, ef, Tb.Signs.nil, s3⟩ (fun i σ H'' _ z => by obtain ⟨S, y6, y10, y11, _, _, _, _, _, s'⟩ := z; exact SqL.of (s' _ _ hl)) ?_ ?_⟩
    · rintro i v σ H4 hv ⟨S, y6, y10, y11, rfl, ek, eg, ef, sg4, s4⟩
      unfold nats at hv
      obtain ⟨c, ec, rfl⟩ := map_at hv
      have mc := List.mem_of_getElem? ec
      have ci := (List.getElem?_eq_some_iff.mp ec).1
      have cn := lt_of mc
      have er : rs[c]? = some rs[c] := List.getElem?_eq_getElem cn
      have mr := List.getElem_mem cn
      generalize rs[c] = row at er mr
      obtain ⟨lrow, brow⟩ := tb.row row mr
      have sh4 := sh.mono s4
      refine ⟨_, rfl, _, rfl, dk, _, rfl, (by have z := DGet.k (k := .inl (c : Int)) ek; rw [kD_some mc] at z; exact z), ?_⟩
      refine ⟨by show 1 ≤ sizeLine; decide, fun l1 hl1 => ?_⟩
      have nk1 : dk ≠ l1 := ne_of_none ek hl1
      have ng1 : sg ≠ l1 := ne_of_none eg hl1
      have nf1 : fn ≠ l1 := ne_of_none ef hl1
      have s5 := same_new (u := .lst [.int (κ c)]) s4 hl1
      have ek := upd_old (u := .lst [.int (κ c)]) ek hl1
      have eg := upd_old (u := .lst [.int (κ c)]) eg hl1
      have ef := upd_old (u := .lst [.int (κ c)]) ef hl1
      have e1 := upd_same (H := H4) (a := l1) (o := .lst [.int (κ c)])
      generalize upd H4 l1 _ = H5 at s5 ek eg ef e1
      have sh5 := sh.mono s5
      refine ⟨_, rfl, _, rfl, r, _, (c : Int), _, rfl, rfl, SqL.of sh5.r, atI_nat (by unfold rrefs; rw [List.getElem?_map, er]; rfl), row.1, rfl, ⟨_, SqL.of (sh5.q row mr)⟩, fun D3 hD3 => ?_⟩
      refine lc_list (xs := nats row.2) (fun j H' => H' = upd H5 D3 (.lst (nats ((row.2.take j).map κ)))) rfl (fun j H' _ q => by rw [q]; exact SqL.of (upd_old (sh5.q row mr) hD3)) ?_ ?_
      · rintro j v H6 hv rfl
        unfold nats at hv
        obtain ⟨b, eb, rfl⟩ := map_at hv
        have mb : b ∈ o := by
          have jb := (List.getElem?_eq_some_iff.mp eb).1
          have := O.cl c mc j (by show j < x.length; omega)
          rw [tab_d er eb] at this
          exact this
        refine ⟨rfl, _, rfl, _, rfl, dk, _, rfl, (by have z := DGet.k (k := .inl (b : Int)) (upd_old (u := .lst (nats ((row.2.take j).map κ))) ek hD3); rw [kD_some mb] at z; exact z), _, upd_same, ?_, ?_⟩
        · unfold nats
          rw [List.length_map, List.length_map, List.length_take]
          have := (List.getElem?_eq_some_iff.mp eb).1
          exact small_lt (by have := tb.wd.len; omega)
        · rw [upd_upd, List.take_add_one, eb, List.map_append]
          unfold nats
          rw [List.map_append]
          rfl
      rintro H6 rfl
      have lrow' : (nats row.2).length = row.2.length := List.length_map ..
      rw [lrow', List.take_length]
      have n13 : l1 ≠ D3 := ne_of_none e1 hD3
      have s6 := same_new (u := .lst (nats (row.2.map κ))) s5 hD3
      have ek := upd_old (u := .lst (nats (row.2.map κ))) ek hD3
      have eg := upd_old (u := .lst (nats (row.2.map κ))) eg hD3
      have ef := upd_old (u := .lst (nats (row.2.map κ))) ef hD3
      have e1 := upd_old (u := .lst (nats (row.2.map κ))) e1 hD3
      have e3 := upd_same (H := H5) (a := D3) (o := .lst (nats (row.2.map κ)))
      generalize upd H5 D3 _ = H6 at s6 ek eg ef e1 e3
      refine ⟨l1, D3, _, _, rfl, rfl, e1, e3, by unfold nats; rw [List.length_map, List.length_map]; exact small_line (by have := tb.wd.len; show 1 + _ ≤ _; omega), fun l4 hl4 => ?_⟩
      have s7 := same_new (u := .lst ([.int (κ c)] ++ nats (row.2.map κ))) s6 hl4
      have ek := upd_old (u := .lst ([.int (κ c)] ++ nats (row.2.map κ))) ek hl4
      have eg := upd_old (u := .lst ([.int (κ c)] ++ nats (row.2.map κ))) eg hl4
      have ef := upd_old (u := .lst ([.int (κ c)] ++ nats (row.2.map κ))) ef hl4
      have e4 := upd_same (H := H6) (a := l4) (o := .lst ([.int (κ c)] ++ nats (row.2.map κ)))
      generalize upd H6 l4 _ = H7 at s7 ek eg ef e4
      refine ⟨l4, _, rfl, .inl ⟨SqL.of e4, fun tp htp => ?_⟩⟩
      have s8 := same_new (u := .tup ([.int (κ c)] ++ nats (row.2.map κ))) s7 htp
      have ek := upd_old (u := .tup ([.int (κ c)] ++ nats (row.2.map κ))) ek htp
      have eg := upd_old (u := .tup ([.int (κ c)] ++ nats (row.2.map κ))) eg htp
      have ef := upd_old (u := .tup ([.int (κ c)] ++ nats (row.2.map κ))) ef htp
      have et := upd_same (H := H7) (a := tp) (o := .tup ([.int (κ c)] ++ nats (row.2.map κ)))
      have et : upd H7 tp (.tup ([.int (κ c)] ++ nats (row.2.map κ))) tp = some (.tup ((mark (tabOf x rs es) κ c).map kV)) := by rw [et, mark_row er lrow]; rfl
      generalize upd H7 tp _ = H8 at s8 ek eg ef et
      have tk : o.take (i + 1) = o.take i ++ [c] := by rw [List.take_add_one, ec]; rfl
      have lS : S.length ≤ i := by
        refine Nat.le_trans (Sf.few_signs sg4) ?_
        rw [List.length_take]; exact Nat.min_le_left _ _
      have nm : c ∉ o.take i := fun z => by
        obtain ⟨j, hj, ej⟩ := List.getElem_of_mem z
        rw [List.length_take] at hj
        rw [List.getElem_take] at ej
        have ec2 := (List.getElem?_eq_some_iff.mp ec).2
        exact List.pairwise_iff_getElem.mp O.nd j i (by omega) ci (by omega) (ej.trans ec2.symm)
      refine ⟨_, rfl, .inr (.inr (.inl ⟨rfl, .inr ⟨_, eg⟩⟩)), _, rfl, _, rfl, sg, _, rfl, eg, sg, _, mark (tabOf x rs es) κ c, tp, _, rfl, rfl, eg, et, by rw [sD_len]; exact small_lt (by omega), fun v hv => ?_, fun hv => ?_⟩
      · -- a mark that stands
        have ms : mark (tabOf x rs es) κ c ∈ S := Classical.byContradiction fun z => by rw [sD_none 0 z] at hv; cases hv
        rw [sD_some 0 ms, Nat.zero_add] at hv
        cases hv
        refine ⟨_, rfl, _, rfl, fn, _, rfl, DPut.k (k := .inl (c : Int)) ef ?_, ?_⟩
        · unfold kD; rw [List.length_map, List.length_take]; exact small_lt (by omega)
        have pe := kD_put (k := fun s => Tb.ix S (mark (tabOf x rs es) κ s)) nm
        have pe2 : putK (kD (o.take i) fun s => Tb.ix S (mark (tabOf x rs es) κ s)) (.inl (c : Int)) (.int (Tb.ix S (mark (tabOf x rs es) κ c) : Int)) = kD (o.take (i + 1)) fun s => Tb.ix S (mark (tabOf x rs es) κ s) := by rw [tk]; exact pe
        rw [pe2]
        exact ⟨S, _, _, _, rfl, (upd_ne nkf).trans ek, (upd_ne ngf).trans eg, upd_same, by rw [tk]; exact sg4.old ms, same_mut s8 ff⟩
      · -- a new mark
        have ms : mark (tabOf x rs es) κ c ∉ S := fun z => by rw [sD_some 0 z] at hv; cases hv
        rw [sD_len, sD_put ms]
        have eg2 := upd_same (H := H8) (a := sg) (o := .dT (sD (S ++ [mark (tabOf x rs es) κ c]) 0))
        have ef2 := (upd_ne (H := H8) (o := .dT (sD (S ++ [mark (tabOf x rs es) κ c]) 0)) ngf.symm).trans ef
        have ek2 := (upd_ne (H := H8) (o := .dT (sD (S ++ [mark (tabOf x rs es) κ c]) 0)) nkg).trans ek
        have s9 := same_mut (u := .dT (sD (S ++ [mark (tabOf x rs es) κ c]) 0)) s8 fg
        generalize upd H8 sg _ = H9 at eg2 ef2 ek2 s9
        refine ⟨_, rfl, _, rfl, fn, _, rfl, DPut.k (k := .inl (c : Int)) ef2 ?_, ?_⟩
        · unfold kD; rw [List.length_map, List.length_take]; exact small_lt (by omega)
        have keep : ∀ s ∈ o.take i, Tb.ix S (mark (tabOf x rs es) κ s) = Tb.ix (S ++ [mark (tabOf x rs es) κ c]) (mark (tabOf x rs es) κ s) := fun s hs => (Tb.ix_app _ (sg4.mem s hs)).symm
        rw [kD_congr keep]
        have ixc : Tb.ix (S ++ [mark (tabOf x rs es) κ c]) (mark (tabOf x rs es) κ c) = S.length := Tb.ix_end ms
        have pe := kD_put (k := fun s => Tb.ix (S ++ [mark (tabOf x rs es) κ c]) (mark (tabOf x rs es) κ s)) nm
        have pe2 : putK (kD (o.take i) fun s => Tb.ix (S ++ [mark (tabOf x rs es) κ c]) (mark (tabOf x rs es) κ s)) (.inl (c : Int)) (.int (S.length : Int)) = kD (o.take (i + 1)) fun s => Tb.ix (S ++ [mark (tabOf x rs es) κ c]) (mark (tabOf x rs es) κ s) := by
          rw [tk, ← pe]
          show _ = putK _ _ (.int ((Tb.ix (S ++ [mark (tabOf x rs es) κ c]) (mark (tabOf x rs es) κ c) : Nat) : Int))
          rw [ixc]
        rw [pe2]
        exact ⟨S ++ [mark (tabOf x rs es) κ c], _, _, _, rfl, (upd_ne nkf).trans ek2, (upd_ne ngf).trans eg2, upd_same, by rw [tk]; exact sg4.new ms, same_mut s9 ff⟩
    · rintro σ H4 ⟨S, y6, y10, y11, rfl, ek, eg, ef, sg4, s4⟩
      rw [lno, List.take_length] at ef sg4
      have cl : ∀ s b, s ∈ o → b < (tabOf x rs es).w → (tabOf x rs es).d s b ∈ o := fun s b hs hb => O.cl s hs b hb
      have fin : Tb.Finer (tabOf x rs es) (· ∈ o) κ (fun s => Tb.ix S (mark (tabOf x rs es) κ s)) := fun s t hs ht => by
        rw [← mark_inj]
        exact ⟨fun h => sg4.inj hs h ht, fun h => by show Tb.ix S _ = Tb.ix S _; rw [h]⟩
      have inv2 := inv.step fin cl
      have lt2 : ∀ s ∈ o, Tb.ix S (mark (tabOf x rs es) κ s) < S.length := fun s hs => Tb.ix_lt (sg4.mem s hs)
      have on2 : ∀ v, v < S.length → ∃ s ∈ o, Tb.ix S (mark (tabOf x rs es) κ s) = v := fun v hv => sg4.onto hv
      have few := few_signs sg4
      have coarse : ∀ s t, s ∈ o → t ∈ o → Tb.ix S (mark (tabOf x rs es) κ s) = Tb.ix S (mark (tabOf x rs es) κ t) → κ s = κ t := fun s t hs ht h => ((fin s t hs ht).mp h).1
      have some0 : 0 < S.length := by
        have := lt2 0 (List.mem_of_getElem? O.first)
        omega
      have cnt : num ≤ S.length := by
        rcases hnum with z | ⟨_, z⟩
        · omega
        · exact Tb.le_many (S := (· ∈ o)) (fun v hv => z v hv) lt2 coarse
      refine ⟨_, rfl, ?_⟩
      refine ⟨_, rfl, sg, _, rfl, eg, _, rfl, rfl, _, rfl, ?_⟩
      rw [sD_len]
      refine ite2 (fun c => ?_) (fun c => ?_)
      · have c : S.length = num := by have := V.int.inj (of_decide_eq_true c); omega
        obtain ⟨z1, z2⟩ := hnum.resolve_left (by omega)
        have st := Tb.same_many (S := (· ∈ o)) (m := num) z1 z2 (fun s hs => c ▸ lt2 s hs) (fun v hv => on2 v (c ▸ hv)) coarse
        exact ⟨_, rfl, k fn _ S.length H4 s4 ff ef (Tb.stable inv fin cl st) sg4.num lt2 on2⟩
      · have c : S.length ≠ num := fun z => c (decide_eq_true (by rw [z]))
        refine ⟨_, rfl, sg, _, rfl, eg, ?_⟩
        rw [sD_len]
        exact ⟨fn, _, S.length, _, _, _, _, _, by omega, few, rfl, ef, ff, inv2, ⟨lt2, on2⟩, s4⟩
end
end K19

namespace Sf
open PySem PySem.Spec PyProof.Rows L2
/-! ### walks within a comprehension: the part K by name -/
theorem pi_listK {K : PySem.W.Frag} {X : Cx} {tg l : Expr} {tl : TE} (hl : PE X l tl) (hK : X.K = K := by rfl) : PI X tg l (iList K tl) := by
  subst hK
  exact pi_list hl
theorem pi_tupK {K : PySem.W.Frag} {X : Cx} {tg l : Expr} {tl : TE} (hl : PE X l tl) (hK : X.K = K := by rfl) : PI X tg l (iTup K tl) := by
  subst hK
  exact pi_tup hl
/-! ### one row exchanged -/
theorem set_fst {rs : Rows} {i : Nat} {row : Addr × List Nat} (y : List Nat) (e : rs[i]? = some row) : (rs.set i (row.1, y)).map (·.1) = rs.map (·.1) := by
  refine List.ext_getElem? fun k => ?_
  rw [List.getElem?_map, List.getElem?_map]
  by_cases z : i = k
  · subst z
    rw [List.getElem?_set_self (List.getElem?_eq_some_iff.mp e).1, e]
    rfl
  · rw [List.getElem?_set_ne z]
theorem set_refs {rs : Rows} {i : Nat} {row : Addr × List Nat} (y : List Nat) (e : rs[i]? = some row) : rrefs (rs.set i (row.1, y)) = rrefs rs := by
  have := congrArg (List.map V.ref) (set_fst y e)
  rw [List.map_map, List.map_map] at this
  exact this
/-! ### heaps that differ at some places alone -/
def But (X : List Addr) (H H' : Hp) : Prop := ∀ b o, b ∉ X → H b = some o → H' b = some o
theorem But.refl (X : List Addr) (H : Hp) : But X H H := fun _ _ _ e => e
theorem But.mut {X : List Addr} {H H' : Hp} {p : Addr} {u : HO} (h : But X H H') (m : p ∈ X) : But X H (upd H' p u) := fun b o n e => by
  rw [upd_ne (show b ≠ p from fun z => n (by rw [z]; exact m))]
  exact h b o n e
theorem But.new {X : List Addr} {H H' : Hp} {p : Addr} {u : HO} (h : But X H H') (f : H' p = none) : But X H (upd H' p u) := fun b o n e => upd_old (h b o n e) f
theorem But.tup {K : PySem.W.Frag} {X : List Addr} {H H' : Hp} {p : Addr} {xs : List V} (h : But X H H') (l : ∀ b ∈ X, ∃ ys, H b = some (.lst ys)) (t : SqT K H p xs) : SqT K H' p xs := by
  rcases t with (e | ⟨o, e⟩) | e
  · refine .inl (.inl (h _ _ (fun m => ?_) e))
    obtain ⟨ys, e2⟩ := l p m
    rw [e] at e2
    cases e2
  · refine .inl (.inr ⟨o, h _ _ (fun m => ?_) e⟩)
    obtain ⟨ys, e2⟩ := l p m
    rw [e] at e2
    cases e2
  · exact .inr e
theorem But.same {X : List Addr} {S H H' : Hp} (h : But X H H') (s : Same S H) (n : ∀ b ∈ X, S b = none) : Same S H' := fun b o e => h b o (fun m => by rw [n b m] at e; cases e) (s b o e)
theorem But.kp {X : List Addr} {a : Addr} {S H H' : Hp} (h : But X H H') (s : Kp a S H) (n : ∀ b ∈ X, S b = none) : Kp a S H' := fun b o ne e => h b o (fun m => by rw [n b m] at e; cases e) (s b o ne e)
theorem But.sk {X : List Addr} {n : Nat} {a : Addr} {H H' : Hp} (h : But X H H') (s : Sk n H a) (m : a ∉ X) : Sk n H' a := let ⟨x, y, z, e, r⟩ := s; ⟨x, y, z, h _ _ m e, r⟩
theorem Sh.kp {K : PySem.W.Frag} {H H' : Hp} {sk p r g : Addr} {x : Str} {rs : Rows} {es : List Nat} {n : Nat} (h : Sh K H p r g x rs es) (k : Kp sk H H') (hs : Sk n H sk) (nr : r ≠ sk) (ng : g ≠ sk) (nq : ∀ q ∈ rs, q.1 ≠ sk) : Sh K H' p r g x rs es := by
  refine ⟨?_, k _ _ nr h.r, k _ _ ng h.g, fun q hq => k _ _ (nq q hq) (h.q q hq)⟩
  obtain ⟨u, v, w, e, _⟩ := hs
  rcases h.p with (h | ⟨o, h⟩) | h
  · refine .inl (.inl (k _ _ (fun z => ?_) h))
    rw [z, e] at h
    cases h
  · refine .inl (.inr ⟨o, k _ _ (fun z => ?_) h⟩)
    rw [z, e] at h
    cases h
  · exact .inr h
end Sf

namespace Tb
theorem at_ix {o : List Nat} {s : Nat} (h : s ∈ o) : o[o.idxOf s]? = some s := by
  have l := List.idxOf_lt_length_iff.mpr h
  rw [List.getElem?_eq_getElem l, List.getElem_idxOf l]
theorem ix_at {o : List Nat} (nd : o.Nodup) {i s : Nat} (h : o[i]? = some s) : o.idxOf s = i := by
  obtain ⟨hi, e⟩ := List.getElem?_eq_some_iff.mp h
  rw [← e]
  exact nd.idxOf_getElem i hi
theorem getD_at {o : List Nat} {i s : Nat} (h : o[i]? = some s) : o.getD i 0 = s := by
  rw [List.getD_eq_getElem?_getD, h]
  rfl
/-- the table of the kinds of the states that are met, numbered as they come -/
theorem least_of {A B : Tab} {o : List Nat} {k f : Nat → Nat} {m : Nat} (ok : Ok A) (O : Order A o) (he : ∀ s t, s ∈ o → t ∈ o → (k s = k t ↔ Eqv A s A t))
    (hn : ∀ i s v : Nat, o[i]? = some s → v < k s → ∃ j t : Nat, j < i ∧ o[j]? = some t ∧ k t = v) (hl : ∀ s ∈ o, k s < m) (ho : ∀ v, v < m → ∃ s ∈ o, k s = v)
    (ff : ∀ v, v < m → ∃ i : Nat, o[i]? = some (f v) ∧ k (f v) = v ∧ ∀ j t : Nat, o[j]? = some t → k t = v → i ≤ j) (w : B.w = A.w) (n : B.n = m) (hd : ∀ v a, v < m → a < A.w → B.d v a = k (A.d (f v) a))
    (hb : ∀ v, v < m → B.e v = A.e (f v)) : Least B ∧ ∀ s ∈ o, Eqv A s B (k s) := by
  subst n
  let A' : Tab := ⟨o.length, A.w, fun i a => o.idxOf (A.d (o.getD i 0) a), fun i => A.e (o.getD i 0)⟩
  have at_ : ∀ i, i < o.length → ∃ s, o[i]? = some s ∧ s ∈ o := fun i hi => ⟨o[i], List.getElem?_eq_getElem hi, List.getElem_mem hi⟩
  have go : ∀ i s a, o[i]? = some s → a < A.w → o[A'.d i a]? = some (A.d s a) := fun i s a h ha => by
    show o[o.idxOf (A.d (o.getD i 0) a)]? = _
    rw [getD_at h]
    exact at_ix (O.cl s (List.mem_of_getElem? h) a ha)
  obtain ⟨ok', bfs', eq'⟩ := ren (B := A') ok O rfl rfl go fun i s h => by
    show A.e (o.getD i 0) = A.e s
    rw [getD_at h]
  have kinds : Kinds A' (fun i => k (o.getD i 0)) B.n := by
    refine ⟨fun i j hi hj => ?_, fun i v hi hv => ?_, fun i hi => ?_, fun v hv => ?_⟩
    · obtain ⟨s, hs, ms⟩ := at_ i hi
      obtain ⟨t, ht, mt⟩ := at_ j hj
      show k (o.getD i 0) = k (o.getD j 0) ↔ _
      rw [getD_at hs, getD_at ht, he s t ms mt]
      exact ⟨fun h => (((eq' i s hs).symm rfl).trans h rfl).trans (eq' j t ht) rfl, fun h => ((eq' i s hs).trans h rfl).trans ((eq' j t ht).symm rfl) rfl⟩
    · obtain ⟨s, hs, ms⟩ := at_ i hi
      have hv : v < k (o.getD i 0) := hv
      rw [getD_at hs] at hv
      obtain ⟨j, t, hj, et, kt⟩ := hn i s v hs hv
      exact ⟨j, hj, by show k (o.getD j 0) = v; rw [getD_at et]; exact kt⟩
    · obtain ⟨s, hs, ms⟩ := at_ i hi
      show k (o.getD i 0) < _
      rw [getD_at hs]
      exact hl s ms
    · obtain ⟨s, ms, e⟩ := ho v hv
      exact ⟨o.idxOf s, List.idxOf_lt_length_iff.mpr ms, by show k (o.getD (o.idxOf s) 0) = v; rw [getD_at (at_ix ms)]; exact e⟩
  have fi : ∀ v, v < B.n → o[o.idxOf (f v)]? = some (f v) ∧ k (f v) = v ∧ ∀ j t : Nat, o[j]? = some t → k t = v → o.idxOf (f v) ≤ j := fun v hv => by
    obtain ⟨i, a, b, c⟩ := ff v hv
    rw [ix_at O.nd a]
    exact ⟨a, b, c⟩
  obtain ⟨L, E⟩ := quo (A := A') (B := B) (f := fun v => o.idxOf (f v)) ok' bfs' kinds w (fun v hv => by
      obtain ⟨a, b, _⟩ := fi v hv
      exact ⟨(List.getElem?_eq_some_iff.mp a).1, by show k (o.getD _ 0) = v; rw [getD_at a]; exact b⟩) (fun v i hv hi e => by
      obtain ⟨_, _, c⟩ := fi v hv
      obtain ⟨s, hs, _⟩ := at_ i hi
      have e : k (o.getD i 0) = v := e
      rw [getD_at hs] at e
      exact c i s hs e) (fun v a hv ha => by
      obtain ⟨x, _, _⟩ := fi v hv
      have y := go _ _ a x ha
      show B.d v a = k (o.getD (A'.d (o.idxOf (f v)) a) 0)
      rw [hd v a hv ha, getD_at y]) (fun v hv => by
      obtain ⟨x, _, _⟩ := fi v hv
      show B.e v = A.e (o.getD _ 0)
      rw [hb v hv, getD_at x])
  refine ⟨L, fun s ms => ?_⟩
  have hi := List.idxOf_lt_length_iff.mpr ms
  have x := at_ix ms
  have e := E (o.idxOf s) hi
  rw [getD_at x] at e
  exact (eq' _ s x).trans e rfl
/-- the table of all kinds, whatever their order -/
def kinTab (A : Tab) (k f : Nat → Nat) (m : Nat) : Tab := ⟨m, A.w, fun v a => k (A.d (f v) a), fun v => A.e (f v)⟩
theorem kin {A : Tab} {k f : Nat → Nat} {m : Nat} (ok : Ok A) (he : ∀ s t, s < A.n → t < A.n → (k s = k t ↔ Eqv A s A t)) (hl : ∀ s, s < A.n → k s < m) (ff : ∀ v, v < m → f v < A.n ∧ k (f v) = v) :
    Ok (kinTab A k f m) ∧ Red (kinTab A k f m) ∧ ∀ s, s < A.n → Eqv A s (kinTab A k f m) (k s) := by
  have al : ∀ s, s < A.n → Eqv A s A (f (k s)) := fun s hs => by
    obtain ⟨a1, a2⟩ := ff (k s) (hl s hs)
    exact (he s _ hs a1).mp a2.symm
  have go : ∀ s, s < A.n → ∀ a, a < A.w → (kinTab A k f m).d (k s) a = k (A.d s a) := fun s hs a ha => by
    show k (A.d (f (k s)) a) = _
    exact ((he _ _ (ok.lt s a hs ha) (ok.lt _ a (ff _ (hl s hs)).1 ha)).mpr ((al s hs).step ha)).symm
  have same : ∀ x s, s < A.n → (∀ a ∈ x, a < A.w) → A.e (run A s x) = (kinTab A k f m).e (run (kinTab A k f m) (k s) x) := by
    intro x
    induction x with
    | nil =>
      intro s hs _
      exact (al s hs).end
    | cons a r ih =>
      intro s hs hx
      have ha := hx a List.mem_cons_self
      show A.e (run A (A.d s a) r) = (kinTab A k f m).e (run _ ((kinTab A k f m).d (k s) a) r)
      rw [go s hs a ha]
      exact ih _ (ok.lt s a hs ha) fun b hb => hx b (List.mem_cons_of_mem _ hb)
  have eq : ∀ s, s < A.n → Eqv A s (kinTab A k f m) (k s) := fun s hs x hx => same x s hs hx
  refine ⟨⟨Nat.lt_of_le_of_lt (Nat.zero_le _) (hl 0 ok.pos), fun v a hv ha => hl _ (ok.lt _ a (ff v hv).1 ha)⟩, fun u v hu hv h => ?_, eq⟩
  obtain ⟨a1, a2⟩ := ff u hu
  obtain ⟨b1, b2⟩ := ff v hv
  have e1 := eq _ a1
  have e2 := eq _ b1
  rw [a2] at e1
  rw [b2] at e2
  have e := (he _ _ a1 b1).mpr ((e1.trans h rfl).trans (e2.symm rfl) rfl)
  rw [a2, b2] at e
  exact e
/-- and renumbered as its states are met -/
theorem ren_least {A B : Tab} {o : List Nat} (ok : Ok A) (red : Red A) (O : Order A o) (w : B.w = A.w) (n : B.n = o.length) (hd : ∀ i s a, o[i]? = some s → a < A.w → o[B.d i a]? = some (A.d s a)) (he : ∀ i s, o[i]? = some s → B.e i = A.e s) :
    Least B ∧ ∀ i s, o[i]? = some s → Eqv A s B i := by
  obtain ⟨a, b, c⟩ := ren ok O w n hd he
  refine ⟨⟨a, b, fun i j hi hj h => ?_⟩, c⟩
  have at_ : ∀ i, i < B.n → ∃ s, o[i]? = some s ∧ s ∈ o := fun i hi => ⟨o[i]'(n ▸ hi), List.getElem?_eq_getElem (n ▸ hi), List.getElem_mem _⟩
  obtain ⟨s, hs, ms⟩ := at_ i hi
  obtain ⟨t, ht, mt⟩ := at_ j hj
  have e := red s t (O.lt s ms) (O.lt t mt) (((c i s hs).trans h w.symm).trans ((c j t ht).symm w.symm) w.symm)
  subst e
  rw [← ix_at O.nd hs, ix_at O.nd ht]
/-- a table that another one's states name -/
theorem Eqv.of_map {A B : Tab} {f : Nat → Nat} (hd : ∀ j a, j < B.n → a < A.w → B.d j a < B.n ∧ f (B.d j a) = A.d (f j) a) (he : ∀ j, j < B.n → B.e j = A.e (f j)) : ∀ j, j < B.n → Eqv A (f j) B j := by
  have go : ∀ x j, j < B.n → (∀ a ∈ x, a < A.w) → A.e (run A (f j) x) = B.e (run B j x) := by
    intro x
    induction x with
    | nil => exact fun j hj _ => (he j hj).symm
    | cons a r ih =>
      intro j hj hx
      obtain ⟨h1, h2⟩ := hd j a hj (hx a List.mem_cons_self)
      have := ih _ h1 fun b hb => hx b (List.mem_cons_of_mem _ hb)
      rw [h2] at this
      exact this
  exact fun j hj x hx => go x j hj hx
end Tb

namespace K19
open PySem PySem.Spec PyProof.Rows L2 Sf
section
variable {P : Program} {w : World} {K : PySem.W.Frag} {mg : Str → Option Value} {base : Heap} {a : Ad}
theorem find_first {o : List Nat} {p : Nat → Bool} {i c : Nat} (e : o[i]? = some c) (h : p c = true) (no : ∀ j t : Nat, j < i → o[j]? = some t → p t = false) : o.find? p = some c := by
  obtain ⟨hi, ec⟩ := List.getElem?_eq_some_iff.mp e
  rw [List.find?_eq_some_iff_getElem]
  refine ⟨h, i, hi, ec, fun j hj => ?_⟩
  rw [no j _ hj (List.getElem?_eq_getElem (Nat.lt_trans hj hi))]
  rfl
/-- the first state of a kind -/
def fstOf (o : List Nat) (k : Nat → Nat) (v : Nat) : Nat := (o.find? fun s => decide (k s = v)).getD 0
theorem fstOf_at {o : List Nat} {k : Nat → Nat} {i c : Nat} (e : o[i]? = some c) (no : ∀ j t : Nat, j < i → o[j]? = some t → k t ≠ k c) : fstOf o k (k c) = c := by
  unfold fstOf
  rw [find_first (p := fun s => decide (k s = k c)) e (decide_eq_true rfl) fun j t hj et => decide_eq_false (no j t hj et)]
  rfl
/-- the first state of a kind stands ahead of all others of it -/
theorem fstOf_is {o : List Nat} {k : Nat → Nat} {v : Nat} (h : ∃ s ∈ o, k s = v) : ∃ i : Nat, o[i]? = some (fstOf o k v) ∧ k (fstOf o k v) = v ∧ ∀ j t : Nat, o[j]? = some t → k t = v → i ≤ j := by
  cases q : o.find? fun s => decide (k s = v) with
  | none =>
    obtain ⟨s, hs, e⟩ := h
    exact absurd (decide_eq_true e) (by have := List.find?_eq_none.mp q s hs; exact this)
  | some c =>
    obtain ⟨hc, i, hi, ec, no⟩ := List.find?_eq_some_iff_getElem.mp q
    have e : fstOf o k v = c := by unfold fstOf; rw [q]; rfl
    rw [e]
    refine ⟨i, by rw [List.getElem?_eq_getElem hi, ec], of_decide_eq_true hc, fun j t et kt => ?_⟩
    by_cases l : j < i
    · have := no j l
      rw [(List.getElem?_eq_some_iff.mp et).2, decide_eq_true kt] at this
      cases this
    · omega
theorem range_at {m i : Nat} (h : i < m) : (List.range m)[i]? = some i := by rw [List.getElem?_range h]
/-- a table of new lists, each in one place alone -/
structure NewT (H : Hp) (r g : Addr) (rs : Rows) : Prop where
  hr : H r = none
  hg : H g = none
  rg : r ≠ g
  hq : ∀ q ∈ rs, H q.1 = none ∧ q.1 ≠ r ∧ q.1 ≠ g
  nd : (rs.map (·.1)).Nodup
abbrev s_least_table : Stmt := top 13
theorem sc_least_table : FnScope ["told", "pictures", "rows", "ends", "order", "kinds", "firsts", "state", "least_rows", "after", "first", "kind"] ["told"] (defScope s_least_table) := ⟨rfl, rfl, rfl, by decide +kernel, rfl, by decide +kernel, by decide +kernel⟩
/-- the one least table -/
def spLeastT (K : PySem.W.Frag) : Sp := fun vs H Q _ => ∃ (p r g : Addr) (x : Str) (rs : Rows) (es : List Nat), vs = [.ref p] ∧ Sh K H p r g x rs es ∧ Tbl x rs es ∧
  ∀ p' r' g' rs' es' H', Same H H' → NewT H r' g' rs' → Sh K H' p' r' g' x rs' es' → Tbl x rs' es' → Tb.Least (tabOf x rs' es') → Tb.Eqv (tabOf x rs es) 0 (tabOf x rs' es') 0 → Q (.ref p') H'
theorem ok_least_table {f : Addr} {fd fd1 fd2 : FuncData} (F : Fun K "least_table" "least_table" s_least_table f fd) (T : Txt K mg a) (c_reached : Cal P w K mg base 1 a.reached fd1 ["told"] (spReached K)) (c_kinds : Cal P w K mg base 1 a.kinds fd2 ["told", "order"] (spKinds K)) : FnOk P w K mg base CX0 2 f fd ["told"] (spLeastT K) := by
  refine F.ok sc_least_table (fun vs H Q E h => by obtain ⟨p, r, g, x, rs, es, rfl, _⟩ := h; rfl) (fun cdv A outer s H vs Q E hr h => ?_)
  have hr_reached := hr
  have hr_kinds := hr
  refine ⟨_, (pss_cons (ps_asg (pv 0) (pg_tup rfl (pgs_cons (pg_name (i := 1) sc_least_table.nd rfl (Or.inl rfl)) (pgs_cons (pg_name (i := 2) sc_least_table.nd rfl (Or.inr rfl)) (pgs_cons (pg_name (i := 3) sc_least_table.nd rfl (Or.inr rfl)) pgs_nil)))))
      (pss_cons (ps_set (i := 4) sc_least_table.nd rfl (Or.inl rfl) (pe_call c_reached.ok hr_reached rfl T.g_reached T.k_reached c_reached.binds .nil pass0 (pa_cons (pv 0) pa_nil)))
      (pss_cons (ps_set (i := 5) sc_least_table.nd rfl (Or.inr rfl) (pe_call c_kinds.ok hr_kinds rfl T.g_kinds T.k_kinds c_kinds.binds .nil pass0 (pa_cons (pv 0) (pa_cons (pv 4) pa_nil))))
      (pss_cons (ps_set (i := 6) sc_least_table.nd rfl (Or.inl rfl) pe_dnewK)
      (pss_cons (ps_for PassesOwn.never rfl (pi_list (pv 4)) (pg_name (i := 7) sc_least_table.nd rfl (Or.inl rfl))
      (pss_one (ps_expr (pe_dsetd (pv 6) (pe_dget (hu1 hr.units) (pv 5) (pv 7) (fun _ _ => rfl)) (pv 7) ⟨rfl, rfl, rfl, rfl⟩))))
      (pss_cons (ps_lock (ps_setLc (i := 8) (own := [("first", 10)]) (g := gName 10) (tt := tYes) rfl sc_least_table.nd rfl rfl (sw_true rfl rfl rfl (by decide +kernel)) (pi_values (pv 6)) (blkOk_by (own := [("first", 10)]) (N := ["told", "pictures", "rows", "ends", "order", "kinds", "firsts", "state", "least_rows", "after", "first", "kind"]) (sc := defScope s_least_table) (by decide +kernel)) (fun _ _ _ _ _ => pg_name (i := 10) sc_least_table.nd rfl (Or.inl rfl)) (fun _ _ _ _ _ => pts_nil) (fun _ _ _ _ _ => (pe_lc (own := [("after", 9)]) (g := gName 9) (tt := tYes) rfl sc_least_table.nd (pi_listK (K := K) (pe_ix (show IxR _ (rIxL K) from ix_list) (pv 2) (pv 10) (fun _ _ => rfl))) (blkOk_by (own := [("after", 9)]) (N := ["told", "pictures", "rows", "ends", "order", "kinds", "firsts", "state", "least_rows", "after", "first", "kind"]) (sc := { kind := .function, names := [(".0", .local), ("first", .local), ("kinds", .cell), ("rows", .cell)], isGenerator := false, isCoroutine := false }) (by decide +kernel)) (fun _ _ _ _ _ => pg_name (i := 9) sc_least_table.nd rfl (Or.inl rfl)) (fun _ _ _ _ _ => pts_nil) (fun _ _ _ _ _ => (pe_dget (hu1 hr.units) (pv 5) (pv 9) (fun _ _ => rfl)))))))
      (pss_one (ps_ret (pe_tup (pa_cons (pv 1) (pa_cons (pv 8) (pa_cons (pe_lock (pe_lc (own := [("kind", 11), ("first", 10)]) (g := _) (tt := _) rfl sc_least_table.nd (pi_items (pv 6)) (blkOk_by (own := [("kind", 11), ("first", 10)]) (N := ["told", "pictures", "rows", "ends", "order", "kinds", "firsts", "state", "least_rows", "after", "first", "kind"]) (sc := defScope s_least_table) (by decide +kernel)) (fun _ _ _ _ _ => pg_tupK (K := K) (n := 2) rfl (pgs_cons (pg_name (i := 11) sc_least_table.nd rfl (Or.inl rfl)) (pgs_cons (pg_name (i := 10) sc_least_table.nd rfl (Or.inl rfl)) pgs_nil))) (fun _ _ _ _ _ => (pts_one (pt_cmpR (show OpR _ _ (rIn K false) from op_in_seq) (pv 10) (pv 3) rfl))) (fun _ _ _ _ _ => (pv 11)))) pa_nil)))))))))))), ?_⟩
  obtain ⟨p, r, g, x, rs, es, rfl, sh, tb, kk⟩ := h
  have n0 := tb.n0
  have n9 := tb.n9
  refine ⟨_, rfl, p, _, rfl, sh.p, rfl, _, _, rfl, _, _, rfl, _, _, rfl, rfl, ?_⟩
  refine ⟨_, rfl, p, r, g, x, rs, es, rfl, sh, tb, fun l o H1 s1 fl el O => ?_⟩
  have sh1 := sh.mono s1
  refine ⟨_, rfl, _, rfl, p, r, g, l, x, rs, es, o, rfl, sh1, tb, el, O, fun kd k m Hk s2 fkd ek keq knum klt kon => ?_⟩
  have shk := sh1.mono s2
  have sk := s1.trans s2
  have el := s2 _ _ el
  have lno : (nats o).length = o.length := List.length_map ..
  have lo : o.length ≤ rs.length := Tb.few O.nd O.lt
  have fk := fun v (hv : v < m) => fstOf_is (kon v hv)
  have fmem : ∀ v, v < m → fstOf o k v ∈ o := fun v hv => let ⟨_, e, _⟩ := fk v hv; List.mem_of_getElem? e
  have mle : m ≤ o.length := by
    have := Tb.cover m (o.map k) fun v hv => by
      obtain ⟨s, hs, e⟩ := kon v hv
      exact List.mem_map.mpr ⟨s, hs, e⟩
    rw [List.length_map] at this
    exact this
  intro fd hfd
  have ef := upd_same (H := Hk) (a := fd) (o := .dK [])
  have sF := same_new (u := .dK []) (Same.refl Hk) hfd
  have nlf : l ≠ fd := ne_of_none el hfd
  have nkf : kd ≠ fd := ne_of_none ek hfd
  generalize upd Hk fd _ = H3 at ef sF
  refine ⟨_, rfl, l, rfl, ⟨_, SqL.of (sF _ _ el)⟩, for_list (xs := nats o) (fun i σ H' => ∃ x7 mi, σ = [some (.ref p), some (.str x), some (.ref r), some (.ref g), some (.ref l), some (.ref kd), some (.ref fd), x7, none, none, none, none] ∧
    H' fd = some (.dK (kD (List.range mi) (fstOf o k))) ∧ (∀ j t : Nat, j < i → o[j]? = some t → k t < mi) ∧ (∀ v, v < mi → ∃ j t : Nat, j < i ∧ o[j]? = some t ∧ k t = v) ∧ Same Hk H')
    ⟨_, 0, rfl, ef, fun j t hj => absurd hj (Nat.not_lt_zero _), fun v hv => absurd hv (Nat.not_lt_zero _), sF⟩ (fun i σ H' _ z => by obtain ⟨_, _, _, _, _, _, s'⟩ := z; exact SqL.of (s' _ _ el)) ?_ ?_⟩
  · rintro i v σ H4 hv ⟨x7, mi, rfl, ef4, up, on, s4⟩
    unfold nats at hv
    obtain ⟨c, ec, rfl⟩ := map_at hv
    have mc := List.mem_of_getElem? ec
    have ci := (List.getElem?_eq_some_iff.mp ec).1
    have mim : mi ≤ m := by
      rcases Nat.eq_zero_or_pos mi with z | z
      · omega
      · obtain ⟨j, t, _, et, kt⟩ := on (mi - 1) (by omega)
        have := klt t (List.mem_of_getElem? et)
        omega
    have lD : (kD (List.range mi) (fstOf o k)).length = mi := by unfold kD; rw [List.length_map, List.length_range]
    refine ⟨_, rfl, fd, rfl, .inl ⟨_, .inl ef4⟩, _, rfl, _, rfl, kd, _, rfl, (by have z := DGet.k (k := .inl (c : Int)) (s4 _ _ ek); rw [kD_some mc] at z; exact z), _, rfl, _, .inl (k c : Int), ef4, rfl, by rw [lD]; exact small_lt (by omega), fun v hv => ?_, fun hv => ?_⟩
    · have lt : k c < mi := Classical.byContradiction fun z => by rw [kD_none fun y => z (List.mem_range.mp y)] at hv; cases hv
      refine ⟨_, mi, rfl, ef4, fun j t hj et => ?_, fun v hv => ?_, s4⟩
      · rcases Nat.lt_succ_iff_lt_or_eq.mp hj with z | z
        · exact up j t z et
        · subst z
          rw [ec] at et
          cases et
          exact lt
      · obtain ⟨j, t, hj, et, kt⟩ := on v hv
        exact ⟨j, t, Nat.lt_succ_of_lt hj, et, kt⟩
    · have ge : ¬ k c < mi := fun z => by rw [kD_some (List.mem_range.mpr z)] at hv; cases hv
      have e : k c = mi := by
        rcases Nat.lt_trichotomy (k c) mi with z | z | z
        · exact absurd z ge
        · exact z
        · obtain ⟨j, t, hj, et, kt⟩ := knum i c mi ec z
          have := up j t hj et
          omega
      subst e
      have fc : fstOf o k (k c) = c := fstOf_at ec fun j t hj et z => by
        have := up j t hj et
        omega
      have pe := kD_put (o := List.range (k c)) (k := fstOf o k) (s := k c) (fun z => Nat.lt_irrefl _ (List.mem_range.mp z))
      rw [fc, ← List.range_succ] at pe
      have pe : putK (kD (List.range (k c)) (fstOf o k)) (.inl (k c : Int)) (.int (c : Int)) = kD (List.range (k c + 1)) (fstOf o k) := pe
      show ∃ x7 mi, _
      rw [pe]
      refine ⟨_, k c + 1, rfl, upd_same, fun j t hj et => ?_, fun v hv => ?_, same_mut s4 hfd⟩
      · rcases Nat.lt_succ_iff_lt_or_eq.mp hj with z | z
        · have := up j t z et
          omega
        · subst z
          rw [ec] at et
          cases et
          exact Nat.lt_succ_self _
      · rcases Nat.lt_succ_iff_lt_or_eq.mp hv with z | z
        · obtain ⟨j, t, hj, et, kt⟩ := on v (by omega)
          exact ⟨j, t, Nat.lt_succ_of_lt hj, et, kt⟩
        · exact ⟨i, c, Nat.lt_succ_self i, ec, z.symm⟩
  rintro σ H4 ⟨x7, mi, rfl, ef4, up, on, s4⟩
  rw [lno] at up on
  have mim : mi = m := by
    refine Nat.le_antisymm ?_ ?_
    · rcases Nat.eq_zero_or_pos mi with z | z
      · omega
      · obtain ⟨j, t, _, et, kt⟩ := on (mi - 1) (by omega)
        have := klt t (List.mem_of_getElem? et)
        omega
    · rcases Nat.lt_or_ge mi m with z | z
      · obtain ⟨s, hs, e⟩ := kon mi z
        obtain ⟨j, hj, ej⟩ := List.getElem_of_mem hs
        have := up j s hj (by rw [List.getElem?_eq_getElem hj, ej])
        omega
      · exact z
  subst mim
  have lD : (kD (List.range mi) (fstOf o k)).length = mi := by unfold kD; rw [List.length_map, List.length_range]
  have Dat : ∀ i, i < mi → (kD (List.range mi) (fstOf o k))[i]? = some (.inl (i : Int), V.int (fstOf o k i : Int)) := fun i hi => by
    unfold kD
    rw [List.getElem?_map, range_at hi]
    rfl
  refine ⟨fd, _, ef4, trivial, fun od => ?_⟩
  have ez := upd_same (H := H4) (a := fd) (o := .frz od (.dK (kD (List.range mi) (fstOf o k))))
  have sz := same_mut (u := .frz od (.dK (kD (List.range mi) (fstOf o k)))) s4 hfd
  generalize upd H4 fd _ = H5 at ez sz
  refine ⟨_, rfl, fd, od, _, rfl, ez, fun D hD => ?_⟩
  have nfD : fd ≠ D := ne_of_none ez hD
  have fD := same_none sz hD
  refine lc_it walk_values (fun i H' => ∃ rs' : Rows, rs'.length = i ∧ H' D = some (.lst (rrefs rs')) ∧ H' fd = some (.frz od (.dK (kD (List.range mi) (fstOf o k)))) ∧ (∀ q ∈ rs', H' q.1 = some (.lst (nats q.2)) ∧ Hk q.1 = none ∧ q.1 ≠ D ∧ q.1 ≠ fd) ∧ (rs'.map (·.1)).Nodup ∧
    (∀ v q row, rs'[v]? = some q → rs[fstOf o k v]? = some row → q.2 = row.2.map k) ∧ Same Hk H') ⟨[], rfl, upd_same, upd_old ez hD, nofun, List.nodup_nil, fun v q row e _ => (by cases e), same_mut sz fD⟩ (fun i H' _ z => by obtain ⟨_, _, _, e, _⟩ := z; exact e) ?_ ?_
  · rintro i v H6 H7 hi ⟨rs', li, eD, ef6, rows, nd, val, s6⟩ ⟨rfl, key, hv⟩
    rw [lD] at hi
    rw [Dat i hi] at hv
    cases hv
    have mc := fmem i hi
    generalize hc : fstOf o k i = c at mc
    have cn : c < rs.length := O.lt c mc
    have er : rs[c]? = some rs[c] := List.getElem?_eq_getElem cn
    have mr := List.getElem_mem cn
    generalize rs[c] = row at er mr
    obtain ⟨lrow, brow⟩ := tb.row row mr
    have sh6 := shk.mono s6
    refine ⟨rfl, ?_⟩
    refine ⟨_, rfl, _, rfl, r, _, (c : Int), _, rfl, rfl, SqL.of sh6.r, atI_nat (by unfold rrefs; rw [List.getElem?_map, er]; rfl), row.1, rfl, ⟨_, SqL.of (sh6.q row mr)⟩, fun D2 hD2 => ?_⟩
    refine lc_list (xs := nats row.2) (fun j H' => H' = upd H7 D2 (.lst (nats ((row.2.take j).map k)))) rfl (fun j H' _ q => by rw [q]; exact SqL.of (upd_old (sh6.q row mr) hD2)) ?_ ?_
    · rintro j v H8 hv rfl
      unfold nats at hv
      obtain ⟨b, eb, rfl⟩ := map_at hv
      have mb : b ∈ o := by
        have jb := (List.getElem?_eq_some_iff.mp eb).1
        have := O.cl c mc j (by show j < x.length; omega)
        rw [tab_d er eb] at this
        exact this
      refine ⟨rfl, _, rfl, _, rfl, kd, _, rfl, (by have z := DGet.k (k := .inl (b : Int)) (upd_old (u := .lst (nats ((row.2.take j).map k))) (s6 _ _ ek) hD2); rw [kD_some mb] at z; exact z), _, upd_same, ?_, ?_⟩
      · unfold nats
        rw [List.length_map, List.length_map, List.length_take]
        have := (List.getElem?_eq_some_iff.mp eb).1
        exact small_lt (by have := tb.wd.len; omega)
      · rw [upd_upd, List.take_add_one, eb, List.map_append]
        unfold nats
        rw [List.map_append]
        rfl
    rintro H8 rfl
    have lrow' : (nats row.2).length = row.2.length := List.length_map ..
    rw [lrow', List.take_length]
    have nD2 : D ≠ D2 := ne_of_none eD hD2
    have nf2 : fd ≠ D2 := ne_of_none ef6 hD2
    have eD8 := upd_old (u := .lst (nats (row.2.map k))) eD hD2
    refine ⟨_, eD8, by unfold rrefs; rw [List.length_map, li]; exact small_lt (by omega), rs' ++ [(D2, row.2.map k)], by rw [List.length_append, li]; rfl, by rw [upd_same]; unfold rrefs; rw [List.map_append]; rfl, ?_, ?_, ?_, ?_, ?_⟩
    · rw [upd_ne nfD]
      exact upd_old ef6 hD2
    · intro q hq
      rcases List.mem_append.mp hq with z | z
      · obtain ⟨q1, q2, q3, q4⟩ := rows q z
        exact ⟨by rw [upd_ne q3]; exact upd_old q1 hD2, q2, q3, q4⟩
      · rw [List.mem_singleton.mp z]
        exact ⟨by rw [upd_ne nD2.symm]; exact upd_same, same_none s6 hD2, nD2.symm, nf2.symm⟩
    · rw [List.map_append]
      refine List.nodup_append.mpr ⟨nd, List.nodup_cons.mpr ⟨nofun, List.nodup_nil⟩, fun y hy z hz e => ?_⟩
      obtain ⟨q, hq, rfl⟩ := List.mem_map.mp hy
      have hz := List.mem_singleton.mp hz
      rw [hz] at e
      have := (rows q hq).1
      rw [e, hD2] at this
      cases this
    · intro v q row2 e1 e2
      rcases Nat.lt_or_ge v i with z | z
      · rw [List.getElem?_append_left (by omega)] at e1
        exact val v q row2 e1 e2
      · have hv : v = i := by
          have := (List.getElem?_eq_some_iff.mp e1).1
          rw [List.length_append] at this
          have : v < rs'.length + 1 := this
          omega
        subst hv
        rw [List.getElem?_append_right (by omega), li, Nat.sub_self] at e1
        cases e1
        rw [hc, er] at e2
        cases e2
        rfl
    · exact same_mut (same_new s6 hD2) fD
  rintro H6 ⟨rs', li, eD, ef6, rows, nd, val, s6⟩
  rw [lD] at li
  refine ⟨ef6, ?_⟩
  have ef7 := upd_same (H := H6) (a := fd) (o := .dK (kD (List.range mi) (fstOf o k)))
  have eD7 : upd H6 fd (.dK (kD (List.range mi) (fstOf o k))) D = some (.lst (rrefs rs')) := by rw [upd_ne nfD.symm]; exact eD
  have rows7 : ∀ q ∈ rs', upd H6 fd (.dK (kD (List.range mi) (fstOf o k))) q.1 = some (.lst (nats q.2)) := fun q hq => by
    rw [upd_ne (rows q hq).2.2.2]
    exact (rows q hq).1
  have s7 := same_mut (u := .dK (kD (List.range mi) (fstOf o k))) s6 hfd
  generalize upd H6 fd _ = H7 at ef7 eD7 rows7 s7
  refine ⟨_, rfl, _, rfl, fd, _, ef7, trivial, fun od2 => ?_⟩
  have ez := upd_same (H := H7) (a := fd) (o := .frz od2 (.dK (kD (List.range mi) (fstOf o k))))
  have eD8 : upd H7 fd (.frz od2 (.dK (kD (List.range mi) (fstOf o k)))) D = some (.lst (rrefs rs')) := by rw [upd_ne nfD.symm]; exact eD7
  have rows8 : ∀ q ∈ rs', upd H7 fd (.frz od2 (.dK (kD (List.range mi) (fstOf o k)))) q.1 = some (.lst (nats q.2)) := fun q hq => by
    rw [upd_ne (rows q hq).2.2.2]
    exact rows7 q hq
  have s8 := same_mut (u := .frz od2 (.dK (kD (List.range mi) (fstOf o k)))) s7 hfd
  generalize upd H7 fd _ = H8 at ez eD8 rows8 s8
  refine ⟨_, rfl, fd, od2, _, rfl, ez, fun D3 hD3 => ?_⟩
  have nf3 : fd ≠ D3 := ne_of_none ez hD3
  have nD3 : D ≠ D3 := ne_of_none eD8 hD3
  refine lc_it walk_items (fun i H' => ∃ H0, Same H8 H0 ∧ H0 D3 = none ∧ H' = upd H0 D3 (.lst (nats ((List.range i).filter fun v => decide (fstOf o k v ∈ es))))) ⟨H8, Same.refl _, hD3, rfl⟩ (fun i H' _ z => by obtain ⟨H0, s0, n0, rfl⟩ := z; exact upd_old (s0 _ _ ez) n0) ?_ ?_
  · rintro i v H9 H10 hi ⟨H0, s0, n0, rfl⟩ ⟨T', x1, x2, rfl, hT, rfl, e1, e2⟩
    rw [lD] at hi
    have e1 : ((kD (List.range mi) (fstOf o k))[i]?).map (fun kv => kV kv.1) = some x1 := e1
    have e2 : ((kD (List.range mi) (fstOf o k))[i]?).map Prod.snd = some x2 := e2
    rw [Dat i hi] at e1 e2
    cases e1
    cases e2
    obtain ⟨hT0, nT⟩ := free_old hT
    refine ⟨T', _, rfl, SqT.of upd_same, rfl, _, _, rfl, _, _, rfl, rfl, rfl, ?_⟩
    refine ⟨_, rfl, _, rfl, g, _, rfl, .inl (SqL.of (upd_old (upd_old (s0 _ _ (s8 _ _ shk.g)) n0) hT)), rfl, flat_nats es, ?_⟩
    rw [if_neg (by decide), in_nats, List.range_succ, List.filter_append]
    have lf : ((List.range i).filter fun v => decide (fstOf o k v ∈ es)).length ≤ i := by
      have := List.length_filter_le (fun v => decide (fstOf o k v ∈ es)) (List.range i)
      rw [List.length_range] at this
      exact this
    refine ⟨_, rfl, ?_⟩
    refine ite2 (fun c => ?_) (fun c => ?_)
    · refine ⟨_, rfl, _, upd_old upd_same hT, by unfold nats; rw [List.length_map]; exact small_lt (by omega), upd H0 T' (.tup [.int i, .int (fstOf o k i)]), same_new s0 hT0, by rw [upd_ne nT.symm]; exact n0, ?_⟩
      rw [List.filter_cons_of_pos (by exact c), List.filter_nil, upd_swap nT, upd_upd]
      unfold nats
      rw [List.map_append]
      rfl
    · refine ⟨upd H0 T' (.tup [.int i, .int (fstOf o k i)]), same_new s0 hT0, by rw [upd_ne nT.symm]; exact n0, ?_⟩
      rw [List.filter_cons_of_neg (by exact c), List.filter_nil, List.append_nil, upd_swap nT]
      rfl
  rintro H9 ⟨H0, s0, n0, rfl⟩
  rw [lD]
  generalize hes : (List.range mi).filter (fun v => decide (fstOf o k v ∈ es)) = es'
  refine ⟨upd_old (s0 _ _ ez) n0, ?_⟩
  have eD3 : upd (upd H0 D3 (.lst (nats es'))) fd (.dK (kD (List.range mi) (fstOf o k))) D3 = some (.lst (nats es')) := by rw [upd_ne nf3.symm]; exact upd_same
  have eD9 : upd (upd H0 D3 (.lst (nats es'))) fd (.dK (kD (List.range mi) (fstOf o k))) D = some (.lst (rrefs rs')) := by rw [upd_ne nfD.symm]; exact upd_old (s0 _ _ eD8) n0
  have rows9 : ∀ q ∈ rs', upd (upd H0 D3 (.lst (nats es'))) fd (.dK (kD (List.range mi) (fstOf o k))) q.1 = some (.lst (nats q.2)) := fun q hq => by
    rw [upd_ne (rows q hq).2.2.2]
    exact upd_old (s0 _ _ (rows8 q hq)) n0
  have s9 := same_mut (u := .dK (kD (List.range mi) (fstOf o k))) (same_new (u := .lst (nats es')) (s8.trans s0) n0) hfd
  generalize upd (upd H0 D3 _) fd _ = H9 at eD3 eD9 rows9 s9
  refine ⟨by show 3 ≤ sizeLine; decide, fun p' hp' => ?_⟩
  have rowOf : ∀ v, v < mi → ∃ q row, rs'[v]? = some q ∧ q ∈ rs' ∧ rs[fstOf o k v]? = some row ∧ row ∈ rs ∧ q.2 = row.2.map k := fun v hv => by
    have e1 := List.getElem?_eq_getElem (l := rs') (by omega : v < rs'.length)
    have cn : fstOf o k v < rs.length := O.lt _ (fmem v hv)
    have e2 := List.getElem?_eq_getElem cn
    exact ⟨_, _, e1, List.getElem_mem _, e2, List.getElem_mem _, val v _ _ e1 e2⟩
  have mem_es : ∀ v, v ∈ es' ↔ v < mi ∧ fstOf o k v ∈ es := fun v => by
    rw [← hes, List.mem_filter, List.mem_range]
    exact ⟨fun h => ⟨h.1, of_decide_eq_true h.2⟩, fun h => ⟨h.1, decide_eq_true h.2⟩⟩
  have m0 := List.mem_of_getElem? O.first
  have k0 : k 0 = 0 := by
    rcases Nat.eq_zero_or_pos (k 0) with z | z
    · exact z
    · obtain ⟨j, _, hj, _⟩ := knum 0 0 0 O.first z
      omega
  have mi0 : 0 < mi := by have := klt 0 m0; omega
  have T' : Tbl x rs' es' := by
    refine ⟨tb.wd, tb.asc, by omega, by omega, fun q hq => ?_, ?_, fun n hn => by have := (mem_es n).mp hn; omega⟩
    · obtain ⟨v, hv, ev⟩ := List.getElem_of_mem hq
      obtain ⟨q', row, e1, _, e2, mr, e3⟩ := rowOf v (by omega)
      rw [List.getElem?_eq_getElem hv, ev] at e1
      cases e1
      obtain ⟨lrow, _⟩ := tb.row row mr
      refine ⟨by rw [e3, List.length_map]; exact lrow, fun n hn => ?_⟩
      rw [e3] at hn
      obtain ⟨b, hb, rfl⟩ := List.mem_map.mp hn
      obtain ⟨j, hj, ej⟩ := List.getElem_of_mem hb
      have mb : b ∈ o := by
        have := O.cl _ (fmem v (by omega)) j (by show j < x.length; omega)
        rw [tab_d e2 (by rw [List.getElem?_eq_getElem hj, ej])] at this
        exact this
      have := klt b mb
      omega
    · rw [← hes]
      exact List.pairwise_lt_range.filter _
  obtain ⟨L, E'⟩ := Tb.least_of (A := tabOf x rs es) (B := tabOf x rs' es') tb.ok O keq knum klt kon fk rfl li (fun v b hv hb => by
      obtain ⟨q, row, e1, _, e2, mr, e3⟩ := rowOf v hv
      obtain ⟨lrow, _⟩ := tb.row row mr
      have hb : b < x.length := hb
      have e4 := List.getElem?_eq_getElem (l := row.2) (by omega : b < row.2.length)
      rw [tab_d e2 e4, tab_d e1 (by rw [e3, List.getElem?_map, e4]; rfl)]) (fun v hv => by
      show decide (v ∈ es') = decide (fstOf o k v ∈ es)
      rw [decide_eq_decide, mem_es]
      exact ⟨fun h => h.2, fun h => ⟨hv, h⟩⟩)
  refine kk p' D D3 rs' es' _ (sk.trans (same_new s9 hp')) ⟨same_none sk fD, same_none sk (same_none s8 hD3), nD3, fun q hq => ⟨same_none sk (rows q hq).2.1, (rows q hq).2.2.1, ne_of_none (rows8 q hq) hD3⟩, nd⟩ ⟨SqT.of upd_same, upd_old eD9 hp', upd_old eD3 hp', fun q hq => upd_old (rows9 q hq) hp'⟩ T' L ?_
  have := E' 0 m0
  rw [k0] at this
  exact this
abbrev s_least : Stmt := top 16
theorem sc_least : FnScope ["told"] ["told"] (defScope s_least) := ⟨rfl, rfl, rfl, by decide +kernel, rfl, by decide +kernel, by decide +kernel⟩
/-- least(told) of a right table -/
theorem ok_least {f : Addr} {fd fd1 fd2 : FuncData} (F : Fun K "least" "least" s_least f fd) (T : Txt K mg a) (c_check_table : CalX P w K mg base 3 a.check_table fd1 ["told"] (spChkT K)) (c_least_table : Cal P w K mg base 2 a.least_table fd2 ["told"] (spLeastT K)) : FnOk P w K mg base (L2.CX P w) 4 f fd ["told"] (spLeastT K) := by
  refine F.okX sc_least (fun vs H Q E h => by obtain ⟨p, r, g, x, rs, es, rfl, _⟩ := h; rfl) (fun cdv A outer s H vs Q E hr0 h => ?_)
  have hr_check_table : (Room 3 (A.deeper (envOfC "least" (defScope s_least) s.heap.objs.size f cdv))) := hr0
  have hr_least_table := hr_check_table.mono (show 2 ≤ 3 by decide)
  refine ⟨_, (pss_cons (ps_expr (pe_callS c_check_table.ok hr_check_table rfl T.g_check_table T.k_check_table c_check_table.binds (fun σ => passAt (takes_of rfl rfl rfl rfl) σ) (pa_cons (pv 0) pa_nil)))
      (pss_one (ps_ret (pe_call c_least_table.ok hr_least_table rfl T.g_least_table T.k_least_table c_least_table.binds .nil pass0 (pa_cons (pv 0) pa_nil))))), ?_⟩
  obtain ⟨p, r, g, x, rs, es, rfl, sh, tb, k⟩ := h
  refine ⟨_, rfl, p, r, g, x, rs, es, rfl, sh, tb, fun H1 s1 => ?_⟩
  refine ⟨_, rfl, p, r, g, x, rs, es, rfl, sh.mono s1, tb, fun p' r' g' rs' es' H2 s2 nt sh2 tb2 L e => ?_⟩
  exact k p' r' g' rs' es' H2 (s1.trans s2) ⟨same_none s1 nt.hr, same_none s1 nt.hg, nt.rg, fun q hq => ⟨same_none s1 (nt.hq q hq).1, (nt.hq q hq).2⟩, nt.nd⟩ sh2 tb2 L e
end
end K19

namespace K19
open PySem PySem.Spec PyProof.Rows L2 Sf
section
variable {P : Program} {w : World} {K : PySem.W.Frag} {mg : Str → Option Value} {base : Heap} {a : Ad}
abbrev s_coin : Stmt := top 19
theorem sc_coin : FnScope ["purse", "many", "drawn", "stirred"] ["purse", "many"] (defScope s_coin) := ⟨rfl, rfl, rfl, by decide +kernel, rfl, by decide +kernel, by decide +kernel⟩
theorem ok_coin {f : Addr} {fd : FuncData} (F : Fun K "_law_coin" "_law_coin" s_coin f fd) (T : Txt K mg a) : FnOk P w K mg base CX0 1 f fd ["purse", "many"] spCoin := by
  refine F.ok sc_coin (fun vs H Q E h => by obtain ⟨a, n, m, rfl, _⟩ := h; rfl) (fun cdv A outer s H vs Q E hr h => ?_)
  refine ⟨_, (pss_cons (ps_if (pt_cmpR op_gt (pe_ix ix_list (pv 0) pe_int (fun _ _ => rfl)) pe_int (nomark _)) (pss_cons (ps_set (i := 2) sc_coin.nd rfl (Or.inl rfl) (pe_op op_mod (pe_callTy call_int1 (by rfl) T.b_int (by decide +kernel) (pa_cons (pe_ix ix_list (pv 0) pe_int (fun _ _ => rfl)) pa_nil)) (pv 1)))
      (pss_cons (ps_asg (pe_op op_fdivW (pe_ix ix_list (pv 0) pe_int (fun _ _ => rfl)) (pv 1)) (pg_sub (pv 0) pe_int set_list))
      (pss_one (ps_ret (pv 2))))) pss_nil)
      (pss_cons (ps_asg (pe_op op_add (pe_ix ix_list (pv 0) pe_int (fun _ _ => rfl)) pe_int) (pg_sub (pv 0) pe_int set_list))
      (pss_cons (ps_set (i := 3) sc_coin.nd rfl (Or.inl rfl) (pe_op op_mod (pe_op op_powX (pe_callTy call_int1 (by rfl) T.b_int (by decide +kernel) (pa_cons (pe_op op_add (pe_ix ix_list (pv 0) pe_int (fun _ _ => rfl)) (pe_op op_mulX pe_int (pe_ix ix_list (pv 0) pe_int (fun _ _ => rfl)))) pa_nil)) pe_int) (pe_op op_add (pe_op op_powX pe_int pe_int) pe_int)))
      (pss_cons (ps_set (i := 3) sc_coin.nd rfl (Or.inl rfl) (pe_op op_mod (pe_op op_powX (pe_callTy call_int1 (by rfl) T.b_int (by decide +kernel) (pa_cons (pe_op op_add (pv 3) (pe_op op_mulX pe_int (pe_ix ix_list (pv 0) pe_int (fun _ _ => rfl)))) pa_nil)) pe_int) (pe_op op_add (pe_op op_powX pe_int pe_int) pe_int)))
      (pss_one (ps_ret (pe_op op_mod (pe_callTy call_int1 (by rfl) T.b_int (by decide +kernel) (pa_cons (pe_op op_fdivW (pv 3) pe_int) pa_nil)) (pv 1)))))))), ?_⟩
  obtain ⟨a, n, m, rfl, ⟨p, q, r, e, q0, q1, r0, r1⟩, hn, m0, m1, k⟩ := h
  have md : m.natAbs < 2 ^ 200 := by
    have e2 : ((2 ^ 200 : Nat) : Int) = 2 ^ 200 := by decide
    omega
  refine ⟨_, rfl, _, _, _, _, rfl, rfl, SqL.of e, rfl, _, _, rfl, rfl, _, rfl, ?_⟩
  refine ite2 (fun c => ?_) (fun c => ?_)
  · refine ⟨_, rfl, _, _, _, _, rfl, rfl, SqL.of e, rfl, .inl ⟨_, rfl, _, rfl, _, _, rfl, rfl, m0, ?_⟩⟩
    refine ⟨_, rfl, _, _, _, _, rfl, rfl, SqL.of e, rfl, _, rfl, _, _, rfl, rfl, wide_div m0 md (by decide) (by decide), ?_⟩
    refine ⟨_, rfl, _, _, _, _, rfl, rfl, e, rfl, ?_⟩
    refine ⟨_, rfl, ?_⟩
    exact k _ _ (Int.emod_nonneg _ (by omega)) (Int.emod_lt_of_pos _ m0) ⟨_, q, r, upd_same, q0, q1, r0, by omega⟩ (fun b o nb h => by rw [upd_ne nb]; exact h)
  · refine ⟨_, rfl, _, _, _, _, rfl, rfl, SqL.of e, rfl, _, _, rfl, rfl, ?_⟩
    refine ⟨_, rfl, _, _, _, _, rfl, rfl, e, rfl, ?_⟩
    have r31 : (r + 1).natAbs < 2 ^ 31 := by
      have e2 : (2 ^ 31 : Nat) = 2147483648 := by decide
      omega
    have br := bits_le r31
    have b1 : Builtin.Int.intBits 2038074743 ≤ 31 := bits_le (by decide)
    have b2 : Builtin.Int.intBits 982451653 ≤ 31 := bits_le (by decide)
    refine ⟨_, rfl, _, _, _, _, rfl, rfl, SqL.of upd_same, rfl, _, rfl, _, _, _, _, rfl, rfl, SqL.of upd_same, rfl, _, _, rfl, rfl, ?c1, _, _, rfl, rfl, .inl ⟨_, rfl, _, _, rfl, rfl, ?c2, ?_⟩⟩
    case c1 => show _ + _ ≤ _; omega
    case c2 => exact ⟨by decide, pow_ok (n := 91) (by omega) (by omega) (by decide) (by decide)⟩
    refine ⟨_, _, rfl, rfl, ⟨by decide, pow_ok (n := 4) (by decide) (by decide) (by decide) (by decide)⟩, _, _, rfl, rfl, _, _, rfl, rfl, (by show (0 : Int) < _; decide), ?_⟩
    have s0 := Int.emod_nonneg ((q + 2038074743 * (r + 1)) ^ (3 : Int).toNat) (b := (10 : Int) ^ (25 : Int).toNat + 13) (by decide)
    have s1 := Int.emod_lt_of_pos ((q + 2038074743 * (r + 1)) ^ (3 : Int).toNat) (b := (10 : Int) ^ (25 : Int).toNat + 13) (by decide)
    have s2 : (10 : Int) ^ (25 : Int).toNat + 13 < 2 ^ 90 := by decide
    refine ⟨_, rfl, _, rfl, _, _, _, _, rfl, rfl, SqL.of upd_same, rfl, _, _, rfl, rfl, ?c3, _, _, rfl, rfl, .inl ⟨_, rfl, _, _, rfl, rfl, ?c4, ?_⟩⟩
    case c3 => show _ + _ ≤ _; omega
    case c4 => exact ⟨by decide, pow_ok (n := 91) (by omega) (by omega) (by decide) (by decide)⟩
    refine ⟨_, _, rfl, rfl, ⟨by decide, pow_ok (n := 4) (by decide) (by decide) (by decide) (by decide)⟩, _, _, rfl, rfl, _, _, rfl, rfl, (by show (0 : Int) < _; decide), ?_⟩
    refine ⟨_, rfl, _, _, rfl, rfl, wide_div (b := 11) (by decide) (by decide) (by decide) (by decide), .inl ⟨_, rfl, _, rfl, _, _, rfl, rfl, m0, ?_⟩⟩
    refine k _ _ (Int.emod_nonneg _ (by omega)) (Int.emod_lt_of_pos _ m0) ⟨p, q, r + 1, upd_same, q0, q1, by omega, by omega⟩ (fun b o nb h => by rw [upd_ne nb]; exact h)
theorem ls_ones : ∀ cs : List Nat, ((cs.map fun c => (⟨#[c]⟩ : Str)).map fun x => x.cps.toList).flatten = cs
  | [] => rfl
  | c :: r => congrArg (c :: ·) (ls_ones r)
def let1 (g : Nat) : Str := ⟨#[97 + g]⟩
theorem abc_g : ∀ g, g < 26 → abcS.cps.toList[g]? = some (97 + g) := by decide
theorem let1_abc {g : Nat} (h : g < 26) : ∃ c ∈ abcS.cps.toList, let1 g = ⟨#[c]⟩ := ⟨97 + g, List.mem_of_getElem? (abc_g g h), rfl⟩
/-- unlike letters, sorted and put together -/
theorem sorted_letters {gs : List Nat} {zs : List Str} (lt : ∀ g ∈ gs, g < 26) (nd : gs.Nodup) (perm : zs.Perm (gs.map let1)) (so : sortedS zs = true) : Wd gs.length (Txt.join "" zs) ∧ (Txt.join "" zs).length = gs.length ∧ (Txt.join "" zs).cps.toList.Pairwise (· < ·) := by
  have hz : ∀ y ∈ zs, ∃ g ∈ gs, y = let1 g := fun y hy => by
    obtain ⟨g, hg, e⟩ := List.mem_map.mp (perm.mem_iff.mp hy)
    exact ⟨g, hg, e.symm⟩
  have hc : ∀ y ∈ zs, ∃ c ∈ abcS.cps.toList, y = ⟨#[c]⟩ := fun y hy => by
    obtain ⟨g, hg, rfl⟩ := hz y hy
    exact let1_abc (lt g hg)
  have ln : zs.length = gs.length := by rw [perm.length_eq, List.length_map]
  obtain ⟨w1, w2⟩ := wd_join hc
  rw [ln] at w1 w2
  refine ⟨w1, w2, ?_⟩
  -- the letters by their numbers
  have e1 : zs = (zs.map fun y => y.cps.getD 0 0).map fun c => (⟨#[c]⟩ : Str) := by
    rw [List.map_map]
    refine (List.map_id zs).symm.trans (List.map_congr_left fun y hy => ?_)
    obtain ⟨g, _, rfl⟩ := hz y hy
    rfl
  have p2 : (zs.map fun y => y.cps.getD 0 0).Perm (gs.map fun g => 97 + g) := by
    have := perm.map fun y : Str => y.cps.getD 0 0
    rw [List.map_map] at this
    exact this
  have nd2 : (zs.map fun y => y.cps.getD 0 0).Nodup := p2.nodup_iff.mpr (List.Pairwise.map (fun g => 97 + g) (fun _ _ h => by omega) nd)
  have le : (zs.map fun y => y.cps.getD 0 0).Pairwise (· ≤ ·) := sorted_one (by rw [← e1]; exact so)
  have cp : (Txt.join "" zs).cps.toList = zs.map fun y => y.cps.getD 0 0 := by
    rw [ls_join0]
    generalize (zs.map fun y => y.cps.getD 0 0) = cs at e1
    subst e1
    exact ls_ones cs
  rw [cp]
  exact (List.Pairwise.and le nd2).imp fun h => by omega
abbrev s_qt_letters : Stmt := top 20
theorem sc_qt_letters : FnScope ["sack", "amount", "at", "found", "turn"] ["sack", "amount"] (defScope s_qt_letters) := ⟨rfl, rfl, rfl, by decide +kernel, rfl, by decide +kernel, by decide +kernel⟩
/-- m unlike letters, ascending -/
def spLetters : Sp := fun vs H Q _ => ∃ (sk : Addr) (n m : Nat), vs = [.ref sk, .int m] ∧ Sk n H sk ∧ n ≤ 100000000 ∧ m ≤ 6 ∧ ∀ x H', Sk (n + 10) H' sk → Kp sk H H' → Wd 6 x → x.length = m → x.cps.toList.Pairwise (· < ·) → Q (.str x) H'
theorem ok_letters {f : Addr} {fd fd1 : FuncData} (F : Fun K "_law_qt_letters" "_law_qt_letters" s_qt_letters f fd) (T : Txt K mg a) (c_coin : Cal P w K mg base 1 a.coin fd1 ["purse", "many"] spCoin) : FnOk P w K mg base CX0 2 f fd ["sack", "amount"] spLetters := by
  refine F.ok sc_qt_letters (fun vs H Q E h => by obtain ⟨sk, n, m, rfl, _⟩ := h; rfl) (fun cdv A outer s H vs Q E hr h => ?_)
  have hr_coin := hr
  refine ⟨_, (pss_cons (ps_par (i := 2) (j := 3) (by rfl) sc_qt_letters.nd rfl rfl (by decide) rfl rfl (pa_cons (pe_call c_coin.ok hr_coin rfl T.g_coin T.k_coin c_coin.binds .nil pass0 (pa_cons (pv 0) (pa_cons pe_int pa_nil))) (pa_cons (pe_lst pa_nil) pa_nil)) (by rfl))
      (pss_cons (ps_for PassesOwn.never rfl (pi_range1 rfl T.b_range (pa_cons (pv 1) pa_nil)) (pg_name (i := 4) sc_qt_letters.nd rfl (Or.inl rfl))
      (pss_cons (ps_expr (pe_bm PySem.F.plainAttrs_list PySem.F.slot_list_append PySem.F.type_list_append mt_append (pv 3) (pa_cons (pe_ix ix_str pe_str (pe_op op_mod (pe_callTy call_int1 (by rfl) T.b_int (by decide +kernel) (pa_cons (pv 2) pa_nil)) pe_int) (fun _ _ => rfl)) pa_nil)))
      (pss_one (ps_set (i := 2) sc_qt_letters.nd rfl (Or.inl rfl) (pe_op op_add (pe_op op_add (pv 2) pe_int) (pe_call c_coin.ok hr_coin rfl T.g_coin T.k_coin c_coin.binds .nil pass0 (pa_cons (pv 0) (pa_cons pe_int pa_nil))))))))
      (pss_one (ps_ret (pe_join pe_str (pe_callB cr_sortedS (by rfl) T.b_sorted (by decide +kernel) (pa_cons (pv 3) pa_nil))))))), ?_⟩
  obtain ⟨sk, n, m, rfl, hsk, hn, m6, k⟩ := h
  refine ⟨_, rfl, sk, n, _, rfl, hsk, by omega, by decide, by decide, fun b H1 b0 b1 sk1 kp1 => ?_⟩
  obtain ⟨b, rfl⟩ := nat_of b0
  refine ⟨by show 0 ≤ sizeLine; decide, fun l hl => ?_⟩
  refine ⟨_, _, rfl, _, rfl, _, rfl, by omega, by omega, for_range (lo := 0) (n := m) (fun i σ H' => ∃ (A : Nat) (as : List Nat) (x4 : Option V), σ = [some (.ref sk), some (.int m), some (.int A), some (.ref l), x4] ∧ H' l = some (.lst ((as.map fun y => let1 (y % 26)).map V.str)) ∧ H l = none ∧ l ≠ sk ∧
    as.length = i ∧ (∀ y ∈ as, b ≤ y ∧ y < A ∧ y + 5 ≤ b + 5 * i) ∧ as.Nodup ∧ b ≤ A ∧ A ≤ b + 5 * i ∧ Sk (n + 1 + i) H' sk ∧ Kp sk H H') ⟨b, [], _, rfl, upd_same, kp1.free (sk1.ne hl) hl, sk1.ne hl, rfl, nofun, List.nodup_nil, Nat.le_refl _, by omega, sk1.new hl, kp1.new hl⟩ ?_ ?_⟩
  · rintro i σ H2 hi ⟨A, as, x4, rfl, el, fl, nl, la, inb, nd, bA, Ab, sk2, kp2⟩
    rw [Int.zero_add]
    have hA : A % 26 < 26 := Nat.mod_lt _ (by decide)
    have ea : V.int ((A : Int) % 26) = V.int ((A % 26 : Nat) : Int) := by rw [Int.natCast_emod]; rfl
    have ln : ((as.map fun y => let1 (y % 26)).map V.str).length = i := by rw [List.length_map, List.length_map, la]
    refine ⟨_, rfl, .inl ⟨rfl, _, SqL.of el⟩, _, rfl, .inl ⟨_, rfl, _, _, rfl, rfl, (by show (0 : Int) < 26; decide), abcS, ((A % 26 : Nat) : Int), 97 + A % 26, rfl, ea, by decide, atI_nat (abc_g _ hA), l, _, _, rfl, rfl, el, by rw [ln]; exact small_lt (by omega), ?_⟩⟩
    have nl2 : l ≠ sk := nl
    refine ⟨_, rfl, _, _, rfl, rfl, _, rfl, sk, n + 1 + i, _, rfl, sk_mut sk2 nl2, by omega, by decide, by decide, fun z H3 z0 z1 sk3 kp3 => ?_⟩
    obtain ⟨z, rfl⟩ := nat_of z0
    refine ⟨_, _, rfl, rfl, A + 1 + z, as ++ [A], _, rfl, ?_, fl, nl, by rw [List.length_append, la]; rfl, fun y hy => ?_, ?_, by omega, by omega, sk3, (kp_mut kp2 fl).trans kp3⟩
    · refine kp3 _ _ nl ?_
      rw [List.map_append, List.map_append]
      exact upd_same
    · rcases List.mem_append.mp hy with c | c
      · have := inb y c; omega
      · rw [List.mem_singleton.mp c]; omega
    · refine List.nodup_append.mpr ⟨nd, List.nodup_cons.mpr ⟨nofun, List.nodup_nil⟩, fun y hy u hu e => ?_⟩
      have := inb y hy
      rw [List.mem_singleton.mp hu] at e
      omega
  · rintro σ H2 ⟨A, as, x4, rfl, el, fl, nl, la, inb, nd, bA, Ab, sk2, kp2⟩
    have lt : ∀ g ∈ as.map (· % 26), g < 26 := fun g hg => by
      obtain ⟨y, _, rfl⟩ := List.mem_map.mp hg
      exact Nat.mod_lt _ (by decide)
    have nd2 : (as.map (· % 26)).Nodup := by
      have nd : as.Pairwise (· ≠ ·) := nd
      refine List.pairwise_map.mpr (nd.imp_of_mem fun {y u} hy hu ne e => ne ?_)
      have := inb y hy
      have := inb u hu
      omega
    have em : (as.map fun y => let1 (y % 26)) = (as.map (· % 26)).map let1 := by rw [List.map_map]; rfl
    rw [em] at el
    have lm : (as.map (· % 26)).length = m := by rw [List.length_map, la]
    refine ⟨⟨_, rfl⟩, _, rfl, l, _, rfl, SqL.of el, by rw [List.length_map]; omega, fun zs p perm so hp => ?_⟩
    obtain ⟨w1, w2, w3⟩ := sorted_letters lt nd2 perm so
    rw [lm] at w1 w2
    have lz : zs.length = m := by rw [perm.length_eq, List.length_map, lm]
    refine ⟨_, p, zs, rfl, rfl, .inl (SqL.of upd_same), ?_, k _ _ ((sk2.new hp).mono (by omega)) (kp2.new hp) (w1.mono m6) w2 w3⟩
    refine join_ok (B := 1) (n := 6) (fun y hy => ?_) (by omega) (by decide)
    obtain ⟨g, _, rfl⟩ := List.mem_map.mp (perm.mem_iff.mp hy)
    exact Nat.le_refl _
abbrev s_qt_copy : Stmt := top 23
theorem sc_qt_copy : FnScope ["sheet", "row"] ["sheet"] (defScope s_qt_copy) := ⟨rfl, rfl, rfl, by decide +kernel, rfl, by decide +kernel, by decide +kernel⟩
/-- the same in new lists -/
def spCopy (K : PySem.W.Frag) : Sp := fun vs H Q _ => ∃ (p r g : Addr) (x : Str) (rs : Rows) (es : List Nat), vs = [.ref p] ∧ Sh K H p r g x rs es ∧ Tbl x rs es ∧
  ∀ p' r' g' rs' H', Same H H' → NewT H r' g' rs' → rs'.map (·.2) = rs.map (·.2) → Sh K H' p' r' g' x rs' es → Q (.ref p') H'
theorem ok_copy {f : Addr} {fd : FuncData} (F : Fun K "_law_qt_copy" "_law_qt_copy" s_qt_copy f fd) (T : Txt K mg a) : FnOk P w K mg base CX0 1 f fd ["sheet"] (spCopy K) := by
  refine F.ok sc_qt_copy (fun vs H Q E h => by obtain ⟨p, r, g, x, rs, es, rfl, _⟩ := h; rfl) (fun cdv A outer s H vs Q E hr h => ?_)
  refine ⟨_, (pss_one (ps_ret (pe_tup (pa_cons (pe_ix ix_tup (pv 0) pe_int (fun _ _ => rfl)) (pa_cons (pe_lc (own := [("row", 1)]) (g := gName 1) (tt := tYes) rfl sc_qt_copy.nd (pi_list (pe_ix ix_tup (pv 0) pe_int (fun _ _ => rfl))) (blkOk_by (own := [("row", 1)]) (N := ["sheet", "row"]) (sc := defScope s_qt_copy) (by decide +kernel)) (fun _ _ _ _ _ => pg_name (i := 1) sc_qt_copy.nd rfl (Or.inl rfl)) (fun _ _ _ _ _ => pts_nil) (fun _ _ _ _ _ => (pe_callTy (call_list_ofK (K := K)) (by rfl) T.b_list (by decide +kernel) (pa_cons (pv 1) pa_nil)))) (pa_cons (pe_callTy call_list_of (by rfl) T.b_list (by decide +kernel) (pa_cons (pe_ix ix_tup (pv 0) pe_int (fun _ _ => rfl)) pa_nil)) pa_nil)))))), ?_⟩
  obtain ⟨p, r, g, x, rs, es, rfl, sh, tb, k⟩ := h
  have n9 := tb.n9
  have e9 := tb.e9
  have x9 := tb.wd.len
  refine ⟨_, rfl, p, _, 0, _, rfl, rfl, sh.p, atI_nat (j := 0) rfl, ?_⟩
  refine ⟨_, rfl, p, _, 1, _, rfl, rfl, sh.p, atI_nat (j := 1) rfl, r, rfl, ⟨_, SqL.of sh.r⟩, fun D hD => ?_⟩
  have lr : (rrefs rs).length = rs.length := List.length_map ..
  refine lc_list (xs := rrefs rs) (fun i H' => ∃ rs' : Rows, rs'.length = i ∧ H' D = some (.lst (rrefs rs')) ∧ (∀ q ∈ rs', H' q.1 = some (.lst (nats q.2)) ∧ H q.1 = none ∧ q.1 ≠ D) ∧ (rs'.map (·.1)).Nodup ∧ rs'.map (·.2) = (rs.take i).map (·.2) ∧ Same H H')
    ⟨[], rfl, upd_same, nofun, List.nodup_nil, rfl, same_new (Same.refl H) hD⟩ (fun i H' _ z => by obtain ⟨_, _, _, _, _, _, s'⟩ := z; exact SqL.of (s' _ _ sh.r)) ?_ ?_
  · rintro i v H1 hv ⟨rs', li, eD, rows, nd, val, s1⟩
    obtain ⟨row, er, rfl⟩ := map_at hv
    have mr := List.mem_of_getElem? er
    have ir := (List.getElem?_eq_some_iff.mp er).1
    refine ⟨rfl, _, rfl, row.1, _, rfl, .inl (SqL.of (s1 _ _ (sh.q row mr))), fun l hl => ?_⟩
    have nDl : D ≠ l := ne_of_none eD hl
    refine ⟨_, upd_old eD hl, by unfold rrefs; rw [List.length_map, li]; exact small_lt (by omega), rs' ++ [(l, row.2)], by rw [List.length_append, li]; rfl, by rw [upd_same]; unfold rrefs; rw [List.map_append]; rfl, ?_, ?_, ?_, ?_⟩
    · intro q hq
      rcases List.mem_append.mp hq with z | z
      · obtain ⟨q1, q2, q3⟩ := rows q z
        exact ⟨by rw [upd_ne q3]; exact upd_old q1 hl, q2, q3⟩
      · rw [List.mem_singleton.mp z]
        exact ⟨by rw [upd_ne nDl.symm]; exact upd_same, same_none s1 hl, nDl.symm⟩
    · rw [List.map_append]
      refine List.nodup_append.mpr ⟨nd, List.nodup_cons.mpr ⟨nofun, List.nodup_nil⟩, fun y hy z hz e => ?_⟩
      obtain ⟨q, hq, rfl⟩ := List.mem_map.mp hy
      have hz := List.mem_singleton.mp hz
      rw [hz] at e
      have := (rows q hq).1
      rw [e, hl] at this
      cases this
    · rw [List.map_append, val, List.take_add_one, er, List.map_append]
      rfl
    · exact same_mut (same_new s1 hl) hD
  · rintro H1 ⟨rs', li, eD, rows, nd, val, s1⟩
    rw [lr] at li
    rw [lr, List.take_length] at val
    have sh1 := sh.mono s1
    refine ⟨_, rfl, p, _, 2, _, rfl, rfl, sh1.p, atI_nat (j := 2) rfl, g, _, rfl, .inl (SqL.of sh1.g), fun g' hg' => ?_⟩
    have nDg : D ≠ g' := ne_of_none eD hg'
    refine ⟨by show 3 ≤ sizeLine; decide, fun p' hp' => ?_⟩
    refine k p' D g' rs' _ (same_new (same_new s1 hg') hp') ⟨hD, same_none s1 hg', nDg, fun q hq => ⟨(rows q hq).2.1, (rows q hq).2.2, ne_of_none (rows q hq).1 hg'⟩, nd⟩ val ⟨SqT.of upd_same, upd_old (upd_old eD hg') hp', upd_old upd_same hp', fun q hq => upd_old (upd_old (rows q hq).1 hg') hp'⟩
end
end K19

namespace K19
open PySem PySem.Spec PyProof.Rows L2 Sf
section
variable {P : Program} {w : World} {K : PySem.W.Frag} {mg : Str → Option Value} {base : Heap} {a : Ad}
abbrev s_qt_sheet : Stmt := top 24
theorem sc_qt_sheet : FnScope ["sack", "letters", "high", "amount", "rows", "turn", "sign", "share", "ends", "k"] ["sack", "letters", "high"] (defScope s_qt_sheet) := ⟨rfl, rfl, rfl, by decide +kernel, rfl, by decide +kernel, by decide +kernel⟩
/-- a drawn table of at most m states -/
def spSheet (K : PySem.W.Frag) : Sp := fun vs H Q _ => ∃ (sk : Addr) (n m : Nat) (x : Str), vs = [.ref sk, .str x, .int m] ∧ Sk n H sk ∧ n ≤ 100000000 ∧ 1 ≤ m ∧ m ≤ 36 ∧ Wd 26 x ∧ x.cps.toList.Pairwise (· < ·) ∧
  ∀ p r g rs es H', Sk (n + 2000) H' sk → Kp sk H H' → NewT H r g rs → Sh K H' p r g x rs es → Tbl x rs es → rs.length ≤ m → Q (.ref p) H'
theorem ok_sheet {f : Addr} {fd fd1 : FuncData} (F : Fun K "_law_qt_sheet" "_law_qt_sheet" s_qt_sheet f fd) (T : Txt K mg a) (c_coin : Cal P w K mg base 1 a.coin fd1 ["purse", "many"] spCoin) : FnOk P w K mg base CX0 2 f fd ["sack", "letters", "high"] (spSheet K) := by
  refine F.ok sc_qt_sheet (fun vs H Q E h => by obtain ⟨sk, n, m, x, rfl, _⟩ := h; rfl) (fun cdv A outer s H vs Q E hr h => ?_)
  have hr_coin := hr
  refine ⟨_, (pss_cons (ps_set (i := 3) sc_qt_sheet.nd rfl (Or.inr rfl) (pe_op op_add pe_int (pe_call c_coin.ok hr_coin rfl T.g_coin T.k_coin c_coin.binds .nil pass0 (pa_cons (pv 0) (pa_cons (pv 2) pa_nil)))))
      (pss_cons (ps_set (i := 4) sc_qt_sheet.nd rfl (Or.inl rfl) (pe_lst pa_nil))
      (pss_cons (ps_for PassesOwn.never rfl (pi_range1 rfl T.b_range (pa_cons (pv 3) pa_nil)) (pg_name (i := 5) sc_qt_sheet.nd rfl (Or.inl rfl))
      (pss_one (ps_expr (pe_bm PySem.F.plainAttrs_list PySem.F.slot_list_append PySem.F.type_list_append mt_append (pv 4) (pa_cons (pe_lc (own := [("sign", 6)]) (g := gName 6) (tt := tYes) rfl sc_qt_sheet.nd (pi_str (pv 1)) (blkOk_by (own := [("sign", 6)]) (N := ["sack", "letters", "high", "amount", "rows", "turn", "sign", "share", "ends", "k"]) (sc := defScope s_qt_sheet) (by decide +kernel)) (fun _ _ _ _ _ => pg_name (i := 6) sc_qt_sheet.nd rfl (Or.inl rfl)) (fun _ _ _ _ _ => pts_nil) (fun _ _ _ _ _ => (pe_call c_coin.ok hr_coin rfl T.g_coin T.k_coin c_coin.binds .nil pass0 (pa_cons (pv 0) (pa_cons (pv 3) pa_nil))))) pa_nil)))))
      (pss_cons (ps_set (i := 7) sc_qt_sheet.nd rfl (Or.inr rfl) (pe_op op_add pe_int (pe_call c_coin.ok hr_coin rfl T.g_coin T.k_coin c_coin.binds .nil pass0 (pa_cons (pv 0) (pa_cons pe_int pa_nil)))))
      (pss_cons (ps_setLc (i := 8) (own := [("k", 9)]) (g := gName 9) (tt := _) rfl sc_qt_sheet.nd rfl rfl (sw_true rfl rfl rfl (by decide +kernel)) (pi_range1 rfl T.b_range (pa_cons (pv 3) pa_nil)) (blkOk_by (own := [("k", 9)]) (N := ["sack", "letters", "high", "amount", "rows", "turn", "sign", "share", "ends", "k"]) (sc := defScope s_qt_sheet) (by decide +kernel)) (fun _ _ _ _ _ => pg_name (i := 9) sc_qt_sheet.nd rfl (Or.inl rfl)) (fun _ _ _ _ _ => (pts_one (pt_cmpR op_eq (pe_call c_coin.ok hr_coin rfl T.g_coin T.k_coin c_coin.binds .nil pass0 (pa_cons (pv 0) (pa_cons (pv 7) pa_nil))) pe_int (nomark _)))) (fun _ _ _ _ _ => (pv 9)))
      (pss_one (ps_ret (pe_tup (pa_cons (pv 1) (pa_cons (pv 4) (pa_cons (pv 8) pa_nil))))))))))), ?_⟩
  obtain ⟨sk, n, m, x, rfl, hsk, hn, m1, m36, wx, ax, k⟩ := h
  have xl := wx.len
  refine ⟨_, rfl, _, rfl, sk, n, _, rfl, hsk, by omega, by omega, ?c0, fun N H1 N0 N1 sk1 kp1 => ?_⟩
  case c0 => exact Int.lt_of_le_of_lt (b := 1000) (by omega) (by decide)
  obtain ⟨N, rfl⟩ := nat_of N0
  refine ⟨_, _, rfl, rfl, ?_⟩
  have hM : 1 + N ≤ m := by omega
  have h36 : 1 + N ≤ 36 := by omega
  have h0 : 0 < 1 + N := by omega
  refine ⟨by show 0 ≤ sizeLine; decide, fun l hl => ?_⟩
  have nl := sk1.ne hl
  have fl := kp1.free nl hl
  refine ⟨_, rfl, _, rfl, by omega, by omega, ?_⟩
  have et : ((1 : Int) + (N : Int)).toNat = 1 + N := by omega
  rw [et]
  generalize eM : 1 + N = M at hM h36 h0
  have cM : (1 : Int) + (N : Int) = (M : Int) := by omega
  refine for_range (lo := 0) (n := M) (fun i σ H' => ∃ (rs : Rows) (x5 : Option V), σ = [some (.ref sk), some (.str x), some (.int m), some (.int M), some (.ref l), x5, none, none, none, none] ∧ rs.length = i ∧ H' l = some (.lst (rrefs rs)) ∧
    (∀ q ∈ rs, H' q.1 = some (.lst (nats q.2)) ∧ H q.1 = none ∧ q.1 ≠ l ∧ q.1 ≠ sk ∧ q.2.length = x.length ∧ ∀ v ∈ q.2, v < M) ∧ (rs.map (·.1)).Nodup ∧ Sk (n + 1 + i * 26) H' sk ∧ Kp sk H H')
    ⟨[], _, by rw [← cM]; rfl, rfl, upd_same, nofun, List.nodup_nil, sk1.new hl, kp1.new hl⟩ ?_ ?_
  · rintro i σ H2 hi ⟨rs, x5, rfl, li, el, rows, nd, sk2, kp2⟩
    rw [Int.zero_add]
    refine ⟨_, rfl, .inl ⟨rfl, _, SqL.of el⟩, _, rfl, x, rfl, fun D hD => ?_⟩
    have nD := sk2.ne hD
    have nlD : l ≠ D := ne_of_none el hD
    have xz : x.cps.size = x.length := rfl
    refine lc_it walk_str (fun j H' => ∃ ns : List Nat, ns.length = j ∧ H' D = some (.lst (nats ns)) ∧ (∀ v ∈ ns, v < M) ∧ Sk (n + 1 + i * 26 + j) H' sk ∧ Kp sk H2 H') ⟨[], rfl, upd_same, nofun, sk2.new hD, (Kp.refl _ _).new hD⟩ (fun _ _ _ _ => trivial) ?_ ?_
    · rintro j v H3 H4 hj ⟨ns, lj, eD, lt, sk3, kp3⟩ ⟨rfl, c, _, rfl⟩
      refine ⟨rfl, _, rfl, _, rfl, sk, _, _, rfl, sk3, by omega, by omega, ?c1, fun z H5 z0 z1 sk5 kp5 => ?_⟩
      case c1 => exact Int.lt_of_le_of_lt (b := 1000) (by omega) (by decide)
      obtain ⟨z, rfl⟩ := nat_of z0
      refine ⟨_, kp5 _ _ nD eD, by unfold nats; rw [List.length_map, lj]; exact small_lt (by omega), ns ++ [z], by rw [List.length_append, lj]; rfl, by rw [upd_same]; unfold nats; rw [List.map_append]; rfl, fun v hv => ?_, sk_mut sk5 nD, (kp_mut (kp3.trans kp5) hD)⟩
      rcases List.mem_append.mp hv with y | y
      · exact lt v y
      · rw [List.mem_singleton.mp y]; omega
    · rintro H3 ⟨ns, lj, eD, lt, sk3, kp3⟩
      have el3 := kp3 _ _ nl el
      refine ⟨l, _, _, rfl, rfl, el3, by unfold rrefs; rw [List.length_map, li]; exact small_lt (by omega), rs ++ [(D, ns)], _, rfl, by rw [List.length_append, li]; rfl, by rw [upd_same]; unfold rrefs; rw [List.map_append]; rfl, ?_, ?_, sk_mut (sk3.mono (by omega)) nl, kp_mut (kp2.trans kp3) fl⟩
      · intro q hq
        rcases List.mem_append.mp hq with y | y
        · obtain ⟨q1, q2, q3, q4, q5, q6⟩ := rows q y
          exact ⟨by rw [upd_ne q3]; exact kp3 _ _ q4 q1, q2, q3, q4, q5, q6⟩
        · rw [List.mem_singleton.mp y]
          exact ⟨by rw [upd_ne nlD.symm]; exact eD, kp2.free nD hD, nlD.symm, nD, lj.trans xz, lt⟩
      · rw [List.map_append]
        refine List.nodup_append.mpr ⟨nd, List.nodup_cons.mpr ⟨nofun, List.nodup_nil⟩, fun y hy z hz e => ?_⟩
        obtain ⟨q, hq, rfl⟩ := List.mem_map.mp hy
        have hz := List.mem_singleton.mp hz
        rw [hz] at e
        have := (rows q hq).1
        rw [e, hD] at this
        cases this
  · rintro σ H2 ⟨rs, x5, rfl, li, el, rows, nd, sk2, kp2⟩
    refine ⟨_, rfl, sk, _, _, rfl, sk2, by omega, by decide, by decide, fun b H3 b0 b1 sk3 kp3 => ?_⟩
    obtain ⟨b, rfl⟩ := nat_of b0
    refine ⟨_, _, rfl, rfl, ?_⟩
    have el3 := kp3 _ _ nl el
    refine ⟨_, rfl, _, rfl, by omega, by omega, fun D hD => ?_⟩
    have nD := sk3.ne hD
    have nlD : l ≠ D := ne_of_none el3 hD
    have mt : ((M : Int)).toNat = M := rfl
    rw [mt]
    refine lc_range (n := M) (fun j H' => ∃ es : List Nat, H' D = some (.lst (nats es)) ∧ es.length ≤ j ∧ es.Pairwise (· < ·) ∧ (∀ v ∈ es, v < j) ∧ Sk (n + 1 + M * 26 + 1 + j) H' sk ∧ Kp sk H3 H') ⟨[], upd_same, Nat.le_refl _, List.Pairwise.nil, nofun, sk3.new hD, (Kp.refl _ _).new hD⟩ ?_ ?_
    · rintro j H4 hj ⟨es, eD, le, pw, lt, sk4, kp4⟩
      rw [Int.zero_add]
      refine ⟨rfl, _, rfl, _, rfl, sk, _, _, rfl, sk4, by omega, by omega, ?c2, fun z H5 z0 z1 sk5 kp5 => ?_⟩
      case c2 => exact Int.lt_of_le_of_lt (b := 1000) (by omega) (by decide)
      have eD5 := kp5 _ _ nD eD
      refine ⟨rfl, _, rfl, ?_⟩
      refine ite2 (fun c => ?_) (fun c => ?_)
      · refine ⟨_, rfl, _, eD5, by unfold nats; rw [List.length_map]; exact small_lt (by omega), es ++ [j], by rw [upd_same]; unfold nats; rw [List.map_append]; rfl, by rw [List.length_append]; exact Nat.succ_le_succ le, ?_, fun v hv => ?_, sk_mut sk5 nD, kp_mut (kp4.trans kp5) hD⟩
        · refine List.pairwise_append.mpr ⟨pw, List.pairwise_singleton _ _, fun u hu v hv => ?_⟩
          rw [List.mem_singleton.mp hv]
          exact lt u hu
        · rcases List.mem_append.mp hv with y | y
          · exact Nat.lt_succ_of_lt (lt v y)
          · rw [List.mem_singleton.mp y]; exact Nat.lt_succ_self _
      · exact ⟨es, eD5, by omega, pw, fun v hv => Nat.lt_succ_of_lt (lt v hv), sk5, kp4.trans kp5⟩
    · rintro H4 ⟨es, eD, le, pw, lt, sk4, kp4⟩
      have el4 := kp4 _ _ nl el3
      have kp24 := kp3.trans kp4
      refine ⟨_, rfl, _, rfl, _, rfl, by show 3 ≤ sizeLine; decide, fun p' hp' => ?_⟩
      refine k p' l D rs es _ ((sk4.new hp').mono (by omega)) (((kp2.trans kp24).new hp')) ⟨fl, (kp2.trans kp3).free nD hD, nlD, fun q hq => ⟨(rows q hq).2.1, (rows q hq).2.2.1, ?_⟩, nd⟩ ⟨SqT.of upd_same, upd_old el4 hp', upd_old eD hp', fun q hq => upd_old (kp24 _ _ (rows q hq).2.2.2.1 (rows q hq).1) hp'⟩
        ⟨wx, ax, by omega, by omega, fun q hq => ⟨(rows q hq).2.2.2.2.1, fun v hv => by have := (rows q hq).2.2.2.2.2 v hv; omega⟩, pw, fun v hv => by have := lt v hv; omega⟩ (by omega)
      exact ne_of_none (kp3 _ _ (rows q hq).2.2.2.1 (rows q hq).1) hD
end
end K19

namespace K19
open PySem PySem.Spec PyProof.Rows L2 Sf
section
variable {P : Program} {w : World} {K : PySem.W.Frag} {mg : Str → Option Value} {base : Heap} {a : Ad}
/-- each row one longer, one row more -/
def spoilR (rs : Rows) (w : Addr) : Rows := (rs.mapIdx fun j q => (q.1, q.2 ++ [j + 7])) ++ [(w, [5])]
def spoilC (c : List (List Nat)) : List (List Nat) := (c.mapIdx fun j y => y ++ [j + 7]) ++ [[5]]
theorem spoil_c (rs : Rows) (w : Addr) : (spoilR rs w).map (·.2) = spoilC (rs.map (·.2)) := by
  unfold spoilR spoilC
  rw [List.map_append]
  congr 1
  refine List.ext_getElem (by simp) fun i h1 h2 => by simp
theorem nodup_at {l : List Addr} (nd : l.Nodup) {i j : Nat} {c : Addr} (hi : l[i]? = some c) (hj : l[j]? = some c) : i = j := by
  rw [← Tb.ix_at nd hi, ← Tb.ix_at nd hj]
abbrev s_qt_spoil : Stmt := top 22
theorem sc_qt_spoil : FnScope ["sheet", "k"] ["sheet"] (defScope s_qt_spoil) := ⟨rfl, rfl, rfl, by decide +kernel, rfl, by decide +kernel, by decide +kernel⟩
/-- a table's lists are changed in place -/
def spSpoil (K : PySem.W.Frag) : Sp := fun vs H Q _ => ∃ (p r g : Addr) (x : Str) (rs : Rows) (es : List Nat), vs = [.ref p] ∧ Sh K H p r g x rs es ∧ rs.length ≤ 1000 ∧ es.length ≤ 1000 ∧ (∀ q ∈ rs, q.2.length ≤ 1000) ∧ r ≠ g ∧ (∀ q ∈ rs, q.1 ≠ r ∧ q.1 ≠ g) ∧ (rs.map (·.1)).Nodup ∧
  ∀ w H', H w = none → But (r :: g :: rs.map (·.1)) H H' → Sh K H' p r g x (spoilR rs w) (es ++ [99]) → Q .non H'
theorem ok_spoil {f : Addr} {fd : FuncData} (F : Fun K "_law_qt_spoil" "_law_qt_spoil" s_qt_spoil f fd) (T : Txt K mg a) : FnOk P w K mg base CX0 1 f fd ["sheet"] (spSpoil K) := by
  refine F.ok sc_qt_spoil (fun vs H Q E h => by obtain ⟨p, r, g, x, rs, es, rfl, _⟩ := h; rfl) (fun cdv A outer s H vs Q E hr h => ?_)
  refine ⟨_, (pss_cons (ps_for PassesOwn.never rfl (pi_range1 rfl T.b_range (pa_cons (pe_callB call_len_seq (by rfl) T.b_len PySem.boot_len (pa_cons (pe_ix ix_tup (pv 0) pe_int (fun _ _ => rfl)) pa_nil)) pa_nil)) (pg_name (i := 1) sc_qt_spoil.nd rfl (Or.inl rfl))
      (pss_one (ps_expr (pe_bm PySem.F.plainAttrs_list PySem.F.slot_list_append PySem.F.type_list_append mt_append (pe_ix ix_list (pe_ix ix_tup (pv 0) pe_int (fun _ _ => rfl)) (pv 1) (fun _ _ => rfl)) (pa_cons (pe_op op_add (pv 1) pe_int) pa_nil)))))
      (pss_cons (ps_expr (pe_bm PySem.F.plainAttrs_list PySem.F.slot_list_append PySem.F.type_list_append mt_append (pe_ix ix_tup (pv 0) pe_int (fun _ _ => rfl)) (pa_cons (pe_lst (pa_cons pe_int pa_nil)) pa_nil)))
      (pss_one (ps_expr (pe_bm PySem.F.plainAttrs_list PySem.F.slot_list_append PySem.F.type_list_append mt_append (pe_ix ix_tup (pv 0) pe_int (fun _ _ => rfl)) (pa_cons pe_int pa_nil)))))), ?_⟩
  obtain ⟨p, r, g, x, rs, es, rfl, sh, n9, e9, q9, rg, rq, nd, k⟩ := h
  have lr : (rrefs rs).length = rs.length := List.length_map ..
  have isL : ∀ b ∈ r :: g :: rs.map (·.1), ∃ ys, H b = some (.lst ys) := fun b hb => by
    rcases List.mem_cons.mp hb with z | hb
    · exact ⟨_, z ▸ sh.r⟩
    · rcases List.mem_cons.mp hb with z | hb
      · exact ⟨_, z ▸ sh.g⟩
      · obtain ⟨q, hq, rfl⟩ := List.mem_map.mp hb
        exact ⟨_, sh.q q hq⟩
  refine ⟨_, rfl, p, _, 1, _, rfl, rfl, sh.p, atI_nat (j := 1) rfl, r, _, rfl, .inl (SqL.of sh.r), _, rfl, by rw [lr]; omega, by rw [lr]; exact by omega, ?_⟩
  rw [lr]
  have tn : ((rs.length : Nat) : Int).toNat = rs.length := rfl
  rw [tn]
  refine for_range (lo := 0) (n := rs.length) (fun i σ H' => ∃ x1, σ = [some (.ref p), x1] ∧ But (r :: g :: rs.map (·.1)) H H' ∧ H' r = some (.lst (rrefs rs)) ∧ H' g = some (.lst (nats es)) ∧ ∀ (j : Nat) (q : Addr × List Nat), rs[j]? = some q → H' q.1 = some (.lst (nats (if j < i then q.2 ++ [j + 7] else q.2))))
    ⟨_, rfl, But.refl _ _, sh.r, sh.g, fun j q e => by rw [if_neg (Nat.not_lt_zero _)]; exact sh.q q (List.mem_of_getElem? e)⟩ ?_ ?_
  · rintro i σ H1 hi ⟨x1, rfl, bt, er, eg, rows⟩
    rw [Int.zero_add]
    have ei : rs[i]? = some rs[i] := List.getElem?_eq_getElem hi
    have mi := List.getElem_mem hi
    generalize rs[i] = row at ei mi
    have eq := rows i row ei
    rw [if_neg (Nat.lt_irrefl _)] at eq
    have pt := bt.tup isL sh.p
    have md : row.1 ∈ r :: g :: rs.map (·.1) := List.mem_cons_of_mem _ (List.mem_cons_of_mem _ (List.mem_map.mpr ⟨row, mi, rfl⟩))
    refine ⟨_, rfl, p, _, 1, V.ref r, rfl, rfl, pt, atI_nat (j := 1) rfl, _, rfl, r, _, (i : Int), V.ref row.1, rfl, rfl, SqL.of er, atI_nat (by unfold rrefs; rw [List.getElem?_map, ei]; rfl), .inl ⟨rfl, _, SqL.of eq⟩, _, rfl, _, _, rfl, rfl, row.1, _, _, rfl, rfl, eq, by unfold nats; rw [List.length_map]; exact small_lt (by have := q9 row mi; omega), ?_⟩
    refine ⟨_, rfl, bt.mut md, by rw [upd_ne (rq row mi).1.symm]; exact er, by rw [upd_ne (rq row mi).2.symm]; exact eg, fun j q e => ?_⟩
    by_cases z : j = i
    · subst z
      rw [ei] at e
      cases e
      rw [upd_same, if_pos (Nat.lt_succ_self _)]
      unfold nats
      rw [List.map_append]
      rfl
    · have ne : q.1 ≠ row.1 := fun c => z (nodup_at nd (i := j) (j := i) (c := row.1) (by rw [List.getElem?_map, e, ← c]; rfl) (by rw [List.getElem?_map, ei]; rfl))
      rw [upd_ne ne, rows j q e]
      by_cases y : j < i
      · rw [if_pos y, if_pos (by omega)]
      · rw [if_neg y, if_neg (by omega)]
  · rintro σ H1 ⟨x1, rfl, bt, er, eg, rows⟩
    have pt := bt.tup isL sh.p
    refine ⟨_, rfl, p, _, 1, V.ref r, rfl, rfl, pt, atI_nat (j := 1) rfl, .inl ⟨rfl, _, SqL.of er⟩, by show 1 ≤ sizeLine; decide, fun w hw => ?_⟩
    have nrw : r ≠ w := ne_of_none er hw
    have ngw : g ≠ w := ne_of_none eg hw
    refine ⟨r, _, _, rfl, rfl, upd_old er hw, by rw [lr]; exact small_lt (by omega), ?_⟩
    have mr : r ∈ r :: g :: rs.map (·.1) := List.mem_cons_self
    have bt2 := (bt.new (u := .lst [.int 5]) hw).mut (u := .lst (rrefs rs ++ [.ref w])) mr
    have eg2 : upd (upd H1 w (.lst [.int 5])) r (.lst (rrefs rs ++ [.ref w])) g = some (.lst (nats es)) := by rw [upd_ne rg.symm]; exact upd_old eg hw
    refine ⟨_, rfl, p, _, 2, V.ref g, rfl, rfl, bt2.tup isL sh.p, atI_nat (j := 2) rfl, .inl ⟨rfl, _, SqL.of eg2⟩, g, _, _, rfl, rfl, eg2, by unfold nats; rw [List.length_map]; exact small_lt (by omega), ?_⟩
    have bt3 := bt2.mut (u := .lst (nats es ++ [.int 99])) (List.mem_cons_of_mem r List.mem_cons_self)
    refine k w _ ?_ bt3 ⟨bt3.tup isL sh.p, ?_, ?_, fun q hq => ?_⟩
    · cases z : H w with
      | none => rfl
      | some o =>
        by_cases m : w ∈ r :: g :: rs.map (·.1)
        · rcases List.mem_cons.mp m with c | m
          · exact absurd c.symm nrw
          · rcases List.mem_cons.mp m with c | m
            · exact absurd c.symm ngw
            · obtain ⟨q, hq, e⟩ := List.mem_map.mp m
              obtain ⟨j, hj, ej⟩ := List.getElem_of_mem hq
              have := rows j q (by rw [List.getElem?_eq_getElem hj, ej])
              rw [e, hw] at this
              cases this
        · have := bt w o m z
          rw [hw] at this
          cases this
    · rw [upd_ne rg, upd_same]
      unfold spoilR rrefs
      rw [List.map_append]
      congr 3
      refine List.ext_getElem (by simp) fun i h1 h2 => by simp
    · rw [upd_same]
      unfold nats
      rw [List.map_append]
      rfl
    · unfold spoilR at hq
      rcases List.mem_append.mp hq with z | z
      · obtain ⟨j, hj, e⟩ := List.mem_mapIdx.mp z
        subst e
        have mj := List.getElem_mem hj
        have := rows j rs[j] (List.getElem?_eq_getElem hj)
        rw [if_pos hj] at this
        show upd _ g _ rs[j].1 = _
        rw [upd_ne (rq _ mj).2, upd_ne (rq _ mj).1]
        exact upd_old this hw
      · rw [List.mem_singleton.mp z]
        show upd _ g _ w = _
        rw [upd_ne ngw.symm, upd_ne nrw.symm]
        exact upd_same
end
end K19

namespace K19
open PySem PySem.Spec PyProof.Rows L2 Sf
section
variable {P : Program} {w : World} {K : PySem.W.Frag} {mg : Str → Option Value} {base : Heap} {a : Ad}
def insN (nm : List Nat) (i v : Nat) : List Nat := nm.take i ++ [v] ++ nm.drop i
theorem insN_mem {nm : List Nat} {i v y : Nat} : y ∈ insN nm i v ↔ y = v ∨ y ∈ nm := by
  unfold insN
  rw [List.mem_append, List.mem_append, List.mem_singleton]
  constructor
  · rintro ((h | h) | h)
    · exact .inr (List.mem_of_mem_take h)
    · exact .inl h
    · exact .inr (List.mem_of_mem_drop h)
  · rintro (h | h)
    · exact .inl (.inr h)
    · rw [← List.take_append_drop i nm] at h
      rcases List.mem_append.mp h with z | z
      · exact .inl (.inl z)
      · exact .inr z
theorem insN_len {nm : List Nat} {i v : Nat} : (insN nm i v).length = nm.length + 1 := by
  unfold insN
  have := congrArg List.length (List.take_append_drop i nm)
  rw [List.length_append] at this
  rw [List.length_append, List.length_append]
  show _ + 1 + _ = _
  omega
theorem insN_0 {nm : List Nat} {i v c : Nat} (h : nm[0]? = some c) : (insN nm (1 + i) v)[0]? = some c := by
  cases nm with
  | nil => cases h
  | cons d r =>
    rw [Nat.add_comm]
    exact h
theorem insN_nats {nm : List Nat} {i v : Nat} : (nats nm).take i ++ [V.int (v : Int)] ++ (nats nm).drop i = nats (insN nm i v) := by
  unfold insN nats
  rw [List.map_append, List.map_append, List.map_take, List.map_drop]
  rfl
/-- names of states: the first one 0, all of them -/
structure Names (N : Nat) (nm : List Nat) : Prop where
  first : nm[0]? = some 0
  lt : ∀ v ∈ nm, v < N
  all : ∀ v, v < N → v ∈ nm
abbrev s_qt_renumbered : Stmt := top 25
theorem sc_qt_renumbered : FnScope ["sack", "sheet", "extra", "letters", "rows", "ends", "names", "k", "turn", "found", "name", "row", "goal", "spots"] ["sack", "sheet", "extra"] (defScope s_qt_renumbered) := ⟨rfl, rfl, rfl, by decide +kernel, rfl, by decide +kernel, by decide +kernel⟩
/-- the same table in another form -/
def spRenum (K : PySem.W.Frag) : Sp := fun vs H Q _ => ∃ (sk p r g : Addr) (n e : Nat) (x : Str) (rs : Rows) (es : List Nat), vs = [.ref sk, .ref p, .int e] ∧ Sk n H sk ∧ n ≤ 100000000 ∧ Sh K H p r g x rs es ∧ Tbl x rs es ∧ rs.length ≤ 40 ∧ e ≤ 4 ∧ r ≠ sk ∧ g ≠ sk ∧ (∀ q ∈ rs, q.1 ≠ sk) ∧
  ∀ p' r' g' rs' es' H', Sk (n + 4000) H' sk → Kp sk H H' → NewT H r' g' rs' → Sh K H' p' r' g' x rs' es' → Tbl x rs' es' → rs'.length ≤ rs.length + 4 → Tb.Eqv (tabOf x rs es) 0 (tabOf x rs' es') 0 → Q (.ref p') H'
theorem ok_renum {f : Addr} {fd fd1 : FuncData} (F : Fun K "_law_qt_renumbered" "_law_qt_renumbered" s_qt_renumbered f fd) (T : Txt K mg a) (c_coin : Cal P w K mg base 1 a.coin fd1 ["purse", "many"] spCoin) : FnOk P w K mg base CX0 2 f fd ["sack", "sheet", "extra"] (spRenum K) := by
  refine F.ok sc_qt_renumbered (fun vs H Q E h => by obtain ⟨sk, p, r, g, n, e, x, rs, es, rfl, _⟩ := h; rfl) (fun cdv A outer s H vs Q E hr h => ?_)
  have hr_coin := hr
  refine ⟨_, (pss_cons (ps_asg (pv 1) (pg_tup rfl (pgs_cons (pg_name (i := 3) sc_qt_renumbered.nd rfl (Or.inl rfl)) (pgs_cons (pg_name (i := 4) sc_qt_renumbered.nd rfl (Or.inl rfl)) (pgs_cons (pg_name (i := 5) sc_qt_renumbered.nd rfl (Or.inr rfl)) pgs_nil)))))
      (pss_cons (ps_set (i := 6) sc_qt_renumbered.nd rfl (Or.inr rfl) (pe_lst (pa_cons pe_int pa_nil)))
      (pss_cons (ps_for PassesOwn.never rfl (pi_range2 rfl T.b_range (pa_cons pe_int (pa_cons (pe_callB call_len_seq (by rfl) T.b_len PySem.boot_len (pa_cons (pv 4) pa_nil)) pa_nil))) (pg_name (i := 7) sc_qt_renumbered.nd rfl (Or.inl rfl))
      (pss_one (ps_expr (pe_bm PySem.F.plainAttrs_list PySem.F.slot_list_insert PySem.F.type_list_insert mt_insert (pv 6) (pa_cons (pe_op op_add pe_int (pe_call c_coin.ok hr_coin rfl T.g_coin T.k_coin c_coin.binds .nil pass0 (pa_cons (pv 0) (pa_cons (pe_callB call_len_seq (by rfl) T.b_len PySem.boot_len (pa_cons (pv 6) pa_nil)) pa_nil)))) (pa_cons (pv 7) pa_nil))))))
      (pss_cons (ps_for PassesOwn.never rfl (pi_range1 rfl T.b_range (pa_cons (pe_call c_coin.ok hr_coin rfl T.g_coin T.k_coin c_coin.binds .nil pass0 (pa_cons (pv 0) (pa_cons (pe_op op_add (pv 2) pe_int) pa_nil))) pa_nil)) (pg_name (i := 8) sc_qt_renumbered.nd rfl (Or.inl rfl))
      (pss_one (ps_expr (pe_bm PySem.F.plainAttrs_list PySem.F.slot_list_insert PySem.F.type_list_insert mt_insert (pv 6) (pa_cons (pe_op op_add pe_int (pe_call c_coin.ok hr_coin rfl T.g_coin T.k_coin c_coin.binds .nil pass0 (pa_cons (pv 0) (pa_cons (pe_callB call_len_seq (by rfl) T.b_len PySem.boot_len (pa_cons (pv 6) pa_nil)) pa_nil)))) (pa_cons (pe_call c_coin.ok hr_coin rfl T.g_coin T.k_coin c_coin.binds .nil pass0 (pa_cons (pv 0) (pa_cons (pe_callB call_len_seq (by rfl) T.b_len PySem.boot_len (pa_cons (pv 4) pa_nil)) pa_nil))) pa_nil))))))
      (pss_cons (ps_set (i := 9) sc_qt_renumbered.nd rfl (Or.inl rfl) (pe_lst pa_nil))
      (pss_cons (ps_for PassesOwn.never rfl (pi_list (pv 6)) (pg_name (i := 10) sc_qt_renumbered.nd rfl (Or.inl rfl))
      (pss_cons (ps_set (i := 11) sc_qt_renumbered.nd rfl (Or.inl rfl) (pe_lst pa_nil))
      (pss_cons (ps_for PassesOwn.never rfl (pi_list (pe_ix ix_list (pv 4) (pv 10) (fun _ _ => rfl))) (pg_name (i := 12) sc_qt_renumbered.nd rfl (Or.inr rfl))
      (pss_cons (ps_setLc (i := 13) (own := [("k", 7)]) (g := gName 7) (tt := _) rfl sc_qt_renumbered.nd rfl rfl (sw_true rfl rfl rfl (by decide +kernel)) (pi_range1 rfl T.b_range (pa_cons (pe_callB call_len_seq (by rfl) T.b_len PySem.boot_len (pa_cons (pv 6) pa_nil)) pa_nil)) (blkOk_by (own := [("k", 7)]) (N := ["sack", "sheet", "extra", "letters", "rows", "ends", "names", "k", "turn", "found", "name", "row", "goal", "spots"]) (sc := defScope s_qt_renumbered) (by decide +kernel)) (fun _ _ _ _ _ => pg_name (i := 7) sc_qt_renumbered.nd rfl (Or.inl rfl)) (fun _ _ _ _ _ => (pts_one (pt_cmpR op_eq (pe_ix (show IxR _ (rIxL K) from ix_list) (pv 6) (pv 7) (fun _ _ => rfl)) (pv 12) (nomark _)))) (fun _ _ _ _ _ => (pv 7)))
      (pss_one (ps_expr (pe_bm PySem.F.plainAttrs_list PySem.F.slot_list_append PySem.F.type_list_append mt_append (pv 11) (pa_cons (pe_ix ix_list (pv 13) (pe_call c_coin.ok hr_coin rfl T.g_coin T.k_coin c_coin.binds .nil pass0 (pa_cons (pv 0) (pa_cons (pe_callB call_len_seq (by rfl) T.b_len PySem.boot_len (pa_cons (pv 13) pa_nil)) pa_nil))) (fun _ _ => rfl)) pa_nil))))))
      (pss_one (ps_expr (pe_bm PySem.F.plainAttrs_list PySem.F.slot_list_append PySem.F.type_list_append mt_append (pv 9) (pa_cons (pv 11) pa_nil)))))))
      (pss_one (ps_ret (pe_tup (pa_cons (pv 3) (pa_cons (pv 9) (pa_cons (pe_lc (own := [("k", 7)]) (g := gName 7) (tt := _) rfl sc_qt_renumbered.nd (pi_range1 rfl T.b_range (pa_cons (pe_callB call_len_seq (by rfl) T.b_len PySem.boot_len (pa_cons (pv 6) pa_nil)) pa_nil)) (blkOk_by (own := [("k", 7)]) (N := ["sack", "sheet", "extra", "letters", "rows", "ends", "names", "k", "turn", "found", "name", "row", "goal", "spots"]) (sc := defScope s_qt_renumbered) (by decide +kernel)) (fun _ _ _ _ _ => pg_name (i := 7) sc_qt_renumbered.nd rfl (Or.inl rfl)) (fun _ _ _ _ _ => (pts_one (pt_cmpR (show OpR _ _ (rIn K false) from op_in_seq) (pe_ix (show IxR _ (rIxL K) from ix_list) (pv 6) (pv 7) (fun _ _ => rfl)) (pv 5) rfl))) (fun _ _ _ _ _ => (pv 7))) pa_nil)))))))))))), ?_⟩
  obtain ⟨sk, p, r, g, n, e, x, rs, es, rfl, hsk, hn, sh, tb, n40, he, nr, ng, nq, k⟩ := h
  have n0 := tb.n0
  have xl := tb.wd.len
  have lr : (rrefs rs).length = rs.length := List.length_map ..
  have shk : ∀ {H'}, Kp sk H H' → Sh K H' p r g x rs es := fun kp => sh.kp kp hsk nr ng nq
  refine ⟨_, rfl, p, _, rfl, sh.p, rfl, _, _, rfl, _, _, rfl, _, _, rfl, rfl, ?_⟩
  refine ⟨by show 1 ≤ sizeLine; decide, fun l hl => ?_⟩
  have nl := hsk.ne hl
  refine ⟨_, rfl, r, _, rfl, .inl (SqL.of (upd_old sh.r hl)), 1, _, rfl, ⟨by decide, by decide, by omega, by rw [lr]; omega⟩, ?_⟩
  rw [lr]
  have tn : ((rs.length : Int) - 1).toNat = rs.length - 1 := by omega
  rw [tn]
  refine for_range (lo := 1) (n := rs.length - 1) (fun i σ H' => ∃ (nm : List Nat) (x7 : Option V), σ = [some (.ref sk), some (.ref p), some (.int e), some (.str x), some (.ref r), some (.ref g), some (.ref l), x7, none, none, none, none, none, none] ∧ H' l = some (.lst (nats nm)) ∧
    nm.length = i + 1 ∧ Names (i + 1) nm ∧ Sk (n + i) H' sk ∧ Kp sk H H') ⟨[0], _, rfl, upd_same, rfl, ⟨rfl, fun v hv => by rw [List.mem_singleton.mp hv]; exact Nat.succ_pos _, fun v hv => by rw [show v = 0 by omega]; exact List.mem_singleton.mpr rfl⟩, hsk.new hl, (Kp.refl _ _).new hl⟩ ?_ ?_
  · rintro i σ H1 hi ⟨nm, x7, rfl, el, ln, N, sk1, kp1⟩
    have lnn : (nats nm).length = nm.length := List.length_map ..
    refine ⟨_, rfl, .inl ⟨rfl, _, SqL.of el⟩, _, rfl, _, rfl, l, _, rfl, .inl (SqL.of el), sk, _, _, rfl, sk1, by omega, by rw [lnn]; omega, ?c1, fun z H2 z0 z1 sk2 kp2 => ?_⟩
    case c1 => exact Int.lt_of_le_of_lt (b := 1000) (by rw [lnn]; omega) (by decide)
    obtain ⟨z, rfl⟩ := nat_of z0
    rw [lnn] at z1
    have el2 := kp2 _ _ nl el
    have ck : V.int ((1 : Int) + (i : Int)) = V.int ((1 + i : Nat) : Int) := rfl
    refine ⟨_, _, rfl, rfl, _, rfl, l, _, ((1 + z : Nat) : Int), _, rfl, rfl, el2, by rw [lnn]; exact small_lt (by omega), by omega, by omega, ?_⟩
    have tz : (((1 + z : Nat) : Int)).toNat = 1 + z := rfl
    rw [ck, tz, insN_nats]
    refine ⟨insN nm (1 + z) (1 + i), _, rfl, upd_same, by rw [insN_len, ln], ⟨insN_0 N.first, fun v hv => ?_, fun v hv => ?_⟩, sk_mut sk2 nl, ?_⟩
    · rcases insN_mem.mp hv with y | y
      · omega
      · have := N.lt v y; omega
    · by_cases y : v = 1 + i
      · exact insN_mem.mpr (.inl y)
      · exact insN_mem.mpr (.inr (N.all v (by omega)))
    · exact kp_mut (kp1.trans kp2) hl
  rintro σ H1 ⟨nm, x7, rfl, el, ln, N, sk1, kp1⟩
  have eN : rs.length - 1 + 1 = rs.length := by omega
  rw [eN] at ln N
  have ce : ((e : Int) + 1) < 2 ^ 200 := Int.lt_of_le_of_lt (b := 1000) (by omega) (by decide)
  refine ⟨_, rfl, _, rfl, _, _, rfl, rfl, sk, _, _, rfl, sk1, by omega, by omega, ce, fun t H2 t0 t1 sk2 kp2 => ?_⟩
  obtain ⟨t, rfl⟩ := nat_of t0
  have tt : (t : Int).toNat = t := rfl
  refine ⟨_, rfl, by omega, by omega, ?_⟩
  rw [tt]
  refine for_range (lo := 0) (n := t) (fun i σ H' => ∃ (nm : List Nat) (x7 x8 : Option V), σ = [some (.ref sk), some (.ref p), some (.int e), some (.str x), some (.ref r), some (.ref g), some (.ref l), x7, x8, none, none, none, none, none] ∧ H' l = some (.lst (nats nm)) ∧
    nm.length = rs.length + i ∧ Names rs.length nm ∧ Sk (n + rs.length + 2 * i) H' sk ∧ Kp sk H H') ⟨nm, _, _, rfl, kp2 _ _ nl el, ln, N, sk2.mono (by omega), kp1.trans kp2⟩ ?_ ?_
  · rintro i σ H3 hi ⟨nm, x7, x8, rfl, el, ln, N, sk3, kp3⟩
    have lnn : (nats nm).length = nm.length := List.length_map ..
    refine ⟨_, rfl, .inl ⟨rfl, _, SqL.of el⟩, _, rfl, _, rfl, l, _, rfl, .inl (SqL.of el), sk, _, _, rfl, sk3, by omega, by rw [lnn]; omega, ?c2, fun z H4 z0 z1 sk4 kp4 => ?_⟩
    case c2 => exact Int.lt_of_le_of_lt (b := 1000) (by rw [lnn]; omega) (by decide)
    obtain ⟨z, rfl⟩ := nat_of z0
    rw [lnn] at z1
    have el4 := kp4 _ _ nl el
    have sh4 := shk (kp3.trans kp4)
    refine ⟨_, _, rfl, rfl, _, rfl, _, rfl, r, _, rfl, .inl (SqL.of sh4.r), sk, _, _, rfl, sk4, by omega, by rw [lr]; omega, ?c3, fun y H5 y0 y1 sk5 kp5 => ?_⟩
    case c3 => exact Int.lt_of_le_of_lt (b := 1000) (by rw [lr]; omega) (by decide)
    obtain ⟨y, rfl⟩ := nat_of y0
    rw [lr] at y1
    have el5 := kp5 _ _ nl el4
    refine ⟨l, _, ((1 + z : Nat) : Int), _, rfl, rfl, el5, by rw [lnn]; exact small_lt (by omega), by omega, by omega, ?_⟩
    have tz : (((1 + z : Nat) : Int)).toNat = 1 + z := rfl
    rw [tz, insN_nats]
    refine ⟨insN nm (1 + z) y, _, _, rfl, upd_same, by rw [insN_len, ln]; rfl, ⟨insN_0 N.first, fun v hv => ?_, fun v hv => insN_mem.mpr (.inr (N.all v hv))⟩, sk_mut (sk5.mono (by omega)) nl, kp_mut (kp3.trans (kp4.trans kp5)) hl⟩
    rcases insN_mem.mp hv with u | u
    · omega
    · exact N.lt v u
  rintro σ H3 ⟨nm, x7, x8, rfl, el, ln, N, sk3, kp3⟩
  have lnn : (nats nm).length = nm.length := List.length_map ..
  have lM : nm.length ≤ 44 := by omega
  refine ⟨by show 0 ≤ sizeLine; decide, fun D hD => ?_⟩
  have nD := sk3.ne hD
  have nlD : l ≠ D := ne_of_none el hD
  have fD := kp3.free nD hD
  refine ⟨_, rfl, l, rfl, ⟨_, SqL.of (upd_old el hD)⟩, for_list (xs := nats nm) (fun i σ H' => ∃ (rs' : Rows) (x7 x8 x10 x11 x12 x13 : Option V), σ = [some (.ref sk), some (.ref p), some (.int e), some (.str x), some (.ref r), some (.ref g), some (.ref l), x7, x8, some (.ref D), x10, x11, x12, x13] ∧ rs'.length = i ∧
    H' D = some (.lst (rrefs rs')) ∧ H' l = some (.lst (nats nm)) ∧ (∀ q ∈ rs', H' q.1 = some (.lst (nats q.2)) ∧ H q.1 = none ∧ q.1 ≠ D ∧ q.1 ≠ sk) ∧ (rs'.map (·.1)).Nodup ∧
    (∀ (j c : Nat) (q row : Addr × List Nat), rs'[j]? = some q → nm[j]? = some c → rs[c]? = some row → q.2.length = row.2.length ∧ ∀ b v : Nat, q.2[b]? = some v → nm[v]? = row.2[b]?) ∧ Sk (n + 100 + i * 26) H' sk ∧ Kp sk H H')
    ⟨[], _, _, _, _, _, _, rfl, rfl, upd_same, upd_old el hD, nofun, List.nodup_nil, fun j c q row z => (by cases z), (sk3.new hD).mono (by omega), kp3.new hD⟩ (fun i σ H' _ z => by obtain ⟨_, _, _, _, _, _, _, _, _, _, e, _⟩ := z; exact SqL.of e) ?_ ?_⟩
  · rintro i v σ H4 hv ⟨rs', x7, x8, x10, x11, x12, x13, rfl, li, eD, el4, rows, nd, val, sk4, kp4⟩
    unfold nats at hv
    obtain ⟨c, ec, rfl⟩ := map_at hv
    have ci := (List.getElem?_eq_some_iff.mp ec).1
    have cn : c < rs.length := N.lt c (List.mem_of_getElem? ec)
    have er : rs[c]? = some rs[c] := List.getElem?_eq_getElem cn
    have mr := List.getElem_mem cn
    generalize rs[c] = row at er mr
    obtain ⟨lrow, brow⟩ := tb.row row mr
    refine ⟨by show 0 ≤ sizeLine; decide, fun R hR => ?_⟩
    have nR := sk4.ne hR
    have nDR : D ≠ R := ne_of_none eD hR
    have nlR : l ≠ R := ne_of_none el4 hR
    have fR := kp4.free nR hR
    have eR0 := upd_same (H := H4) (a := R) (o := .lst [])
    have sk5 := sk4.new (o := .lst []) hR
    have kp5 := kp4.new (o := .lst []) hR
    have b5 : But [R, sk] H4 (upd H4 R (.lst [])) := (But.refl _ _).new hR
    generalize upd H4 R _ = H5 at eR0 sk5 kp5 b5
    have sh5 := shk kp5
    refine ⟨_, rfl, _, rfl, r, _, (c : Int), V.ref row.1, rfl, rfl, SqL.of sh5.r, atI_nat (by unfold rrefs; rw [List.getElem?_map, er]; rfl), row.1, rfl, ⟨_, SqL.of (sh5.q row mr)⟩, ?_⟩
    have lrow' : (nats row.2).length = x.length := by unfold nats; rw [List.length_map]; exact lrow
    refine for_list (xs := nats row.2) (fun j σ H' => ∃ (ns : List Nat) (x7 x12 x13 : Option V), σ = [some (.ref sk), some (.ref p), some (.int e), some (.str x), some (.ref r), some (.ref g), some (.ref l), x7, x8, some (.ref D), some (.int c), some (.ref R), x12, x13] ∧
      H' R = some (.lst (nats ns)) ∧ ns.length = j ∧ (∀ b v : Nat, ns[b]? = some v → nm[v]? = row.2[b]?) ∧ But [R, sk] H4 H' ∧ Sk (n + 100 + i * 26 + j) H' sk ∧ Kp sk H H')
      ⟨[], _, _, _, rfl, eR0, rfl, fun b v z => (by cases z), b5, sk5, kp5⟩ (fun j σ H' _ z => by obtain ⟨_, _, _, _, _, _, _, _, _, _, kp'⟩ := z; exact SqL.of ((shk kp').q row mr)) ?_ ?_
    · rintro j v σ H6 hv ⟨ns, x7, x12, x13, rfl, eR, lj, vals, b6, sk6, kp6⟩
      unfold nats at hv
      obtain ⟨d, ed, rfl⟩ := map_at hv
      have jl := (List.getElem?_eq_some_iff.mp ed).1
      have dn : d < rs.length := brow d (List.mem_of_getElem? ed)
      have out : ∀ {b : Addr}, b ≠ R → b ≠ sk → b ∉ [R, sk] := fun h1 h2 m => by
        rcases List.mem_cons.mp m with z | m
        · exact h1 z
        · exact h2 (List.mem_singleton.mp m)
      have el6 := b6 _ _ (out nlR nl) el4
      refine ⟨_, rfl, l, _, rfl, .inl (SqL.of el6), _, rfl, by rw [lnn]; omega, by rw [lnn]; omega, fun S hS => ?_⟩
      have mt : (((nats nm).length : Nat) : Int).toNat = nm.length := lnn
      rw [mt]
      refine lc_range (n := nm.length) (fun j H' => H' = upd H6 S (.lst (nats ((List.range j).filter fun v => decide (nm[v]? = some d))))) rfl ?_ ?_
      · rintro y H7 hy rfl
        rw [Int.zero_add]
        have ey : nm[y]? = some nm[y] := List.getElem?_eq_getElem hy
        refine ⟨rfl, _, rfl, _, rfl, l, _, (y : Int), V.int nm[y], rfl, rfl, SqL.of (upd_old el6 hS), atI_nat (by unfold nats; rw [List.getElem?_map, ey]; rfl), _, rfl, rfl, _, rfl, ?_⟩
        have lf : ((List.range y).filter fun v => decide (nm[v]? = some d)).length ≤ y := by
          have := List.length_filter_le (fun v => decide (nm[v]? = some d)) (List.range y)
          rw [List.length_range] at this
          exact this
        rw [List.range_succ, List.filter_append]
        refine ite2 (fun c => ?_) (fun c => ?_)
        · have c : nm[y] = d := Int.ofNat.inj (V.int.inj (of_decide_eq_true c))
          refine ⟨_, rfl, _, upd_same, by unfold nats; rw [List.length_map]; exact small_lt (by omega), ?_⟩
          rw [upd_upd, List.filter_cons_of_pos (by rw [ey, c]; exact decide_eq_true rfl), List.filter_nil]
          unfold nats
          rw [List.map_append]
          rfl
        · have c : nm[y] ≠ d := fun z => c (decide_eq_true (by rw [z]))
          rw [List.filter_cons_of_neg (by rw [ey]; exact fun z => c (Option.some.inj (of_decide_eq_true z))), List.filter_nil, List.append_nil]
      rintro H7 rfl
      generalize hsp : (List.range nm.length).filter (fun v => decide (nm[v]? = some d)) = sp
      have spm : ∀ v, v ∈ sp ↔ nm[v]? = some d := fun v => by
        rw [← hsp, List.mem_filter, List.mem_range]
        exact ⟨fun h => of_decide_eq_true h.2, fun h => ⟨(List.getElem?_eq_some_iff.mp h).1, decide_eq_true h⟩⟩
      have sp0 : 0 < sp.length := by
        obtain ⟨u, hu, eu⟩ := List.getElem_of_mem (N.all d dn)
        exact List.length_pos_of_mem ((spm u).mpr (by rw [List.getElem?_eq_getElem hu, eu]))
      have sp9 : sp.length ≤ 44 := by
        rw [← hsp]
        refine Nat.le_trans (List.length_filter_le _ _) ?_
        rw [List.length_range]
        exact lM
      have nS := sk6.ne hS
      have nRS : R ≠ S := ne_of_none eR hS
      have lsp : (nats sp).length = sp.length := List.length_map ..
      have sk7 := sk6.new (o := .lst (nats sp)) hS
      have kp7 := kp6.new (o := .lst (nats sp)) hS
      have b7 := b6.new (u := .lst (nats sp)) hS
      have eR7 := upd_old (u := .lst (nats sp)) eR hS
      have eS7 := upd_same (H := H6) (a := S) (o := .lst (nats sp))
      generalize upd H6 S _ = H7 at sk7 kp7 b7 eR7 eS7
      refine ⟨_, rfl, .inl ⟨rfl, _, SqL.of eR7⟩, _, rfl, _, rfl, _, rfl, S, _, rfl, .inl (SqL.of eS7), sk, _, _, rfl, sk7, by omega, by rw [lsp]; omega, ?c4, fun z H8 z0 z1 sk8 kp8 => ?_⟩
      case c4 => exact Int.lt_of_le_of_lt (b := 1000) (by rw [lsp]; omega) (by decide)
      obtain ⟨z, rfl⟩ := nat_of z0
      rw [lsp] at z1
      have zl : z < sp.length := by omega
      have ez : sp[z]? = some sp[z] := List.getElem?_eq_getElem zl
      have mz := (spm _).mp (List.getElem_mem zl)
      generalize sp[z] = u at ez mz
      have eR8 := kp8 _ _ nR eR7
      refine ⟨S, _, (z : Int), V.int u, rfl, rfl, SqL.of (kp8 _ _ nS eS7), atI_nat (by unfold nats; rw [List.getElem?_map, ez]; rfl), R, _, _, rfl, rfl, eR8, by unfold nats; rw [List.length_map, lj]; exact small_lt (by omega), ?_⟩
      refine ⟨ns ++ [u], _, _, _, rfl, by rw [upd_same]; unfold nats; rw [List.map_append]; rfl, by rw [List.length_append, lj]; rfl, fun b v hb => ?_, ?_, sk_mut sk8 nR, kp_mut (kp7.trans kp8) fR⟩
      · rcases Nat.lt_or_ge b j with y | y
        · rw [List.getElem?_append_left (by omega)] at hb
          exact vals b v hb
        · have hb' : b = j := by
            have := (List.getElem?_eq_some_iff.mp hb).1
            rw [List.length_append] at this
            have : b < ns.length + 1 := this
            omega
          subst hb'
          rw [List.getElem?_append_right (by omega), lj, Nat.sub_self] at hb
          cases hb
          rw [mz, ed]
      · refine But.mut (fun b o m h => ?_) List.mem_cons_self
        exact kp8 b o (fun z => m (by rw [z]; exact List.mem_cons_of_mem _ (List.mem_singleton.mpr rfl))) (b7 b o m h)
    · rintro σ H6 ⟨ns, x7, x12, x13, rfl, eR, lj, vals, b6, sk6, kp6⟩
      rw [lrow'] at lj sk6
      have out : ∀ {b : Addr}, b ≠ R → b ≠ sk → b ∉ [R, sk] := fun h1 h2 m => by
        rcases List.mem_cons.mp m with z | m
        · exact h1 z
        · exact h2 (List.mem_singleton.mp m)
      have el6 := b6 _ _ (out nlR nl) el4
      have eD6 := b6 _ _ (out nDR nD) eD
      refine ⟨_, rfl, .inl ⟨rfl, _, SqL.of eD6⟩, _, rfl, D, _, _, rfl, rfl, eD6, by unfold rrefs; rw [List.length_map, li]; exact small_lt (by omega), ?_⟩
      refine ⟨rs' ++ [(R, ns)], _, _, _, _, _, _, rfl, by rw [List.length_append, li]; rfl, by rw [upd_same]; unfold rrefs; rw [List.map_append]; rfl, by rw [upd_ne nlD]; exact el6, fun q hq => ?_, ?_, ?_, sk_mut (sk6.mono (by omega)) nD, kp_mut kp6 fD⟩
      · rcases List.mem_append.mp hq with z | z
        · obtain ⟨q1, q2, q3, q4⟩ := rows q z
          exact ⟨by rw [upd_ne q3]; exact b6 _ _ (out (ne_of_none q1 hR) q4) q1, q2, q3, q4⟩
        · rw [List.mem_singleton.mp z]
          exact ⟨by rw [upd_ne nDR.symm]; exact eR, fR, nDR.symm, nR⟩
      · rw [List.map_append]
        refine List.nodup_append.mpr ⟨nd, List.nodup_cons.mpr ⟨nofun, List.nodup_nil⟩, fun y hy z hz e => ?_⟩
        obtain ⟨q, hq, rfl⟩ := List.mem_map.mp hy
        have hz := List.mem_singleton.mp hz
        rw [hz] at e
        have := (rows q hq).1
        rw [e, hR] at this
        cases this
      · intro j c2 q row2 e1 e2 e3
        rcases Nat.lt_or_ge j i with y | y
        · rw [List.getElem?_append_left (by omega)] at e1
          exact val j c2 q row2 e1 e2 e3
        · have hj : j = i := by
            have := (List.getElem?_eq_some_iff.mp e1).1
            rw [List.length_append] at this
            have : j < rs'.length + 1 := this
            omega
          subst hj
          rw [List.getElem?_append_right (by omega), li, Nat.sub_self] at e1
          cases e1
          rw [ec] at e2
          cases e2
          rw [er] at e3
          cases e3
          exact ⟨by rw [lj, lrow], vals⟩
  · rintro σ H4 ⟨rs', x7, x8, x10, x11, x12, x13, rfl, li, eD, el4, rows, nd, val, sk4, kp4⟩
    rw [lnn] at li sk4
    have sh4 := shk kp4
    refine ⟨_, rfl, _, rfl, _, rfl, l, _, rfl, .inl (SqL.of el4), _, rfl, by rw [lnn]; omega, by rw [lnn]; omega, fun G hG => ?_⟩
    have mt : (((nats nm).length : Nat) : Int).toNat = nm.length := lnn
    rw [mt]
    have nDG : D ≠ G := ne_of_none eD hG
    have nG := sk4.ne hG
    refine lc_range (n := nm.length) (fun j H' => H' = upd H4 G (.lst (nats ((List.range j).filter fun v => decide (nm.getD v 0 ∈ es))))) rfl ?_ ?_
    · rintro y H7 hy rfl
      rw [Int.zero_add]
      have ey : nm[y]? = some nm[y] := List.getElem?_eq_getElem hy
      refine ⟨rfl, _, rfl, _, rfl, l, _, (y : Int), V.int nm[y], rfl, rfl, SqL.of (upd_old el4 hG), atI_nat (by unfold nats; rw [List.getElem?_map, ey]; rfl), _, rfl, g, _, rfl, .inl (SqL.of (upd_old sh4.g hG)), rfl, flat_nats es, ?_⟩
      rw [if_neg (by decide), in_nats]
      have lf : ((List.range y).filter fun v => decide (nm.getD v 0 ∈ es)).length ≤ y := by
        have := List.length_filter_le (fun v => decide (nm.getD v 0 ∈ es)) (List.range y)
        rw [List.length_range] at this
        exact this
      have gd : nm.getD y 0 = nm[y] := Tb.getD_at ey
      rw [List.range_succ, List.filter_append]
      refine ⟨_, rfl, ?_⟩
      refine ite2 (fun c => ?_) (fun c => ?_)
      · refine ⟨_, rfl, _, upd_same, by unfold nats; rw [List.length_map]; exact small_lt (by omega), ?_⟩
        rw [upd_upd, List.filter_cons_of_pos (by rw [gd]; exact c), List.filter_nil]
        unfold nats
        rw [List.map_append]
        rfl
      · rw [List.filter_cons_of_neg (by rw [gd]; exact c), List.filter_nil, List.append_nil]
    rintro H7 rfl
    generalize hes : (List.range nm.length).filter (fun v => decide (nm.getD v 0 ∈ es)) = es'
    have mem_es : ∀ v, v ∈ es' ↔ v < nm.length ∧ nm.getD v 0 ∈ es := fun v => by
      rw [← hes, List.mem_filter, List.mem_range]
      exact ⟨fun h => ⟨h.1, of_decide_eq_true h.2⟩, fun h => ⟨h.1, decide_eq_true h.2⟩⟩
    refine ⟨by show 3 ≤ sizeLine; decide, fun p' hp' => ?_⟩
    have rowOf : ∀ j, j < nm.length → ∃ (c : Nat) (q row : Addr × List Nat), rs'[j]? = some q ∧ nm[j]? = some c ∧ rs[c]? = some row ∧ row ∈ rs ∧ q.2.length = row.2.length ∧ ∀ b v : Nat, q.2[b]? = some v → nm[v]? = row.2[b]? := fun j hj => by
      have e1 := List.getElem?_eq_getElem (l := rs') (by omega : j < rs'.length)
      have e2 := List.getElem?_eq_getElem hj
      have cn : nm[j] < rs.length := N.lt _ (List.getElem_mem _)
      have e3 := List.getElem?_eq_getElem cn
      obtain ⟨v1, v2⟩ := val j _ _ _ e1 e2 e3
      exact ⟨_, _, _, e1, e2, e3, List.getElem_mem _, v1, v2⟩
    have T' : Tbl x rs' es' := by
      refine ⟨tb.wd, tb.asc, by omega, by omega, fun q hq => ?_, by rw [← hes]; exact List.pairwise_lt_range.filter _, fun v hv => by have := (mem_es v).mp hv; omega⟩
      obtain ⟨j, hj, ej⟩ := List.getElem_of_mem hq
      obtain ⟨c, q', row, e1, e2, e3, mr, v1, v2⟩ := rowOf j (by omega)
      rw [List.getElem?_eq_getElem hj, ej] at e1
      cases e1
      obtain ⟨lrow, _⟩ := tb.row row mr
      refine ⟨by rw [v1, lrow], fun v hv => ?_⟩
      obtain ⟨b, hb, eb⟩ := List.getElem_of_mem hv
      have := v2 b v (by rw [List.getElem?_eq_getElem hb, eb])
      rw [List.getElem?_eq_getElem (by omega : b < row.2.length)] at this
      have := (List.getElem?_eq_some_iff.mp this).1
      omega
    have E' := Tb.Eqv.of_map (A := tabOf x rs es) (B := tabOf x rs' es') (f := fun j => nm.getD j 0) (fun j b hj hb => by
        have hj : j < rs'.length := hj
        have hb : b < x.length := hb
        obtain ⟨c, q, row, e1, e2, e3, mr, v1, v2⟩ := rowOf j (by omega)
        obtain ⟨lrow, _⟩ := tb.row row mr
        have e4 := List.getElem?_eq_getElem (l := q.2) (by omega : b < q.2.length)
        have e5 := v2 b _ e4
        have e6 := List.getElem?_eq_getElem (l := row.2) (by omega : b < row.2.length)
        rw [e6] at e5
        rw [tab_d e1 e4]
        show _ < rs'.length ∧ nm.getD _ 0 = _
        refine ⟨by have := (List.getElem?_eq_some_iff.mp e5).1; omega, ?_⟩
        rw [Tb.getD_at e2, tab_d e3 e6, Tb.getD_at e5]) (fun j hj => by
        have hj : j < rs'.length := hj
        show decide (j ∈ es') = decide (nm.getD j 0 ∈ es)
        rw [decide_eq_decide, mem_es]
        exact ⟨fun h => h.2, fun h => ⟨by omega, h⟩⟩) 0 (by show 0 < rs'.length; omega)
    have E' : Tb.Eqv (tabOf x rs es) (nm.getD 0 0) (tabOf x rs' es') 0 := E'
    rw [Tb.getD_at N.first] at E'
    refine k p' D G rs' es' _ (((sk4.new hG).new hp').mono (by omega)) ((kp4.new hG).new hp') ⟨fD, kp4.free nG hG, nDG, fun q hq => ⟨(rows q hq).2.1, (rows q hq).2.2.1, ne_of_none (rows q hq).1 hG⟩, nd⟩
      ⟨SqT.of upd_same, upd_old (upd_old eD hG) hp', upd_old upd_same hp', fun q hq => upd_old (upd_old (rows q hq).1 hG) hp'⟩ T' (by omega) E'
end
end K19

namespace K19
open PySem PySem.Spec PyProof.Rows L2 Sf
section
variable {P : Program} {w : World} {K : PySem.W.Frag} {mg : Str → Option Value} {base : Heap} {a : Ad}
theorem NewT.kp {S H : Hp} {sk r g : Addr} {rs : Rows} (h : NewT H r g rs) (k : Kp sk S H) (nr : r ≠ sk) (ng : g ≠ sk) (nq : ∀ q ∈ rs, q.1 ≠ sk) : NewT S r g rs := ⟨k.free nr h.hr, k.free ng h.hg, h.rg, fun q hq => ⟨k.free (nq q hq) (h.hq q hq).1, (h.hq q hq).2⟩, h.nd⟩
theorem NewT.same {S H : Hp} {r g : Addr} {rs : Rows} (h : NewT H r g rs) (k : Same S H) : NewT S r g rs := ⟨same_none k h.hr, same_none k h.hg, h.rg, fun q hq => ⟨same_none k (h.hq q hq).1, (h.hq q hq).2⟩, h.nd⟩
theorem op_bb (b c : Bool) : (!decide (V.bl b = V.bl c)) = (b != c) := by cases b <;> cases c <;> rfl
abbrev s_qt_bent : Stmt := top 26
theorem sc_qt_bent : FnScope ["sack", "sheet", "letters", "rows", "ends", "way", "at", "k"] ["sack", "sheet"] (defScope s_qt_bent) := ⟨rfl, rfl, rfl, by decide +kernel, rfl, by decide +kernel, by decide +kernel⟩
/-- a near table, in new lists -/
def spBent (K : PySem.W.Frag) : Sp := fun vs H Q _ => ∃ (sk p r g : Addr) (n : Nat) (x : Str) (rs : Rows) (es : List Nat), vs = [.ref sk, .ref p] ∧ Sk n H sk ∧ n ≤ 100000000 ∧ Sh K H p r g x rs es ∧ Tbl x rs es ∧ rs.length ≤ 100 ∧
  ∀ p' r' g' rs' es' H', Sk (n + 10) H' sk → Kp sk H H' → NewT H r' g' rs' → Sh K H' p' r' g' x rs' es' → Tbl x rs' es' → rs'.length = rs.length → Q (.ref p') H'
theorem ok_bent {f : Addr} {fd fd1 fd2 : FuncData} (F : Fun K "_law_qt_bent" "_law_qt_bent" s_qt_bent f fd) (T : Txt K mg a) (c_coin : Cal P w K mg base 1 a.coin fd1 ["purse", "many"] spCoin) (c_qt_copy : Cal P w K mg base 1 a.qt_copy fd2 ["sheet"] (spCopy K)) : FnOk P w K mg base CX0 2 f fd ["sack", "sheet"] (spBent K) := by
  refine F.ok sc_qt_bent (fun vs H Q E h => by obtain ⟨sk, p, r, g, n, x, rs, es, rfl, _⟩ := h; rfl) (fun cdv A outer s H vs Q E hr h => ?_)
  have hr_coin := hr
  have hr_qt_copy := hr
  refine ⟨_, (pss_cons (ps_asg (pe_call c_qt_copy.ok hr_qt_copy rfl T.g_qt_copy T.k_qt_copy c_qt_copy.binds .nil pass0 (pa_cons (pv 1) pa_nil)) (pg_tup rfl (pgs_cons (pg_name (i := 2) sc_qt_bent.nd rfl (Or.inl rfl)) (pgs_cons (pg_name (i := 3) sc_qt_bent.nd rfl (Or.inl rfl)) (pgs_cons (pg_name (i := 4) sc_qt_bent.nd rfl (Or.inr rfl)) pgs_nil)))))
      (pss_cons (ps_asg (pe_tup (pa_cons (pe_call c_coin.ok hr_coin rfl T.g_coin T.k_coin c_coin.binds .nil pass0 (pa_cons (pv 0) (pa_cons pe_int pa_nil))) (pa_cons (pe_call c_coin.ok hr_coin rfl T.g_coin T.k_coin c_coin.binds .nil pass0 (pa_cons (pv 0) (pa_cons (pe_callB call_len_seq (by rfl) T.b_len PySem.boot_len (pa_cons (pv 3) pa_nil)) pa_nil))) pa_nil))) (pg_tup rfl (pgs_cons (pg_name (i := 5) sc_qt_bent.nd rfl (Or.inl rfl)) (pgs_cons (pg_name (i := 6) sc_qt_bent.nd rfl (Or.inr rfl)) pgs_nil))))
      (Evl.pss_cut (ps_if (pt_cmpR op_eq (pv 5) pe_int (nomark _)) (pss_one (ps_set (i := 4) sc_qt_bent.nd rfl (Or.inr rfl) (pe_lc (own := [("k", 7)]) (g := gName 7) (tt := _) rfl sc_qt_bent.nd (pi_range1 rfl T.b_range (pa_cons (pe_callB call_len_seq (by rfl) T.b_len PySem.boot_len (pa_cons (pv 3) pa_nil)) pa_nil)) (blkOk_by (own := [("k", 7)]) (N := ["sack", "sheet", "letters", "rows", "ends", "way", "at", "k"]) (sc := defScope s_qt_bent) (by decide +kernel)) (fun _ _ _ _ _ => pg_name (i := 7) sc_qt_bent.nd rfl (Or.inl rfl)) (fun _ _ _ _ _ => (pts_one (pt_cmpR op_ne (pe_cmpR (show OpR _ _ (rIn K false) from op_in_seq) (pv 7) (pv 4) rfl) (pe_cmpR op_eq (pv 7) (pv 6) (nomark _)) (nomark _)))) (fun _ _ _ _ _ => (pv 7))))) (pss_one (ps_if (PW.pt (pw_and (pt_cmpR op_eq (pv 5) pe_int (nomark _)) (pw_and1 (pt_cmpR op_ne (pv 2) pe_str (nomark _))))) (pss_one (ps_asg (pe_call c_coin.ok hr_coin rfl T.g_coin T.k_coin c_coin.binds .nil pass0 (pa_cons (pv 0) (pa_cons (pe_callB call_len_seq (by rfl) T.b_len PySem.boot_len (pa_cons (pv 3) pa_nil)) pa_nil))) (pg_sub (pe_ix ix_list (pv 3) (pv 6) (fun _ _ => rfl)) (pe_call c_coin.ok hr_coin rfl T.g_coin T.k_coin c_coin.binds .nil pass0 (pa_cons (pv 0) (pa_cons (pe_callB call_len_str (by rfl) T.b_len PySem.boot_len (pa_cons (pv 2) pa_nil)) pa_nil))) set_list))) pss_nil)))
      (pss_one (ps_ret (pe_tup (pa_cons (pv 2) (pa_cons (pv 3) (pa_cons (pv 4) pa_nil))))))))), ?_⟩
  obtain ⟨sk, p, r, g, n, x, rs0, es, rfl, hsk, hn, sh, tb0, n100, k⟩ := h
  refine ⟨_, rfl, p, r, g, x, rs0, es, rfl, sh, tb0, fun p1 r1 g1 rs H1 s1 nt1 ec sh1 => ?_⟩
  -- the copy is as right
  have lrs : rs.length = rs0.length := by have := congrArg List.length ec; rw [List.length_map, List.length_map] at this; exact this
  have tb : Tbl x rs es := by
    refine ⟨tb0.wd, tb0.asc, lrs ▸ tb0.n0, lrs ▸ tb0.n9, fun q hq => ?_, tb0.ea, lrs ▸ tb0.el⟩
    have : q.2 ∈ rs0.map (·.2) := ec ▸ List.mem_map.mpr ⟨q, hq, rfl⟩
    obtain ⟨q0, h0, e0⟩ := List.mem_map.mp this
    rw [lrs, ← e0]
    exact tb0.row q0 h0
  have sk1 := sk_same hsk s1
  have n0 := tb.n0
  have xl := tb.wd.len
  have n100 : rs.length ≤ 100 := lrs ▸ n100
  have lr : (rrefs rs).length = rs.length := List.length_map ..
  have skat : ∃ o, H sk = some o := hsk.at
  have nsk : ∀ {b}, H b = none → b ≠ sk := fun {b} hb z => by obtain ⟨o, e⟩ := skat; rw [← z, hb] at e; cases e
  have nr := nsk nt1.hr
  have ng := nsk nt1.hg
  have nq : ∀ q ∈ rs, q.1 ≠ sk := fun q hq => nsk (nt1.hq q hq).1
  refine ⟨p1, _, rfl, sh1.p, rfl, _, _, rfl, _, _, rfl, _, _, rfl, rfl, ?_⟩
  refine ⟨_, rfl, sk, n, _, rfl, sk1, by omega, by decide, by decide, fun wy H2 w0 w1 sk2 kp2 => ?_⟩
  have sh2 := sh1.kp kp2 sk1 nr ng nq
  refine ⟨_, rfl, _, rfl, r1, _, rfl, .inl (SqL.of sh2.r), sk, _, _, rfl, sk2, by omega, by rw [lr]; omega, ?c1, fun at_ H3 a0 a1 sk3 kp3 => ?_⟩
  case c1 => exact Int.lt_of_le_of_lt (b := 1000) (by rw [lr]; omega) (by decide)
  obtain ⟨at_, rfl⟩ := nat_of a0
  rw [lr] at a1
  have sh3 := sh2.kp kp3 sk2 nr ng nq
  refine ⟨by show 2 ≤ sizeLine; decide, fun tp htp => ?_⟩
  have sh4 := sh3.mono (same_new (u := .tup [.int wy, .int at_]) (Same.refl H3) htp)
  have sk4 := sk3.new (o := .tup [.int wy, .int at_]) htp
  have kp4 := (kp_same (Kp.refl sk H) s1).trans ((kp2.trans kp3).new (o := .tup [.int wy, .int at_]) htp)
  have et := upd_same (H := H3) (a := tp) (o := .tup [.int wy, .int at_])
  generalize upd H3 tp _ = H4 at sh4 sk4 kp4 et
  refine ⟨tp, _, rfl, SqT.of et, rfl, _, _, rfl, _, _, rfl, rfl, ?_⟩
  refine ⟨fun σ' H' => ∃ (g' : Addr) (rs' : Rows) (es' : List Nat) (x7 : Option V), σ' = [some (.ref sk), some (.ref p), some (.str x), some (.ref r1), some (.ref g'), some (.int wy), some (.int at_), x7] ∧ Sk (n + 5) H' sk ∧ Kp sk H H' ∧ NewT H r1 g' rs' ∧
    H' r1 = some (.lst (rrefs rs')) ∧ H' g' = some (.lst (nats es')) ∧ (∀ q ∈ rs', H' q.1 = some (.lst (nats q.2))) ∧ Tbl x rs' es' ∧ rs'.length = rs.length, ?_, ?_⟩
  · refine ⟨_, rfl, rfl, _, rfl, ?_⟩
    refine ite2 (fun c => ?_) (fun c => ?_)
    · refine ⟨_, rfl, r1, _, rfl, .inl (SqL.of sh4.r), _, rfl, by rw [lr]; omega, by rw [lr]; omega, fun D hD => ?_⟩
      have nD := sk4.ne hD
      have nrD : r1 ≠ D := ne_of_none sh4.r hD
      have mt : (((rrefs rs).length : Nat) : Int).toNat = rs.length := lr
      rw [mt]
      refine lc_range (n := rs.length) (fun j H' => H' = upd H4 D (.lst (nats ((List.range j).filter fun v => !decide (V.bl (decide (v ∈ es)) = V.bl (decide (V.int (v : Int) = V.int (at_ : Int)))))))) rfl ?_ ?_
      · rintro y H7 hy rfl
        rw [Int.zero_add]
        refine ⟨rfl, _, rfl, _, rfl, g1, _, rfl, .inl (SqL.of (upd_old sh4.g hD)), rfl, flat_nats es, ?_⟩
        rw [if_neg (by decide), in_nats]
        have lf : ((List.range y).filter fun v => !decide (V.bl (decide (v ∈ es)) = V.bl (decide (V.int (v : Int) = V.int (at_ : Int))))).length ≤ y := by
          have := List.length_filter_le (fun v => !decide (V.bl (decide (v ∈ es)) = V.bl (decide (V.int (v : Int) = V.int (at_ : Int))))) (List.range y)
          rw [List.length_range] at this
          exact this
        refine ⟨_, rfl, _, rfl, rfl, rfl, _, rfl, ?_⟩
        rw [List.range_succ, List.filter_append]
        refine ite2 (fun c => ?_) (fun c => ?_)
        · refine ⟨_, rfl, _, upd_same, by unfold nats; rw [List.length_map]; exact small_lt (by omega), ?_⟩
          rw [upd_upd, List.filter_cons_of_pos (by exact c), List.filter_nil]
          unfold nats
          rw [List.map_append]
          rfl
        · rw [List.filter_cons_of_neg (by exact c), List.filter_nil, List.append_nil]
      rintro H7 rfl
      generalize hes : (List.range rs.length).filter (fun v => !decide (V.bl (decide (v ∈ es)) = V.bl (decide (V.int (v : Int) = V.int (at_ : Int))))) = es'
      refine ⟨D, rs, es', _, rfl, (sk4.new hD).mono (by omega), kp4.new hD, ⟨nt1.hr, kp4.free nD hD, nrD, fun q hq => ⟨(nt1.hq q hq).1, (nt1.hq q hq).2.1, ne_of_none (sh4.q q hq) hD⟩, nt1.nd⟩, upd_old sh4.r hD, upd_same, fun q hq => upd_old (sh4.q q hq) hD, ?_, rfl⟩
      refine ⟨tb.wd, tb.asc, tb.n0, tb.n9, tb.row, by rw [← hes]; exact List.pairwise_lt_range.filter _, fun v hv => ?_⟩
      rw [← hes] at hv
      exact List.mem_range.mp (List.mem_filter.mp hv).1
    · have keep : ∃ (g' : Addr) (rs' : Rows) (es' : List Nat) (x7 : Option V), [some (.ref sk), some (.ref p), some (.str x), some (.ref r1), some (.ref g1), some (.int wy), some (.int at_), none] = [some (.ref sk), some (.ref p), some (.str x), some (.ref r1), some (.ref g'), some (.int wy), some (.int at_), x7] ∧ Sk (n + 5) H4 sk ∧ Kp sk H H4 ∧ NewT H r1 g' rs' ∧
          H4 r1 = some (.lst (rrefs rs')) ∧ H4 g' = some (.lst (nats es')) ∧ (∀ q ∈ rs', H4 q.1 = some (.lst (nats q.2))) ∧ Tbl x rs' es' ∧ rs'.length = rs.length := ⟨g1, rs, es, _, rfl, sk4.mono (by omega), kp4, nt1, sh4.r, sh4.g, sh4.q, tb, rfl⟩
      refine ⟨_, rfl, rfl, _, rfl, ?_⟩
      refine ite2 (fun c1 => ?_) (fun c1 => ?_)
      · refine ⟨_, rfl, rfl, _, rfl, ?_⟩
        refine ite2 (fun c2 => ?_) (fun c2 => ?_)
        · have x0 : x.length ≠ 0 := fun z => by
            have e : x = ("" : Str) := ext_ls (by rw [len_ls] at z; rw [List.eq_nil_of_length_eq_zero z]; rfl)
            have c2 := bn_t c2
            rw [e] at c2
            exact absurd c2 (by decide)
          refine ⟨_, rfl, _, rfl, r1, _, rfl, .inl (SqL.of sh4.r), sk, _, _, rfl, sk4, by omega, by rw [lr]; omega, ?c3, fun v H5 v0 v1 sk5 kp5 => ?_⟩
          case c3 => exact Int.lt_of_le_of_lt (b := 1000) (by rw [lr]; omega) (by decide)
          obtain ⟨v, rfl⟩ := nat_of v0
          rw [lr] at v1
          have sh5 := sh4.kp kp5 sk4 nr ng nq
          have ai : at_ < rs.length := by omega
          have er : rs[at_]? = some rs[at_] := List.getElem?_eq_getElem ai
          have mr := List.getElem_mem ai
          generalize rs[at_] = row at er mr
          obtain ⟨lrow, brow⟩ := tb.row row mr
          refine ⟨_, rfl, _, rfl, r1, _, (at_ : Int), V.ref row.1, rfl, rfl, SqL.of sh5.r, atI_nat (by unfold rrefs; rw [List.getElem?_map, er]; rfl), ?_⟩
          refine ⟨_, rfl, _, rfl, x, rfl, tb.wd.tx.line (by decide), sk, _, _, rfl, sk5, by omega, by omega, ?c4, fun j H6 j0 j1 sk6 kp6 => ?_⟩
          case c4 => exact Int.lt_of_le_of_lt (b := 1000) (by omega) (by decide)
          obtain ⟨j, rfl⟩ := nat_of j0
          have sh6 := sh5.kp kp6 sk5 nr ng nq
          refine ⟨row.1, _, (j : Int), j, rfl, rfl, sh6.q row mr, ixN_nat (by unfold nats; rw [List.length_map]; omega), ?_⟩
          have ra := set_fst (row.2.set j v) er
          have nf : H row.1 = none := (nt1.hq row mr).1
          refine ⟨g1, rs.set at_ (row.1, row.2.set j v), es, _, rfl, sk_mut (sk6.mono (by omega)) (nq row mr), kp_mut (kp4.trans (kp5.trans kp6)) nf, ⟨nt1.hr, nt1.hg, nt1.rg, fun q hq => ?_, by rw [ra]; exact nt1.nd⟩, ?_, ?_, fun q hq => ?_, ?_, List.length_set⟩
          · have : q.1 ∈ rs.map (·.1) := ra ▸ List.mem_map.mpr ⟨q, hq, rfl⟩
            obtain ⟨q0, h0, e0⟩ := List.mem_map.mp this
            rw [← e0]
            exact nt1.hq q0 h0
          · rw [upd_ne (nt1.hq row mr).2.1.symm, set_refs _ er]
            exact sh6.r
          · rw [upd_ne (nt1.hq row mr).2.2.symm]
            exact sh6.g
          · obtain ⟨i, hi, ei⟩ := List.getElem_of_mem hq
            rw [List.length_set] at hi
            rw [List.getElem_set] at ei
            by_cases z : at_ = i
            · rw [if_pos z] at ei
              rw [← ei, upd_same]
              unfold nats
              rw [List.map_set]
            · rw [if_neg z] at ei
              have ne : q.1 ≠ row.1 := fun c => z (nodup_at nt1.nd (i := at_) (j := i) (c := row.1) (by rw [List.getElem?_map, er]; rfl) (by rw [List.getElem?_map, List.getElem?_eq_getElem hi, ei, ← c]; rfl))
              rw [upd_ne ne]
              exact sh6.q q (ei ▸ List.getElem_mem hi)
          · refine ⟨tb.wd, tb.asc, by rw [List.length_set]; exact n0, by rw [List.length_set]; exact tb.n9, fun q hq => ?_, tb.ea, by rw [List.length_set]; exact tb.el⟩
            rw [List.length_set]
            rcases List.mem_or_eq_of_mem_set hq with z | z
            · exact tb.row q z
            · subst z
              refine ⟨by show (row.2.set j v).length = _; rw [List.length_set]; exact lrow, fun u hu => ?_⟩
              rcases List.mem_or_eq_of_mem_set hu with y | y
              · exact brow u y
              · omega
        · exact keep
      · exact keep
  · rintro σ' H' ⟨g', rs', es', x7, rfl, sk', kp', nt', e1, e2, e3, tb', l'⟩
    refine ⟨_, rfl, _, rfl, _, rfl, by show 3 ≤ sizeLine; decide, fun p' hp' => ?_⟩
    exact k p' r1 g' rs' es' _ ((sk'.new hp').mono (by omega)) (kp'.new hp') nt' ⟨SqT.of upd_same, upd_old e1 hp', upd_old e2 hp', fun q hq => upd_old (e3 q hq) hp'⟩ tb' (l'.trans lrs)
end
end K19

namespace K19
open PySem PySem.Spec PyProof.Rows L2 Sf
section
variable {P : Program} {w : World} {K : PySem.W.Frag} {mg : Str → Option Value} {base : Heap} {a : Ad}
/-- the number of the first thing of a list -/
theorem ixN_of {l : List Nat} {v : Nat} (h : v ∈ l) : l[l.idxOf v]? = some v ∧ ∀ (m u : Nat), m < l.idxOf v → l[m]? = some u → u ≠ v := by
  refine ⟨Tb.at_ix h, fun m u hm e z => ?_⟩
  subst z
  obtain ⟨hl, el⟩ := List.getElem?_eq_some_iff.mp e
  have := List.not_of_lt_findIdx (p := (· == u)) (xs := l) hm
  rw [el] at this
  simp at this
theorem at_kin {κ : Nat → Nat} {N s : Nat} (h : s < N) : ((List.range N).map κ)[s]? = some (κ s) := by rw [List.getElem?_map, range_at h]; rfl
/-- list.index of numbers -/
theorem ixV {ns : List Nat} {v : Nat} (m : v ∈ ns) : (nats ns)[ns.idxOf v]? = some (.int (v : Int)) ∧ ∀ (i : Nat) (z : V), i < ns.idxOf v → (nats ns)[i]? = some z → eqV z (.int (v : Int)) = false := by
  obtain ⟨h1, h2⟩ := ixN_of m
  refine ⟨by unfold nats; rw [List.getElem?_map, h1]; rfl, fun i z hi hz => ?_⟩
  unfold nats at hz
  obtain ⟨u, eu, rfl⟩ := map_at hz
  show ((u : Int) == (v : Int)) = false
  exact beq_eq_false_iff_ne.mpr fun c => h2 i u hi eu (Int.ofNat.inj c)
theorem eqV_self (v : Nat) : eqV (.int (v : Int)) (.int (v : Int)) = true := by
  show ((v : Int) == (v : Int)) = true
  exact beq_self_eq_true _
abbrev s_qt_least : Stmt := top 21
theorem sc_qt_least : FnScope ["sheet", "letters", "rows", "ends", "kinds", "amount", "k", "turn", "names", "later", "mark", "goal", "queue", "found", "row"] ["sheet"] (defScope s_qt_least) := ⟨rfl, rfl, rfl, by decide +kernel, rfl, by decide +kernel, by decide +kernel⟩
theorem ok_qt_least {f : Addr} {fd : FuncData} (F : Fun K "_law_qt_least" "_law_qt_least" s_qt_least f fd) (T : Txt K mg a) : FnOk P w K mg base CX0 1 f fd ["sheet"] (spLeastT K) := by
  refine F.ok sc_qt_least (fun vs H Q E h => by obtain ⟨p, r, g, x, rs, es, rfl, _⟩ := h; rfl) (fun cdv A outer s H vs Q E hr h => ?_)
  refine ⟨_, (pss_cons (ps_asg (pv 0) (pg_tup rfl (pgs_cons (pg_name (i := 1) sc_qt_least.nd rfl (Or.inl rfl)) (pgs_cons (pg_name (i := 2) sc_qt_least.nd rfl (Or.inl rfl)) (pgs_cons (pg_name (i := 3) sc_qt_least.nd rfl (Or.inr rfl)) pgs_nil)))))
      (pss_cons (ps_asg (pe_tup (pa_cons (pe_lc (own := [("k", 6)]) (g := gName 6) (tt := tYes) rfl sc_qt_least.nd (pi_range1 rfl T.b_range (pa_cons (pe_callB call_len_seq (by rfl) T.b_len PySem.boot_len (pa_cons (pv 2) pa_nil)) pa_nil)) (blkOk_by (own := [("k", 6)]) (N := ["sheet", "letters", "rows", "ends", "kinds", "amount", "k", "turn", "names", "later", "mark", "goal", "queue", "found", "row"]) (sc := defScope s_qt_least) (by decide +kernel)) (fun _ _ _ _ _ => pg_name (i := 6) sc_qt_least.nd rfl (Or.inl rfl)) (fun _ _ _ _ _ => pts_nil) (fun _ _ _ _ _ => (pe_callTy call_int1 (by rfl) T.b_int (by decide +kernel) (pa_cons (pe_cmpR (show OpR _ _ (rIn K false) from op_in_seq) (pv 6) (pv 3) rfl) pa_nil)))) (pa_cons pe_int pa_nil))) (pg_tup rfl (pgs_cons (pg_name (i := 4) sc_qt_least.nd rfl (Or.inr rfl)) (pgs_cons (pg_name (i := 5) sc_qt_least.nd rfl (Or.inl rfl)) pgs_nil))))
      (Evl.pss_cut (ps_for PassesOwn.never rfl (pi_range1 rfl T.b_range (pa_cons (pe_op op_add (pe_callB call_len_seq (by rfl) T.b_len PySem.boot_len (pa_cons (pv 2) pa_nil)) pe_int) pa_nil)) (pg_name (i := 7) sc_qt_least.nd rfl (Or.inl rfl))
      (pss_cons (ps_par (i := 8) (j := 9) (by rfl) sc_qt_least.nd rfl rfl (by decide) rfl rfl (pa_cons pe_dnewT (pa_cons (pe_lst pa_nil) pa_nil)) (by rfl))
      (pss_cons (ps_for PassesOwn.never rfl (pi_range1 rfl T.b_range (pa_cons (pe_callB call_len_seq (by rfl) T.b_len PySem.boot_len (pa_cons (pv 2) pa_nil)) pa_nil)) (pg_name (i := 6) sc_qt_least.nd rfl (Or.inl rfl))
      (pss_cons (ps_set (i := 10) sc_qt_least.nd rfl (Or.inl rfl) (pe_callTy call_tuple_of (by rfl) T.b_tuple (by decide +kernel) (pa_cons (pe_op op_cat (pe_lst (pa_cons (pe_ix ix_list (pv 4) (pv 6) (fun _ _ => rfl)) pa_nil)) (pe_lc (own := [("goal", 11)]) (g := gName 11) (tt := tYes) rfl sc_qt_least.nd (pi_list (pe_ix ix_list (pv 2) (pv 6) (fun _ _ => rfl))) (blkOk_by (own := [("goal", 11)]) (N := ["sheet", "letters", "rows", "ends", "kinds", "amount", "k", "turn", "names", "later", "mark", "goal", "queue", "found", "row"]) (sc := defScope s_qt_least) (by decide +kernel)) (fun _ _ _ _ _ => pg_name (i := 11) sc_qt_least.nd rfl (Or.inl rfl)) (fun _ _ _ _ _ => pts_nil) (fun _ _ _ _ _ => (pe_ix (show IxR _ (rIxL K) from ix_list) (pv 4) (pv 11) (fun _ _ => rfl))))) pa_nil)))
      (pss_one (ps_expr (pe_bm PySem.F.plainAttrs_list PySem.F.slot_list_append PySem.F.type_list_append mt_append (pv 9) (pa_cons (pe_bm PySem.F.plainAttrs_dict PySem.F.slot_dict_setdefault PySem.F.type_dict_setdefault (mt_setdT (hu1 hr.units)) (pv 8) (pa_cons (pv 10) (pa_cons (pe_callB call_len_dT (by rfl) T.b_len PySem.boot_len (pa_cons (pv 8) pa_nil)) pa_nil))) pa_nil))))))
      (pss_cons (ps_set (i := 4) sc_qt_least.nd rfl (Or.inr rfl) (pv 9))
      (pss_cons (ps_if (pt_cmpR op_eq (pe_callB call_len_dT (by rfl) T.b_len PySem.boot_len (pa_cons (pv 8) pa_nil)) (pv 5) (nomark _)) (pss_one ps_break) pss_nil)
      (pss_one (ps_set (i := 5) sc_qt_least.nd rfl (Or.inl rfl) (pe_callB call_len_dT (by rfl) T.b_len PySem.boot_len (pa_cons (pv 8) pa_nil)))))))))
      (pss_cons (ps_asg (pe_tup (pa_cons (pe_lst (pa_cons (pe_ix ix_list (pv 4) pe_int (fun _ _ => rfl)) pa_nil)) (pa_cons (pe_lst pa_nil) pa_nil))) (pg_tup rfl (pgs_cons (pg_name (i := 12) sc_qt_least.nd rfl (Or.inr rfl)) (pgs_cons (pg_name (i := 13) sc_qt_least.nd rfl (Or.inl rfl)) pgs_nil))))
      (pss_cons (ps_for PassesOwn.never rfl (pi_range1 rfl T.b_range (pa_cons (pe_callB call_len_seq (by rfl) T.b_len PySem.boot_len (pa_cons (pv 2) pa_nil)) pa_nil)) (pg_name (i := 7) sc_qt_least.nd rfl (Or.inl rfl))
      (pss_one (ps_if (pt_cmpR op_lt (pe_callB call_len_seq (by rfl) T.b_len PySem.boot_len (pa_cons (pv 13) pa_nil)) (pe_callB call_len_seq (by rfl) T.b_len PySem.boot_len (pa_cons (pv 12) pa_nil)) (nomark _)) (pss_cons (ps_set (i := 14) sc_qt_least.nd rfl (Or.inl rfl) (pe_lst pa_nil))
      (pss_cons (ps_for PassesOwn.never rfl (pi_list (pe_ix ix_list (pv 2) (pe_bm PySem.F.plainAttrs_list PySem.F.slot_list_index PySem.F.type_list_index mt_index (pv 4) (pa_cons (pe_ix ix_list (pv 12) (pe_callB call_len_seq (by rfl) T.b_len PySem.boot_len (pa_cons (pv 13) pa_nil)) (fun _ _ => rfl)) pa_nil)) (fun _ _ => rfl))) (pg_name (i := 11) sc_qt_least.nd rfl (Or.inl rfl))
      (Evl.pss_cut (ps_if (pt_cmpR op_notIn_seq (pe_ix ix_list (pv 4) (pv 11) (fun _ _ => rfl)) (pv 12) rfl) (pss_one (ps_expr (pe_bm PySem.F.plainAttrs_list PySem.F.slot_list_append PySem.F.type_list_append mt_append (pv 12) (pa_cons (pe_ix ix_list (pv 4) (pv 11) (fun _ _ => rfl)) pa_nil)))) pss_nil)
      (pss_one (ps_expr (pe_bm PySem.F.plainAttrs_list PySem.F.slot_list_append PySem.F.type_list_append mt_append (pv 14) (pa_cons (pe_bm PySem.F.plainAttrs_list PySem.F.slot_list_index PySem.F.type_list_index mt_index (pv 12) (pa_cons (pe_ix ix_list (pv 4) (pv 11) (fun _ _ => rfl)) pa_nil)) pa_nil))))))
      (pss_one (ps_expr (pe_bm PySem.F.plainAttrs_list PySem.F.slot_list_append PySem.F.type_list_append mt_append (pv 13) (pa_cons (pv 14) pa_nil)))))) pss_nil)))
      (pss_one (ps_ret (pe_tup (pa_cons (pv 1) (pa_cons (pv 13) (pa_cons (pe_lc (own := [("k", 6)]) (g := gName 6) (tt := _) rfl sc_qt_least.nd (pi_range1 rfl T.b_range (pa_cons (pe_callB call_len_seq (by rfl) T.b_len PySem.boot_len (pa_cons (pv 12) pa_nil)) pa_nil)) (blkOk_by (own := [("k", 6)]) (N := ["sheet", "letters", "rows", "ends", "kinds", "amount", "k", "turn", "names", "later", "mark", "goal", "queue", "found", "row"]) (sc := defScope s_qt_least) (by decide +kernel)) (fun _ _ _ _ _ => pg_name (i := 6) sc_qt_least.nd rfl (Or.inl rfl)) (fun _ _ _ _ _ => (pts_one (pt_cmpR (show OpR _ _ (rIn K false) from op_in_seq) (pe_bmK (K := K) PySem.F.plainAttrs_list PySem.F.slot_list_index PySem.F.type_list_index (show MtR _ _ (rIndex K) from mt_index) (pv 4) (pa_cons (pe_ix (show IxR _ (rIxL K) from ix_list) (pv 12) (pv 6) (fun _ _ => rfl)) pa_nil)) (pv 3) rfl))) (fun _ _ _ _ _ => (pv 6))) pa_nil))))))))))), ?_⟩
  obtain ⟨p, r, g, x, rs, es, rfl, sh, tb, kk⟩ := h
  have n0 := tb.n0
  have n9 := tb.n9
  have xl := tb.wd.len
  have lr : (rrefs rs).length = rs.length := List.length_map ..
  refine ⟨_, rfl, p, _, rfl, sh.p, rfl, _, _, rfl, _, _, rfl, _, _, rfl, rfl, ?_⟩
  -- ends and others
  refine ⟨_, rfl, r, _, rfl, .inl (SqL.of sh.r), _, rfl, by rw [lr]; omega, by rw [lr]; omega, fun D hD => ?_⟩
  have mt : (((rrefs rs).length : Nat) : Int).toNat = rs.length := lr
  rw [mt]
  refine lc_range (n := rs.length) (fun i H' => H' = upd H D (.lst (nats ((List.range i).map fun s => if s ∈ es then 1 else 0)))) rfl ?_ ?_
  · rintro i H1 hi rfl
    rw [Int.zero_add]
    refine ⟨rfl, _, rfl, _, rfl, g, _, rfl, .inl (SqL.of (upd_old sh.g hD)), rfl, flat_nats es, ?_⟩
    rw [if_neg (by decide), in_nats]
    refine .inr ⟨_, rfl, _, upd_same, by unfold nats; rw [List.length_map, List.length_map, List.length_range]; exact small_lt (by omega), ?_⟩
    have e : (V.int (if decide (i ∈ es) = true then 1 else 0)) = V.int (((if i ∈ es then 1 else 0 : Nat)) : Int) := by
      by_cases z : i ∈ es
      · simp [z]
      · simp [z]
    rw [upd_upd, e, List.range_succ, List.map_append]
    unfold nats
    rw [List.map_append]
    rfl
  rintro H1 rfl
  have s1 := same_new (u := .lst (nats ((List.range rs.length).map fun s => if s ∈ es then 1 else 0))) (Same.refl H) hD
  have d1 := upd_same (H := H) (a := D) (o := .lst (nats ((List.range rs.length).map fun s => if s ∈ es then 1 else 0)))
  generalize upd H D _ = H1 at s1 d1
  refine ⟨by show 2 ≤ sizeLine; decide, fun tp htp => ?_⟩
  have s2 := same_new (u := .tup [.ref D, .int 0]) s1 htp
  have d2 := upd_old (u := .tup [.ref D, .int 0]) d1 htp
  have et := upd_same (H := H1) (a := tp) (o := .tup [.ref D, .int 0])
  generalize upd H1 tp _ = H2 at s2 d2 et
  refine ⟨tp, _, rfl, SqT.of et, rfl, _, _, rfl, _, _, rfl, rfl, ?_⟩
  refine ⟨fun σ' H' => ∃ (kl : Addr) (κ : Nat → Nat) (M : Nat) (x5 x6 x7 x8 x9 x10 : Option V), σ' = [some (.ref p), some (.str x), some (.ref r), some (.ref g), some (.ref kl), x5, x6, x7, x8, x9, x10, none, none, none, none] ∧ H' kl = some (.lst (nats ((List.range rs.length).map κ))) ∧
    (∀ s t, s < rs.length → t < rs.length → (κ s = κ t ↔ Tb.Eqv (tabOf x rs es) s (tabOf x rs es) t)) ∧ (∀ s, s < rs.length → κ s < M) ∧ (∀ v, v < M → ∃ s, s < rs.length ∧ κ s = v) ∧ κ 0 = 0 ∧ Same H H', ?_, ?_⟩
  · refine ⟨_, rfl, r, _, rfl, .inl (SqL.of (s2 _ _ sh.r)), _, _, rfl, rfl, _, rfl, by rw [lr]; omega, by rw [lr]; omega, ?_⟩
    have tn : (((rrefs rs).length : Nat) + 1 : Int).toNat = rs.length + 1 := by rw [lr]; omega
    rw [tn]
    have ok := tb.ok
    have cl : ∀ s b, s < rs.length → b < (tabOf x rs es).w → (tabOf x rs es).d s b < rs.length := fun s b hs hb => ok.lt s b hs hb
    refine for_range (lo := 0) (n := rs.length + 1) (fun t σ' H' => ∃ (kl : Addr) (κ : Nat → Nat) (num : Nat) (x6 x7 x8 x9 x10 : Option V), σ' = [some (.ref p), some (.str x), some (.ref r), some (.ref g), some (.ref kl), some (.int num), x6, x7, x8, x9, x10, none, none, none, none] ∧ H' kl = some (.lst (nats ((List.range rs.length).map κ))) ∧
      Tb.Inv (tabOf x rs es) (· < rs.length) κ ∧ (num = 0 ∨ ((∀ s, s < rs.length → κ s < num) ∧ ∀ v, v < num → ∃ s, s < rs.length ∧ κ s = v)) ∧ t ≤ num ∧ num ≤ rs.length ∧ Same H H') ⟨D, _, 0, _, _, _, _, _, rfl, d2, ⟨?_, ?_⟩, .inl rfl, Nat.le_refl _, Nat.zero_le _, s2⟩ ?_ ?_
    · intro s t hs ht h
      have e : decide (s ∈ es) = decide (t ∈ es) := h.end
      have e : s ∈ es ↔ t ∈ es := decide_eq_decide.mp e
      show (if s ∈ es then 1 else 0) = (if t ∈ es then 1 else 0)
      by_cases z : s ∈ es
      · rw [if_pos z, if_pos (e.mp z)]
      · rw [if_neg z, if_neg fun w => z (e.mpr w)]
    · intro s t hs ht h
      show decide (s ∈ es) = decide (t ∈ es)
      by_cases z : s ∈ es
      · by_cases w : t ∈ es
        · rw [decide_eq_true z, decide_eq_true w]
        · simp [z, w] at h
      · by_cases w : t ∈ es
        · simp [z, w] at h
        · rw [decide_eq_false z, decide_eq_false w]
    · rintro t σ' H3 ht ⟨kl, κ, num, x6, x7, x8, x9, x10, rfl, ek, inv, hnum, tnum, numN, s3⟩
      rw [Int.zero_add]
      intro sg hsg
      have nks : kl ≠ sg := ne_of_none ek hsg
      refine ⟨by show 0 ≤ sizeLine; decide, fun lt hlt => ?_⟩
      have eg0 := upd_same (H := H3) (a := sg) (o := .dT [])
      have nsl : sg ≠ lt := ne_of_none eg0 hlt
      have ek4 := upd_old (u := .lst []) (upd_old (u := .dT []) ek hsg) hlt
      have nkl : kl ≠ lt := ne_of_none (upd_old (u := .dT []) ek hsg) hlt
      have s4 := same_new (u := .lst []) (same_new (u := .dT []) s3 hsg) hlt
      have fg := same_none s3 hsg
      have fl := same_none (same_new (u := .dT []) s3 hsg) hlt
      have eg4 := upd_old (u := .lst []) eg0 hlt
      have el4 := upd_same (H := upd H3 sg (.dT [])) (a := lt) (o := .lst [])
      generalize upd (upd H3 sg _) lt _ = H4 at ek4 s4 eg4 el4
      refine ⟨_, _, rfl, ?_⟩
      refine ⟨_, rfl, r, _, rfl, .inl (SqL.of (s4 _ _ sh.r)), _, rfl, by rw [lr]; omega, by rw [lr]; omega, ?_⟩
      rw [mt]
      refine for_range (lo := 0) (n := rs.length) (fun i σ' H' => ∃ (S : List (List L2.Key)) (y6 y10 : Option V), σ' = [some (.ref p), some (.str x), some (.ref r), some (.ref g), some (.ref kl), some (.int num), y6, some (.int t), some (.ref sg), some (.ref lt), y10, none, none, none, none] ∧
        H' kl = some (.lst (nats ((List.range rs.length).map κ))) ∧ H' sg = some (.dT (sD S 0)) ∧ H' lt = some (.lst (nats ((List.range i).map fun s => Tb.ix S (mark (tabOf x rs es) κ s)))) ∧ Tb.Signs (List.range i) (mark (tabOf x rs es) κ) S ∧ Same H H')
        ⟨[], _, _, rfl, ek4, eg4, el4, Tb.Signs.nil, s4⟩ ?_ ?_
      · rintro c σ' H5 cn ⟨S, y6, y10, rfl, ek, eg, el, sg5, s5⟩
        rw [Int.zero_add]
        have er : rs[c]? = some rs[c] := List.getElem?_eq_getElem cn
        have mr := List.getElem_mem cn
        generalize rs[c] = row at er mr
        obtain ⟨lrow, brow⟩ := tb.row row mr
        refine ⟨_, rfl, _, rfl, kl, _, (c : Int), V.int (κ c), rfl, rfl, SqL.of ek, atI_nat (by unfold nats; rw [List.getElem?_map, at_kin cn]; rfl), ?_⟩
        refine ⟨by show 1 ≤ sizeLine; decide, fun l1 hl1 => ?_⟩
        have s6 := same_new (u := .lst [.int (κ c)]) s5 hl1
        have ek6 := upd_old (u := .lst [.int (κ c)]) ek hl1
        have eg6 := upd_old (u := .lst [.int (κ c)]) eg hl1
        have el6 := upd_old (u := .lst [.int (κ c)]) el hl1
        have e16 := upd_same (H := H5) (a := l1) (o := .lst [.int (κ c)])
        generalize upd H5 l1 _ = H6 at s6 ek6 eg6 el6 e16
        have sh6 := sh.mono s6
        refine ⟨_, rfl, _, rfl, r, _, (c : Int), V.ref row.1, rfl, rfl, SqL.of sh6.r, atI_nat (by unfold rrefs; rw [List.getElem?_map, er]; rfl), row.1, rfl, ⟨_, SqL.of (sh6.q row mr)⟩, fun D3 hD3 => ?_⟩
        refine lc_list (xs := nats row.2) (fun j H' => H' = upd H6 D3 (.lst (nats ((row.2.take j).map κ)))) rfl (fun j H' _ q => by rw [q]; exact SqL.of (upd_old (sh6.q row mr) hD3)) ?_ ?_
        · rintro j v H7 hv rfl
          unfold nats at hv
          obtain ⟨b, eb, rfl⟩ := map_at hv
          have bn : b < rs.length := brow b (List.mem_of_getElem? eb)
          refine ⟨rfl, _, rfl, _, rfl, kl, _, (b : Int), V.int (κ b), rfl, rfl, SqL.of (upd_old ek6 hD3), atI_nat (by unfold nats; rw [List.getElem?_map, at_kin bn]; rfl), _, upd_same, ?_, ?_⟩
          · unfold nats
            rw [List.length_map, List.length_map, List.length_take]
            have := (List.getElem?_eq_some_iff.mp eb).1
            exact small_lt (by omega)
          · rw [upd_upd, List.take_add_one, eb, List.map_append]
            unfold nats
            rw [List.map_append]
            rfl
        rintro H7 rfl
        have lrow' : (nats row.2).length = row.2.length := List.length_map ..
        rw [lrow', List.take_length]
        have s7 := same_new (u := .lst (nats (row.2.map κ))) s6 hD3
        have ek7 := upd_old (u := .lst (nats (row.2.map κ))) ek6 hD3
        have eg7 := upd_old (u := .lst (nats (row.2.map κ))) eg6 hD3
        have el7 := upd_old (u := .lst (nats (row.2.map κ))) el6 hD3
        have e17 := upd_old (u := .lst (nats (row.2.map κ))) e16 hD3
        have e37 := upd_same (H := H6) (a := D3) (o := .lst (nats (row.2.map κ)))
        generalize upd H6 D3 _ = H7 at s7 ek7 eg7 el7 e17 e37
        refine ⟨l1, D3, _, _, rfl, rfl, e17, e37, by unfold nats; rw [List.length_map, List.length_map]; exact small_line (by show 1 + _ ≤ _; omega), fun l4 hl4 => ?_⟩
        have s8 := same_new (u := .lst ([.int (κ c)] ++ nats (row.2.map κ))) s7 hl4
        have ek8 := upd_old (u := .lst ([.int (κ c)] ++ nats (row.2.map κ))) ek7 hl4
        have eg8 := upd_old (u := .lst ([.int (κ c)] ++ nats (row.2.map κ))) eg7 hl4
        have el8 := upd_old (u := .lst ([.int (κ c)] ++ nats (row.2.map κ))) el7 hl4
        have e48 := upd_same (H := H7) (a := l4) (o := .lst ([.int (κ c)] ++ nats (row.2.map κ)))
        generalize upd H7 l4 _ = H8 at s8 ek8 eg8 el8 e48
        refine ⟨l4, _, rfl, .inl ⟨SqL.of e48, fun tp htp => ?_⟩⟩
        have s9 := same_new (u := .tup ([.int (κ c)] ++ nats (row.2.map κ))) s8 htp
        have ek9 := upd_old (u := .tup ([.int (κ c)] ++ nats (row.2.map κ))) ek8 htp
        have eg9 := upd_old (u := .tup ([.int (κ c)] ++ nats (row.2.map κ))) eg8 htp
        have el9 := upd_old (u := .tup ([.int (κ c)] ++ nats (row.2.map κ))) el8 htp
        have et := upd_same (H := H8) (a := tp) (o := .tup ([.int (κ c)] ++ nats (row.2.map κ)))
        have et9 : upd H8 tp (.tup ([.int (κ c)] ++ nats (row.2.map κ))) tp = some (.tup ((mark (tabOf x rs es) κ c).map kV)) := by rw [et, mark_row er lrow]; rfl
        generalize upd H8 tp _ = H9 at s9 ek9 eg9 el9 et9
        have lS : S.length ≤ c := by
          have := Sf.few_signs sg5
          rw [List.length_range] at this
          exact this
        have lel : (nats ((List.range c).map fun s => Tb.ix S (mark (tabOf x rs es) κ s))).length = c := by unfold nats; rw [List.length_map, List.length_map, List.length_range]
        refine ⟨_, rfl, .inl ⟨rfl, _, SqL.of el9⟩, _, rfl, .inr (.inr (.inl ⟨rfl, .inr ⟨_, eg9⟩⟩)), _, rfl, _, rfl, sg, _, rfl, eg9, sg, _, mark (tabOf x rs es) κ c, tp, _, rfl, rfl, eg9, et9, by rw [sD_len]; exact small_lt (by omega), fun v hv => ?_, fun hv => ?_⟩
        · have ms : mark (tabOf x rs es) κ c ∈ S := Classical.byContradiction fun z => by rw [sD_none 0 z] at hv; cases hv
          rw [sD_some 0 ms, Nat.zero_add] at hv
          cases hv
          refine ⟨lt, _, _, rfl, rfl, el9, by rw [lel]; exact small_lt (by omega), S, _, _, rfl, (upd_ne nkl).trans ek9, (upd_ne nsl).trans eg9, ?_, by rw [List.range_succ]; exact sg5.old ms, same_mut s9 fl⟩
          rw [upd_same, List.range_succ, List.map_append]
          unfold nats
          rw [List.map_append]
          rfl
        · have ms : mark (tabOf x rs es) κ c ∉ S := fun z => by rw [sD_some 0 z] at hv; cases hv
          rw [sD_len, sD_put ms]
          have eg10 := upd_same (H := H9) (a := sg) (o := .dT (sD (S ++ [mark (tabOf x rs es) κ c]) 0))
          have el10 := (upd_ne (H := H9) (o := .dT (sD (S ++ [mark (tabOf x rs es) κ c]) 0)) nsl.symm).trans el9
          have ek10 := (upd_ne (H := H9) (o := .dT (sD (S ++ [mark (tabOf x rs es) κ c]) 0)) nks).trans ek9
          have s10 := same_mut (u := .dT (sD (S ++ [mark (tabOf x rs es) κ c]) 0)) s9 fg
          generalize upd H9 sg _ = H10 at eg10 el10 ek10 s10
          refine ⟨lt, _, _, rfl, rfl, el10, by rw [lel]; exact small_lt (by omega), S ++ [mark (tabOf x rs es) κ c], _, _, rfl, (upd_ne nkl).trans ek10, (upd_ne nsl).trans eg10, ?_, by rw [List.range_succ]; exact sg5.new ms, same_mut s10 fl⟩
          have keep : (List.range c).map (fun s => Tb.ix S (mark (tabOf x rs es) κ s)) = (List.range c).map fun s => Tb.ix (S ++ [mark (tabOf x rs es) κ c]) (mark (tabOf x rs es) κ s) :=
            List.map_congr_left fun s hs => (Tb.ix_app _ (sg5.mem s hs)).symm
          rw [upd_same, List.range_succ, List.map_append, keep]
          have ixc : Tb.ix (S ++ [mark (tabOf x rs es) κ c]) (mark (tabOf x rs es) κ c) = S.length := Tb.ix_end ms
          unfold nats
          rw [List.map_append]
          show _ = some (HO.lst (_ ++ [V.int (Tb.ix (S ++ [mark (tabOf x rs es) κ c]) (mark (tabOf x rs es) κ c) : Nat)]))
          rw [ixc]
      · rintro σ' H5 ⟨S, y6, y10, rfl, ek, eg, el, sg5, s5⟩
        have fin : Tb.Finer (tabOf x rs es) (· < rs.length) κ (fun s => Tb.ix S (mark (tabOf x rs es) κ s)) := fun s t hs ht => by
          rw [← mark_inj]
          exact ⟨fun h => sg5.inj (List.mem_range.mpr hs) h (List.mem_range.mpr ht), fun h => by show Tb.ix S _ = Tb.ix S _; rw [h]⟩
        have inv2 := inv.step fin cl
        have lt2 : ∀ s, s < rs.length → Tb.ix S (mark (tabOf x rs es) κ s) < S.length := fun s hs => Tb.ix_lt (sg5.mem s (List.mem_range.mpr hs))
        have on2 : ∀ v, v < S.length → ∃ s, s < rs.length ∧ Tb.ix S (mark (tabOf x rs es) κ s) = v := fun v hv => let ⟨s, hs, e⟩ := sg5.onto hv; ⟨s, List.mem_range.mp hs, e⟩
        have few : S.length ≤ rs.length := by
          have := Sf.few_signs sg5
          rw [List.length_range] at this
          exact this
        have coarse : ∀ s t, s < rs.length → t < rs.length → Tb.ix S (mark (tabOf x rs es) κ s) = Tb.ix S (mark (tabOf x rs es) κ t) → κ s = κ t := fun s t hs ht h => ((fin s t hs ht).mp h).1
        have cnt : num ≤ S.length := by
          rcases hnum with z | ⟨_, z⟩
          · omega
          · exact Tb.le_many (S := (· < rs.length)) (fun v hv => z v hv) lt2 coarse
        have some0 : 0 < S.length := by
          have := lt2 0 n0
          omega
        refine ⟨_, rfl, ?_⟩
        refine ⟨_, rfl, sg, _, rfl, eg, _, rfl, rfl, _, rfl, ?_⟩
        rw [sD_len]
        refine ite2 (fun c => ?_) (fun c => ?_)
        · have c : S.length = num := by have := V.int.inj (of_decide_eq_true c); omega
          obtain ⟨z1, z2⟩ := hnum.resolve_left (by omega)
          have st := Tb.same_many (S := (· < rs.length)) (m := num) z1 z2 (fun s hs => c ▸ lt2 s hs) (fun v hv => on2 v (c ▸ hv)) coarse
          refine ⟨lt, _, S.length, _, _, _, _, _, _, rfl, el, Tb.stable inv fin cl st, lt2, on2, ?_, s5⟩
          rcases Nat.eq_zero_or_pos (Tb.ix S (mark (tabOf x rs es) κ 0)) with z | z
          · exact z
          · obtain ⟨j, _, hj, _⟩ := sg5.num 0 0 0 (range_at n0) z
            omega
        · have c : S.length ≠ num := fun z => c (decide_eq_true (by rw [z]))
          refine ⟨_, rfl, sg, _, rfl, eg, ?_⟩
          rw [sD_len]
          exact ⟨lt, _, S.length, _, _, _, _, _, rfl, el, inv2, .inr ⟨lt2, on2⟩, by omega, few, s5⟩
    · rintro σ' H3 ⟨kl, κ, num, x6, x7, x8, x9, x10, rfl, ek, inv, hnum, tnum, numN, s3⟩
      omega
  · rintro σ' H3 ⟨kl, κ, M, x5, x6, x7, x8, x9, x10, rfl, ek, keq, klt, kon, κ0, s3⟩
    have ok := tb.ok
    have NE : ∀ v, v < M → v ∈ (List.range rs.length).map κ := fun v hv => by
      obtain ⟨s, hs, e⟩ := kon v hv
      exact List.mem_map.mpr ⟨s, List.mem_range.mpr hs, e⟩
    have MN : M ≤ rs.length := by
      have := Tb.cover M _ NE
      rw [List.length_map, List.length_range] at this
      exact this
    have hf : ∀ v, v < M → ((List.range rs.length).map κ).idxOf v < rs.length ∧ κ (((List.range rs.length).map κ).idxOf v) = v := fun v hv => by
      have e := Tb.at_ix (NE v hv)
      have l := (List.getElem?_eq_some_iff.mp e).1
      rw [List.length_map, List.length_range] at l
      rw [at_kin l] at e
      exact ⟨l, Option.some.inj e⟩
    generalize hF : (fun v => ((List.range rs.length).map κ).idxOf v) = f at hf
    have hF : ∀ v, ((List.range rs.length).map κ).idxOf v = f v := fun v => congrFun hF v
    have hf : ∀ v, v < M → f v < rs.length ∧ κ (f v) = v := fun v hv => by have := hf v hv; rw [hF] at this; exact this
    obtain ⟨okC, redC, eqC⟩ := Tb.kin (A := tabOf x rs es) (k := κ) (f := f) (m := M) ok keq klt hf
    have M0 : 0 < M := by have := klt 0 n0; omega
    -- queue, found
    refine ⟨_, rfl, kl, _, 0, V.int (κ 0), rfl, rfl, SqL.of ek, atI_nat (j := 0) (by unfold nats; rw [List.getElem?_map, at_kin n0]; rfl), by show 1 ≤ sizeLine; decide, fun ql hql => ?_⟩
    refine ⟨by show 0 ≤ sizeLine; decide, fun fl hfl => ?_⟩
    refine ⟨by show 2 ≤ sizeLine; decide, fun tq htq => ?_⟩
    have q4 : upd H3 ql (.lst [.int (κ 0)]) ql = some (.lst (nats [0])) := by rw [upd_same, κ0]; rfl
    have nqf : ql ≠ fl := ne_of_none q4 hfl
    have nkq : kl ≠ ql := ne_of_none ek hql
    have nkf : kl ≠ fl := ne_of_none (upd_old ek hql) hfl
    have fq := same_none s3 hql
    have ff := same_none (same_new (u := .lst [.int (κ 0)]) s3 hql) hfl
    have s4 := same_new (u := .tup [.ref ql, .ref fl]) (same_new (u := .lst []) (same_new (u := .lst [.int (κ 0)]) s3 hql) hfl) htq
    have ek4 := upd_old (u := .tup [.ref ql, .ref fl]) (upd_old (u := .lst []) (upd_old (u := .lst [.int (κ 0)]) ek hql) hfl) htq
    have eq4 := upd_old (u := .tup [.ref ql, .ref fl]) (upd_old (u := .lst []) q4 hfl) htq
    have ef4 := upd_old (u := .tup [.ref ql, .ref fl]) (upd_same (H := upd H3 ql (.lst [.int (κ 0)])) (a := fl) (o := .lst [])) htq
    have et4 := upd_same (H := upd (upd H3 ql (.lst [.int (κ 0)])) fl (.lst [])) (a := tq) (o := .tup [.ref ql, .ref fl])
    generalize upd (upd (upd H3 ql _) fl _) tq _ = H4 at s4 ek4 eq4 ef4 et4
    refine ⟨tq, _, rfl, SqT.of et4, rfl, _, _, rfl, _, _, rfl, rfl, ?_⟩
    refine ⟨_, rfl, r, _, rfl, .inl (SqL.of (s4 _ _ sh.r)), _, rfl, by rw [lr]; omega, by rw [lr]; omega, ?_⟩
    rw [mt]
    have qle : ∀ {q : List Nat} {t b : Nat}, Tb.Part (Tb.kinTab (tabOf x rs es) κ f M) q t b → q.length ≤ M := fun pt => Tb.few pt.nd pt.lt
    refine for_range (lo := 0) (n := rs.length) (fun t σ' H' => ∃ (q : List Nat) (fr : Rows) (y7 y11 y14 : Option V), σ' = [some (.ref p), some (.str x), some (.ref r), some (.ref g), some (.ref kl), x5, x6, y7, x8, x9, x10, y11, some (.ref ql), some (.ref fl), y14] ∧
      H' kl = some (.lst (nats ((List.range rs.length).map κ))) ∧ H' ql = some (.lst (nats q)) ∧ H' fl = some (.lst (rrefs fr)) ∧ (∀ u ∈ fr, H' u.1 = some (.lst (nats u.2)) ∧ H u.1 = none ∧ u.1 ≠ ql ∧ u.1 ≠ fl) ∧ (fr.map (·.1)).Nodup ∧
      Tb.Part (Tb.kinTab (tabOf x rs es) κ f M) q fr.length 0 ∧ fr.length ≤ q.length ∧ (fr.length = t ∨ fr.length = q.length) ∧
      (∀ (j c : Nat) (u : Addr × List Nat), fr[j]? = some u → q[j]? = some c → u.2.length = x.length ∧ ∀ b v : Nat, u.2[b]? = some v → q[v]? = some ((Tb.kinTab (tabOf x rs es) κ f M).d c b)) ∧ Same H H')
      ⟨[0], [], _, _, _, rfl, ek4, eq4, ef4, nofun, List.nodup_nil, Tb.Part.start M0, Nat.zero_le _, .inl rfl, fun j c u z => (by cases z), s4⟩ ?_ ?_
    · rintro t σ' H5 ht ⟨q, fr, y7, y11, y14, rfl, ek5, eq5, ef5, rows, nd, pt, frq, prog, val, s5⟩
      have lq : (nats q).length = q.length := List.length_map ..
      have lf : (rrefs fr).length = fr.length := List.length_map ..
      have qM := qle pt
      refine ⟨_, rfl, fl, _, rfl, .inl (SqL.of ef5), _, rfl, ql, _, rfl, .inl (SqL.of eq5), _, _, rfl, rfl, _, rfl, ?_⟩
      rw [lq, lf]
      refine ite2 (fun c => ?_) (fun c => ?_)
      · have lt : fr.length < q.length := by have := of_decide_eq_true c; omega
        have frt : fr.length = t := prog.resolve_right (by omega)
        have ec : q[fr.length]? = some q[fr.length] := List.getElem?_eq_getElem lt
        have mc := List.getElem_mem lt
        generalize q[fr.length] = c at ec mc
        have cM : c < M := pt.lt c mc
        obtain ⟨fn, fk⟩ := hf c cM
        have er : rs[f c]? = some rs[f c] := List.getElem?_eq_getElem fn
        have mr := List.getElem_mem fn
        generalize rs[f c] = row at er mr
        obtain ⟨lrow, brow⟩ := tb.row row mr
        refine ⟨by show 0 ≤ sizeLine; decide, fun R hR => ?_⟩
        have nqR : ql ≠ R := ne_of_none eq5 hR
        have nfR : fl ≠ R := ne_of_none ef5 hR
        have nkR : kl ≠ R := ne_of_none ek5 hR
        have fR := same_none s5 hR
        have s6 := same_new (u := .lst []) s5 hR
        have ek6 := upd_old (u := .lst []) ek5 hR
        have eq6 := upd_old (u := .lst []) eq5 hR
        have ef6 := upd_old (u := .lst []) ef5 hR
        have eR6 := upd_same (H := H5) (a := R) (o := .lst [])
        have rows6 : ∀ u ∈ fr, upd H5 R (.lst []) u.1 = some (.lst (nats u.2)) ∧ H u.1 = none ∧ u.1 ≠ ql ∧ u.1 ≠ fl ∧ u.1 ≠ R := fun u hu => ⟨upd_old (rows u hu).1 hR, (rows u hu).2.1, (rows u hu).2.2.1, (rows u hu).2.2.2, ne_of_none (rows u hu).1 hR⟩
        generalize upd H5 R _ = H6 at s6 ek6 eq6 ef6 eR6 rows6
        have sh6 := sh.mono s6
        refine ⟨_, rfl, _, rfl, .inl ⟨rfl, _, SqL.of ek6⟩, _, rfl, _, rfl, fl, _, rfl, .inl (SqL.of ef6), ql, _, ((fr.length : Nat) : Int), V.int c, rfl, by rw [lf], SqL.of eq6, atI_nat (by unfold nats; rw [List.getElem?_map, ec]; rfl), ?_⟩
        refine ⟨kl, _, _, _, _, rfl, rfl, SqL.of ek6, rfl, flat_nats _, (ixV (NE c cM)).1, eqV_self _, (ixV (NE c cM)).2, ?_⟩
        rw [hF]
        refine ⟨r, _, (f c : Int), V.ref row.1, rfl, rfl, SqL.of sh6.r, atI_nat (by unfold rrefs; rw [List.getElem?_map, er]; rfl), row.1, rfl, ⟨_, SqL.of (sh6.q row mr)⟩, ?_⟩
        have lrow' : (nats row.2).length = x.length := by unfold nats; rw [List.length_map]; exact lrow
        refine for_list (xs := nats row.2) (fun j σ' H' => ∃ (q2 ns : List Nat) (y11 : Option V), σ' = [some (.ref p), some (.str x), some (.ref r), some (.ref g), some (.ref kl), x5, x6, some (.int t), x8, x9, x10, y11, some (.ref ql), some (.ref fl), some (.ref R)] ∧
          H' kl = some (.lst (nats ((List.range rs.length).map κ))) ∧ H' ql = some (.lst (nats q2)) ∧ H' fl = some (.lst (rrefs fr)) ∧ H' R = some (.lst (nats ns)) ∧ (∀ u ∈ fr, H' u.1 = some (.lst (nats u.2)) ∧ H u.1 = none ∧ u.1 ≠ ql ∧ u.1 ≠ fl ∧ u.1 ≠ R) ∧
          Tb.Part (Tb.kinTab (tabOf x rs es) κ f M) q2 fr.length j ∧ q2[fr.length]? = some c ∧ ns.length = j ∧ (∀ b v : Nat, ns[b]? = some v → q2[v]? = some ((Tb.kinTab (tabOf x rs es) κ f M).d c b)) ∧ (∀ i y : Nat, q[i]? = some y → q2[i]? = some y) ∧ Same H H')
          ⟨q, [], _, by rw [Int.zero_add]; rfl, ek6, eq6, ef6, eR6, rows6, pt, ec, rfl, fun b v z => (by cases z), fun i y e => e, s6⟩ (fun j σ' H' _ z => by obtain ⟨_, _, _, _, _, _, _, _, _, _, _, _, _, _, s'⟩ := z; exact SqL.of ((sh.mono s').q row mr)) ?_ ?_
        · rintro j v σ' H7 hv ⟨q2, ns, y11, rfl, ek7, eq7, ef7, eR7, rows7, pt7, ec7, lns, vals7, ext7, s7⟩
          unfold nats at hv
          obtain ⟨b, eb, rfl⟩ := map_at hv
          have bn : b < rs.length := brow b (List.mem_of_getElem? eb)
          have jx : j < x.length := by have := (List.getElem?_eq_some_iff.mp eb).1; omega
          have dc : (Tb.kinTab (tabOf x rs es) κ f M).d c j = κ b := by
            show κ ((tabOf x rs es).d (f c) j) = κ b
            rw [tab_d er eb]
          have q2M := qle pt7
          have atb : (nats ((List.range rs.length).map κ))[b]? = some (V.int (κ b)) := by unfold nats; rw [List.getElem?_map, at_kin bn]; rfl
          refine ⟨fun σ' H' => ∃ q3 : List Nat, σ' = [some (.ref p), some (.str x), some (.ref r), some (.ref g), some (.ref kl), x5, x6, some (.int t), x8, x9, x10, some (.int b), some (.ref ql), some (.ref fl), some (.ref R)] ∧
            H' kl = some (.lst (nats ((List.range rs.length).map κ))) ∧ H' ql = some (.lst (nats q3)) ∧ H' fl = some (.lst (rrefs fr)) ∧ H' R = some (.lst (nats ns)) ∧ (∀ u ∈ fr, H' u.1 = some (.lst (nats u.2)) ∧ H u.1 = none ∧ u.1 ≠ ql ∧ u.1 ≠ fl ∧ u.1 ≠ R) ∧
            Tb.Part (Tb.kinTab (tabOf x rs es) κ f M) q3 fr.length (j + 1) ∧ κ b ∈ q3 ∧ (∀ i y : Nat, q2[i]? = some y → q3[i]? = some y) ∧ Same H H', ?_, ?_⟩
          · refine ⟨_, rfl, _, rfl, kl, _, (b : Int), V.int (κ b), rfl, rfl, SqL.of ek7, atI_nat atb, _, rfl, ql, _, rfl, .inl (SqL.of eq7), rfl, flat_nats q2, ?_⟩
            rw [if_pos rfl, in_nats]
            refine ⟨_, rfl, ?_⟩
            refine ite2 (fun c' => ?_) (fun c' => ?_)
            · have nm : κ b ∉ q2 := of_decide_eq_false (bn_t c')
              refine ⟨_, rfl, .inl ⟨rfl, _, SqL.of eq7⟩, _, rfl, _, rfl, kl, _, (b : Int), V.int (κ b), rfl, rfl, SqL.of ek7, atI_nat atb, ql, _, _, rfl, rfl, eq7, by unfold nats; rw [List.length_map]; exact small_lt (by omega), ?_⟩
              refine ⟨q2 ++ [κ b], rfl, (upd_ne nkq).trans ek7, by rw [upd_same]; unfold nats; rw [List.map_append]; rfl, (upd_ne nqf.symm).trans ef7, (upd_ne nqR.symm).trans eR7, fun u hu => ⟨(upd_ne (rows7 u hu).2.2.1).trans (rows7 u hu).1, (rows7 u hu).2⟩, ?_, List.mem_append_right _ (List.mem_singleton.mpr rfl), fun i y e => ?_, same_mut s7 fq⟩
              · rw [← dc]
                exact pt7.new ec7 jx (okC.lt c j cM jx) (by rw [dc]; exact nm)
              · rw [List.getElem?_append_left (List.getElem?_eq_some_iff.mp e).1]
                exact e
            · have mem : κ b ∈ q2 := of_decide_eq_true (bn_f c')
              exact ⟨q2, rfl, ek7, eq7, ef7, eR7, rows7, pt7.old ec7 (by rw [dc]; exact mem), mem, fun i y e => e, s7⟩
          · rintro σ' H8 ⟨q3, rfl, ek8, eq8, ef8, eR8, rows8, pt8, mem8, ext8, s8⟩
            refine ⟨_, rfl, .inl ⟨rfl, _, SqL.of eR8⟩, _, rfl, .inl ⟨rfl, _, SqL.of eq8⟩, _, rfl, _, rfl, kl, _, (b : Int), V.int (κ b), rfl, rfl, SqL.of ek8, atI_nat atb, ?_⟩
            refine ⟨ql, _, _, _, _, rfl, rfl, SqL.of eq8, rfl, flat_nats _, (ixV mem8).1, eqV_self _, (ixV mem8).2, ?_⟩
            refine ⟨R, _, _, rfl, rfl, eR8, by unfold nats; rw [List.length_map]; exact small_lt (by omega), ?_⟩
            refine ⟨q3, ns ++ [q3.idxOf (κ b)], _, rfl, (upd_ne nkR).trans ek8, (upd_ne nqR).trans eq8, (upd_ne nfR).trans ef8, by rw [upd_same]; unfold nats; rw [List.map_append]; rfl, fun u hu => ⟨(upd_ne (rows8 u hu).2.2.2.2).trans (rows8 u hu).1, (rows8 u hu).2⟩, pt8, ext8 _ _ ec7, by rw [List.length_append, lns]; rfl, fun i v e => ?_, fun i y e => ext8 _ _ (ext7 _ _ e), same_mut s8 fR⟩
            rcases Nat.lt_or_ge i j with z | z
            · rw [List.getElem?_append_left (by omega)] at e
              exact ext8 _ _ (vals7 i v e)
            · have hi : i = j := by
                have := (List.getElem?_eq_some_iff.mp e).1
                rw [List.length_append] at this
                have : i < ns.length + 1 := this
                omega
              subst hi
              rw [List.getElem?_append_right (by omega), lns, Nat.sub_self] at e
              cases e
              rw [dc]
              exact Tb.at_ix mem8
        · rintro σ' H7 ⟨q2, ns, y11, rfl, ek7, eq7, ef7, eR7, rows7, pt7, ec7, lns, vals7, ext7, s7⟩
          rw [lrow'] at pt7 lns
          refine ⟨_, rfl, .inl ⟨rfl, _, SqL.of ef7⟩, _, rfl, fl, _, _, rfl, rfl, ef7, by rw [lf]; exact small_lt (by omega), ?_⟩
          have l1 := (List.getElem?_eq_some_iff.mp ec7).1
          have lfr : (fr ++ [(R, ns)]).length = fr.length + 1 := by rw [List.length_append]; rfl
          refine ⟨q2, fr ++ [(R, ns)], _, _, _, rfl, (upd_ne nkf).trans ek7, (upd_ne nqf).trans eq7, by rw [upd_same]; unfold rrefs; rw [List.map_append]; rfl, fun u hu => ?_, ?_, by rw [lfr]; exact pt7.next, by rw [lfr]; exact l1, .inl (by rw [lfr, frt]), fun j c2 u e1 e2 => ?_, same_mut s7 ff⟩
          · rcases List.mem_append.mp hu with z | z
            · obtain ⟨u1, u2, u3, u4, u5⟩ := rows7 u z
              exact ⟨(upd_ne u4).trans u1, u2, u3, u4⟩
            · rw [List.mem_singleton.mp z]
              exact ⟨(upd_ne nfR.symm).trans eR7, fR, nqR.symm, nfR.symm⟩
          · rw [List.map_append]
            refine List.nodup_append.mpr ⟨nd, List.nodup_cons.mpr ⟨nofun, List.nodup_nil⟩, fun y hy z hz e => ?_⟩
            obtain ⟨u, hu, rfl⟩ := List.mem_map.mp hy
            have hz := List.mem_singleton.mp hz
            rw [hz] at e
            exact (rows7 u hu).2.2.2.2 e
          · rcases Nat.lt_or_ge j fr.length with z | z
            · rw [List.getElem?_append_left z] at e1
              have ej : q[j]? = some q[j] := List.getElem?_eq_getElem (by omega)
              have := ext7 _ _ ej
              rw [e2] at this
              obtain ⟨v1, v2⟩ := val j _ u e1 ej
              exact ⟨v1, fun b v e => by rw [Option.some.inj this]; exact ext7 _ _ (v2 b v e)⟩
            · have hj : j = fr.length := by
                have := (List.getElem?_eq_some_iff.mp e1).1
                omega
              subst hj
              rw [List.getElem?_append_right (Nat.le_refl _), Nat.sub_self] at e1
              cases e1
              rw [ec7] at e2
              cases e2
              exact ⟨lns, vals7⟩
      · have ge : ¬ fr.length < q.length := fun z => c (decide_eq_true (by omega))
        exact ⟨q, fr, _, _, _, rfl, ek5, eq5, ef5, rows, nd, pt, frq, .inr (by omega), val, s5⟩
    · rintro σ' H5 ⟨q, fr, y7, y11, y14, rfl, ek5, eq5, ef5, rows, nd, pt, frq, prog, val, s5⟩
      have lq : (nats q).length = q.length := List.length_map ..
      have qM := qle pt
      have frq : fr.length = q.length := by omega
      have O := pt.order (Nat.le_of_eq frq.symm)
      refine ⟨_, rfl, _, rfl, _, rfl, ql, _, rfl, .inl (SqL.of eq5), _, rfl, by rw [lq]; omega, by rw [lq]; omega, fun G hG => ?_⟩
      have mq : (((nats q).length : Nat) : Int).toNat = q.length := lq
      rw [mq]
      refine lc_range (n := q.length) (fun i H' => H' = upd H5 G (.lst (nats ((List.range i).filter fun v => decide (f (q.getD v 0) ∈ es))))) rfl ?_ ?_
      · rintro i H6 hi rfl
        rw [Int.zero_add]
        have ei : q[i]? = some q[i] := List.getElem?_eq_getElem hi
        have gd : q.getD i 0 = q[i] := Tb.getD_at ei
        have ciM : q[i] < M := pt.lt _ (List.getElem_mem hi)
        have lfl : ((List.range i).filter fun v => decide (f (q.getD v 0) ∈ es)).length ≤ i := by
          have := List.length_filter_le (fun v => decide (f (q.getD v 0) ∈ es)) (List.range i)
          rw [List.length_range] at this
          exact this
        refine ⟨rfl, _, rfl, .inl ⟨rfl, _, SqL.of (upd_old ek5 hG)⟩, _, rfl, _, rfl, ql, _, (i : Int), V.int q[i], rfl, rfl, SqL.of (upd_old eq5 hG), atI_nat (by unfold nats; rw [List.getElem?_map, ei]; rfl), ?_⟩
        refine ⟨kl, _, _, _, _, rfl, rfl, SqL.of (upd_old ek5 hG), rfl, flat_nats _, (ixV (NE _ ciM)).1, eqV_self _, (ixV (NE _ ciM)).2, ?_⟩
        rw [hF]
        refine ⟨_, rfl, g, _, rfl, .inl (SqL.of (upd_old (s5 _ _ sh.g) hG)), rfl, flat_nats es, ?_⟩
        rw [if_neg (by decide), in_nats, List.range_succ, List.filter_append]
        refine ⟨_, rfl, ?_⟩
        refine ite2 (fun c => ?_) (fun c => ?_)
        · refine ⟨_, rfl, _, upd_same, by unfold nats; rw [List.length_map]; exact small_lt (by omega), ?_⟩
          rw [upd_upd, List.filter_cons_of_pos (by rw [gd]; exact c), List.filter_nil]
          unfold nats
          rw [List.map_append]
          rfl
        · rw [List.filter_cons_of_neg (by rw [gd]; exact c), List.filter_nil, List.append_nil]
      rintro H6 rfl
      generalize hes : (List.range q.length).filter (fun v => decide (f (q.getD v 0) ∈ es)) = es'
      have mem_es : ∀ v, v ∈ es' ↔ v < q.length ∧ f (q.getD v 0) ∈ es := fun v => by
        rw [← hes, List.mem_filter, List.mem_range]
        exact ⟨fun h => ⟨h.1, of_decide_eq_true h.2⟩, fun h => ⟨h.1, decide_eq_true h.2⟩⟩
      refine ⟨by show 3 ≤ sizeLine; decide, fun p' hp' => ?_⟩
      have q0 := (List.getElem?_eq_some_iff.mp O.first).1
      have rowOf : ∀ j c : Nat, q[j]? = some c → ∃ u, fr[j]? = some u ∧ u.2.length = x.length ∧ ∀ b v : Nat, u.2[b]? = some v → q[v]? = some ((Tb.kinTab (tabOf x rs es) κ f M).d c b) := fun j c e => by
        have jl := (List.getElem?_eq_some_iff.mp e).1
        have e1 := List.getElem?_eq_getElem (l := fr) (by omega : j < fr.length)
        obtain ⟨v1, v2⟩ := val j c _ e1 e
        exact ⟨_, e1, v1, v2⟩
      have T' : Tbl x fr es' := by
        refine ⟨tb.wd, tb.asc, by omega, by omega, fun u hu => ?_, by rw [← hes]; exact List.pairwise_lt_range.filter _, fun v hv => by have := (mem_es v).mp hv; omega⟩
        obtain ⟨j, hj, ej⟩ := List.getElem_of_mem hu
        obtain ⟨v1, v2⟩ := val j _ u (by rw [List.getElem?_eq_getElem hj, ej]) (List.getElem?_eq_getElem (by omega : j < q.length))
        refine ⟨v1, fun v hv => ?_⟩
        obtain ⟨b, hb, eb⟩ := List.getElem_of_mem hv
        have := (List.getElem?_eq_some_iff.mp (v2 b v (by rw [List.getElem?_eq_getElem hb, eb]))).1
        omega
      obtain ⟨L, E'⟩ := Tb.ren_least (A := Tb.kinTab (tabOf x rs es) κ f M) (B := tabOf x fr es') okC redC O rfl frq (fun i c b e hb => by
          have hb : b < x.length := hb
          obtain ⟨u, e1, v1, v2⟩ := rowOf i c e
          have e4 := List.getElem?_eq_getElem (l := u.2) (by omega : b < u.2.length)
          rw [tab_d e1 e4]
          exact v2 b _ e4) (fun i c e => by
          show decide (i ∈ es') = decide (f c ∈ es)
          rw [decide_eq_decide, mem_es, Tb.getD_at e]
          exact ⟨fun h => h.2, fun h => ⟨(List.getElem?_eq_some_iff.mp e).1, h⟩⟩)
      have E0 := eqC 0 n0
      rw [κ0] at E0
      exact kk p' fl G fr es' _ (same_new (same_new s5 hG) hp') ⟨ff, same_none s5 hG, ne_of_none ef5 hG, fun u hu => ⟨(rows u hu).2.1, (rows u hu).2.2.2, ne_of_none (rows u hu).1 hG⟩, nd⟩
        ⟨SqT.of upd_same, upd_old (upd_old ef5 hG) hp', upd_old upd_same hp', fun u hu => upd_old (upd_old (rows u hu).1 hG) hp'⟩ T' L (E0.trans (E' 0 0 O.first) rfl)
end
end K19

namespace Sf
open PySem PySem.Spec PyProof.Rows L2
/-! ### xs[:] = ys -/
theorem bounds_all (n : Nat) : sliceBounds none none none n = (0, (n : Int), 1) := by
  simp only [sliceBounds, Option.getD_none]
  rfl
section
variable {prog : Program} {w : World} {A : Around} {E : Value → Shared → Prop} {s : Shared}
theorem all_eq (its its2 : List Value) : its.toArray.extract 0 0 ++ its2.toArray ++ its.toArray.extract its.length its.toArray.size = its2.toArray := by
  apply Array.toList_inj.mp
  simp
theorem setItem_all {l b sl : Addr} {items new : Array Value} {n n2 : Nat} {Q : Unit → Shared → Prop}
    (e : s.heap.get? l = some { cls := .type "list", data := .seq items n }) (e2 : s.heap.get? b = some { cls := .type "list", data := .seq new n2 }) (hne : l ≠ b)
    (hs : s.heap.IsSliceOf sl .none .none .none) (hsz : items.size + new.size ≤ sizeLine)
    (h : Q () { s with heap := s.heap.update l (Obj.mapSeq fun xs => xs.extract 0 0 ++ new ++ xs.extract items.size xs.size) }) : wpAny (model prog w) A (setItem (.ref l) (.ref sl) (.ref b)) Q E s := by
  have hl : s.heap.IsList l items := PySem.IsL.isList e
  have hb : s.heap.IsList b new := PySem.IsL.isList e2
  obtain ⟨os, hos, hcs, hds⟩ := id hs
  have isS : s.TypeIs (.ref sl) "slice" := ⟨os, hos, hcs⟩
  have one : ¬ ((rawPart none == rawInt 0) = true) := Bool.false_ne_true
  have two : Builtin.List.listSameRef (.ref l) (.ref b) = false := by unfold Builtin.List.listSameRef; exact beq_eq_false_iff_ne.mpr hne
  have hz' : ((fun xs : Array Value => xs.extract 0 0 ++ new ++ xs.extract items.size xs.size) items).size ≤ sizeLine + 1 := by
    simp only [Array.size_append, Array.size_extract]; omega
  unfold setItem
  (try with_reducible refine wpAny_holding ?_); (first | refine wpAny_bind (wpAny_pure ?_) | skip)
  refine wpAny_bind (wpAny_sequenceKey hl.typeIs (by decide) ?_)
  apply wpAny_bind; apply wpAny_callSpecial?_slot (name := Str.ofString "__setitem__") hl.typeIs slot_list_setitem
  apply wpAny_call_entry slot_list_setitem hl.typeIs entry_list_setitem _ (args_list_setitem _ _ _)
  show wpAny _ _ (Builtin.List.listSubscript? (.ref sl) >>= _) _ _ s
  apply wpAny_bind; unfold Builtin.List.listSubscript?
  apply wpAny_bind; apply wpAny_specialOf isS slice_no_index
  (simp only [Option.isNone_none, if_true]); apply wpAny_pure
  show wpAny _ _ (typeOf (.ref sl) >>= _) _ _ s
  apply wpAny_bind; apply wpAny_typeOf isS
  (first | rw [if_neg (by decide)] | refine PySem.W.KFB.if_not (by decide) ?_); rw [listSliceParts_eq]
  refine wpAny_bind (wpAny_bind (wpAny_field hos hds (x := .none) rfl (wpAny_bind (wpAny_listPart .none ?_)))); rw [if_neg one]
  refine wpAny_bind (wpAny_field hos hds (x := .none) rfl (wpAny_bind (wpAny_listPart .none ?_)))
  refine wpAny_bind (wpAny_field hos hds (x := .none) rfl (wpAny_bind (wpAny_listPart .none (wpAny_pure ?_))))
  (first | simp only [two, Bool.false_eq_true, if_false] | refine PySem.W.KFB.if_not two ?_)
  apply wpAny_bind (m := Builtin.List.listAllItems (.ref b) "must assign iterable to extended slice"); unfold Builtin.List.listAllItems
  apply wpAny_bind; apply wpAny_typeOf hb.typeIs
  (first | refine PySem.W.KFB.if_so (by decide) ?_ | rw [if_pos (by decide)]); unfold Builtin.List.listItems
  apply wpAny_bind; apply wpAny_seqItems e2 rfl; apply wpAny_pure
  apply wpAny_bind; apply wpAny_bind; apply wpAny_seqItems e rfl; apply wpAny_pure
  apply wpAny_bind; apply wpAny_of_eq ((sliceIndices_raw none none none items.size (by simp)).trans (congrArg (pure : Int × Int × Int → Sem (Int × Int × Int)) (bounds_all items.size)))
  show wpAny _ _ (if ((1 : Int) == 1) = true then _ else _) _ _ s
  rw [if_pos (by decide)]; apply wpAny_bind; apply wpAny_rule
  (first | simp only [notLongL hsz, Bool.false_eq_true, if_false] | refine PySem.W.KFB.if_not (notLongL hsz) ?_)
  (first | refine wpAny_bind (wpAny_pure ?_) | skip)
  show wpAny _ _ (updateSeq l (fun xs => xs.extract 0 (0 : Int).toNat ++ new ++ xs.extract (max (0 : Int) (items.size : Int)).toNat xs.size) >>= _) _ _ s
  have hm : (max (0 : Int) (items.size : Int)).toNat = items.size := by omega
  rw [hm]
  apply wpAny_bind; apply wpAny_updateSeq (hz := Nat.le_trans (Nat.le_add_right _ _) hsz) (_hz' := hz') e rfl
  apply wpAny_bind; apply wpAny_letGo
  first
    | exact wpAny_bind (wpAny_pure (wpAny_pure ⟨_, rfl, wpAny_pure h⟩))
    | exact wpAny_pure ⟨_, rfl, wpAny_pure h⟩
end
section
variable {X : Cx}
theorem set_all {pins : List (Addr × Obj)} {s : Shared} {σ : L2.St} {H : Hp} {l b sl : Addr} {xs ys : List V} {Q : Unit → Shared → Prop} (I : L2.Inv X pins σ H s) (hH : H l = some (.lst xs)) (hB : H b = some (.lst ys)) (hne : l ≠ b)
    (hs : s.heap.IsSliceOf sl .none .none .none) (hz : xs.length + ys.length ≤ sizeLine) (h : ∀ s', L2.Inv X pins σ (upd H l (.lst ys)) s' → Q () s') : wpAny (model X.prog X.w) X.A (setItem (.ref l) (.ref sl) (.ref b)) Q X.xe s := by
  obtain ⟨z, its, n, r, hl, e⟩ := I.lstM hH
  obtain ⟨z2, its2, n2, r2, hl2, e2⟩ := I.lstM hB
  refine setItem_all e e2 hne hs (by rw [List.size_toArray, List.size_toArray]; omega) (h _ ?_)
  exact I.lset (its' := its2) (t' := s.toks) hH e (by rw [List.size_toArray]; exact all_eq its its2) r2 (by omega)
/-- o[:] = another list -/
def gAll (to : TE) : TG := fun v σ H Q => to σ H fun o H1 => ∃ (l b : Addr) (xs ys : List V), o = .ref l ∧ v = .ref b ∧ H1 l = some (.lst xs) ∧ H1 b = some (.lst ys) ∧ l ≠ b ∧ xs.length + ys.length ≤ sizeLine ∧ Q σ (upd H1 l (.lst ys))
theorem pg_all {o : Expr} {to : TE} {p2 pos : Pos} (ho : PE X o to)
    (ha : ∀ v, assign (.Subscript o (.Slice none none none p2) pos) X.env v = (do
      let ov ← holding [v] (eval o X.env); let iv ← holding [v, ov] (eval (.Slice none none none p2) X.env)
      standAt pos; holding [v, ov, iv] (setItem ov iv v); release [iv, v, ov] []) := by intro _; rfl) : PG X (.Subscript o (.Slice none none none p2) pos) (gAll to) := by
  constructor; intro pins s σ H v u Q I r h
  rw [ha]
  apply wpAny_bind; apply wpAny_holding; apply thn (ho.run pins s σ H _ I h)
  rintro ov s1 ⟨x, H1, I1, r1, l, b, xs, ys, rfl, rfl, e1, e2, ne, hz, q⟩
  cases r1
  cases r
  apply wpAny_bind; apply wpAny_holding; apply wpAny_Slice
  rw [evalPart_none]; apply wpAny_pure; apply wpAny_pure; apply wpAny_pure
  have I4 : L2.Inv X pins σ H1 { s1 with heap := s1.heap.push { cls := .type "slice", data := .fields #[.none, .none, .none] } } := I1.kept (t' := s1.toks) fun b ob q => Heap.get?_push_of_some _ q
  apply wpAny_bind; apply wpAny_standAt; apply wpAny_bind; apply wpAny_holding
  apply set_all I4 e1 e2 ne (Heap.IsSliceOf.new ..) hz
  intro s3 I3
  exact wpAny_release ⟨σ, _, I3, q⟩
end
end Sf

namespace Sf
open PySem PySem.Spec PyProof.Rows L2
/-! ### tables as data -/
def rowD (y : List Nat) : PyData := .list (natDat y)
def tblD (x : Str) (c : List (List Nat)) (es : List Nat) : PyData := .tuple [.str x, .list (c.map rowD), .list (natDat es)]
theorem dp_rows {K : PySem.W.Frag} {H : Hp} : ∀ {rs : Rows}, (∀ q ∈ rs, H q.1 = some (.lst (nats q.2))) → DpAll K H (rrefs rs) ((rs.map (·.2)).map rowD)
  | [], _ => .nil
  | q :: rs, h => .cons (.lst (SqL.of (h q List.mem_cons_self)) (dp_nats q.2)) (dp_rows fun u hu => h u (List.mem_cons_of_mem _ hu))
theorem Sh.dp {K : PySem.W.Frag} {H : Hp} {p r g : Addr} {x : Str} {rs : Rows} {es : List Nat} (h : Sh K H p r g x rs es) : Dp K H (.ref p) (tblD x (rs.map (·.2)) es) :=
  .tup h.p (.cons (.str x) (.cons (.lst (SqL.of h.r) (dp_rows h.q)) (.cons (.lst (SqL.of h.g) (dp_nats es)) .nil)))
/-- small enough to be shown -/
structure SmC (x : Str) (c : List (List Nat)) (es : List Nat) : Prop where
  wd : Wd 26 x
  c9 : c.length ≤ 1001
  e9 : es.length ≤ 1001
  row : ∀ y ∈ c, y.length ≤ 30 ∧ ∀ n ∈ y, n ≤ 10000
  e : ∀ n ∈ es, n ≤ 10000
theorem Tbl.sm {x : Str} {rs : Rows} {es : List Nat} (h : Tbl x rs es) : SmC x (rs.map (·.2)) es := by
  have n9 := h.n9
  have e9 := h.e9
  have xl := h.wd.len
  refine ⟨h.wd, by rw [List.length_map]; omega, by omega, fun y hy => ?_, fun n hn => by have := h.el n hn; omega⟩
  obtain ⟨q, hq, rfl⟩ := List.mem_map.mp hy
  obtain ⟨l, b⟩ := h.row q hq
  exact ⟨by omega, fun n hn => by have := b n hn; omega⟩
theorem SmC.sz {x : Str} {c : List (List Nat)} {es : List Nat} (h : SmC x c es) : Sz 3 1000000 (tblD x c es) := by
  have z1 : Sz 2 262 (.str x) := (Sz.str (k := 2) (n := 26) (fun d hd => Nat.lt_trans (h.wd.tx.ch d hd) (by decide)) h.wd.len).mono (Nat.le_refl _) (by decide)
  have z2 : Sz 2 800000 (.list (c.map rowD)) := by
    have b : SzAll 1 ((c.map rowD).length * (722 + 2)) (c.map rowD) := SzAll.of fun d hd => by
      obtain ⟨y, hy, rfl⟩ := List.mem_map.mp hd
      obtain ⟨l, m⟩ := h.row y hy
      exact (Sz.list (nats_sz 0 m)).mono (Nat.le_refl _) (by omega)
    rw [List.length_map] at b
    have c9 := h.c9
    exact (Sz.list b).mono (Nat.le_refl _) (by omega)
  have z3 : Sz 2 25000 (.list (natDat es)) := by
    have e9 := h.e9
    exact (Sz.list (nats_sz 1 h.e)).mono (Nat.le_refl _) (by omega)
  exact (Sz.tuple (SzAll.cons z1 (SzAll.cons z2 (SzAll.cons z3 .nil)))).mono (Nat.le_refl _) (by decide)
theorem lay_nats : ∀ ns : List Nat, PyData.canLayAll0 (natDat ns) = true
  | [] => rfl
  | n :: r => by
    show (PyData.canLay0 (.int (n : Int)) && PyData.canLayAll0 (natDat r)) = true
    rw [lay_nats r]
    simp only [PyData.canLay0]
    rfl
theorem lay_rows : ∀ c : List (List Nat), PyData.canLayAll0 (c.map rowD) = true
  | [] => rfl
  | y :: r => by
    show (PyData.canLay0 (.list (natDat y)) && PyData.canLayAll0 (r.map rowD)) = true
    rw [lay_rows r]
    simp only [PyData.canLay0]
    rw [lay_nats]
    rfl
theorem SmC.lay {x : Str} {c : List (List Nat)} {es : List Nat} (h : SmC x c es) : PyData.canLay0 (tblD x c es) = true := by
  unfold tblD
  simp only [PyData.canLay0, PyData.canLayAll0]
  rw [str_ok h.wd.tx.ch, lay_rows, lay_nats]
  rfl
theorem SmC.shaped {x : Str} {c : List (List Nat)} {es : List Nat} (h : SmC x c es) : SeqAt.shaped (tblD x c es) = true := by
  have d := h.sz.dp
  unfold SeqAt.shaped
  rw [h.lay, decide_eq_true (by omega)]
  rfl
theorem SmC.eqv {x : Str} {c : List (List Nat)} {es : List Nat} (h : SmC x c es) : PyData.eqv (tblD x c es) (tblD x c es) = true := SeqAt.eqv_refl _ h.lay
theorem SmC.rp {x : Str} {c : List (List Nat)} {es : List Nat} (h : SmC x c es) : (tblD x c es).showable = true ∧ (tblD x c es).shown.length ≤ sizeLine ∧ (tblD x c es).depth ≤ 60 :=
  ⟨h.sz.sh, Nat.le_trans h.sz.ln (by rw [sizeLine_eq]; decide), Nat.le_trans h.sz.dp (by decide)⟩
theorem tab_same {x : Str} {rs rs' : Rows} {es : List Nat} (h : rs'.map (·.2) = rs.map (·.2)) : tabOf x rs' es = tabOf x rs es := by
  have l : rs'.length = rs.length := by have := congrArg List.length h; rw [List.length_map, List.length_map] at this; exact this
  have g : ∀ s : Nat, (rs'[s]?).map (·.2) = (rs[s]?).map (·.2) := fun s => by
    have := congrArg (fun z : List (List Nat) => z[s]?) h
    rw [List.getElem?_map, List.getElem?_map] at this
    exact this
  unfold tabOf
  rw [l]
  congr 1
  funext s b
  rw [g]
theorem Tbl.same {x : Str} {rs rs' : Rows} {es : List Nat} (t : Tbl x rs es) (h : rs'.map (·.2) = rs.map (·.2)) : Tbl x rs' es := by
  have l : rs'.length = rs.length := by have := congrArg List.length h; rw [List.length_map, List.length_map] at this; exact this
  refine ⟨t.wd, t.asc, l ▸ t.n0, l ▸ t.n9, fun q hq => ?_, t.ea, l ▸ t.el⟩
  have : q.2 ∈ rs.map (·.2) := h ▸ List.mem_map.mpr ⟨q, hq, rfl⟩
  obtain ⟨q0, h0, e0⟩ := List.mem_map.mp this
  rw [l, ← e0]
  exact t.row q0 h0
/-- the same members, ascending: the same list -/
theorem asc_same : ∀ {a b : List Nat}, a.Pairwise (· < ·) → b.Pairwise (· < ·) → (∀ n, n ∈ a ↔ n ∈ b) → a = b
  | [], [], _, _, _ => rfl
  | [], y :: s, _, _, h => by have := (h y).mpr List.mem_cons_self; cases this
  | x :: r, [], _, _, h => by have := (h x).mp List.mem_cons_self; cases this
  | x :: r, y :: s, p, q, h => by
    obtain ⟨p1, p2⟩ := List.pairwise_cons.mp p
    obtain ⟨q1, q2⟩ := List.pairwise_cons.mp q
    have e : x = y := by
      have a := (h x).mp List.mem_cons_self
      have b := (h y).mpr List.mem_cons_self
      rcases List.mem_cons.mp a with z | z
      · exact z
      · rcases List.mem_cons.mp b with w | w
        · exact w.symm
        · have := q1 x z
          have := p1 y w
          omega
    subst e
    rw [asc_same p2 q2 fun n => ?_]
    constructor
    · intro m
      rcases List.mem_cons.mp ((h n).mp (List.mem_cons_of_mem _ m)) with z | z
      · have := p1 n m; omega
      · exact z
    · intro m
      rcases List.mem_cons.mp ((h n).mpr (List.mem_cons_of_mem _ m)) with z | z
      · have := q1 n m; omega
      · exact z
/-- least tables of the same language hold the same -/
theorem same_least {x : Str} {rs rs' : Rows} {es es' : List Nat} (T : Tbl x rs es) (T' : Tbl x rs' es') (L : Tb.Least (tabOf x rs es)) (L' : Tb.Least (tabOf x rs' es')) (e : Tb.Eqv (tabOf x rs es) 0 (tabOf x rs' es') 0) : rs.map (·.2) = rs'.map (·.2) ∧ es = es' := by
  obtain ⟨n, en, dd⟩ := Tb.Least.one L L' rfl e
  have n : rs.length = rs'.length := n
  refine ⟨List.ext_getElem (by rw [List.length_map, List.length_map, n]) fun i h1 h2 => ?_, asc_same T.ea T'.ea fun m => ?_⟩
  · rw [List.length_map] at h1 h2
    rw [List.getElem_map, List.getElem_map]
    obtain ⟨l1, _⟩ := T.row rs[i] (List.getElem_mem h1)
    obtain ⟨l2, _⟩ := T'.row rs'[i] (List.getElem_mem h2)
    refine List.ext_getElem (by rw [l1, l2]) fun j j1 j2 => ?_
    have := dd i j h1 (by show j < x.length; omega)
    rw [tab_d (List.getElem?_eq_getElem h1) (List.getElem?_eq_getElem j1), tab_d (List.getElem?_eq_getElem h2) (List.getElem?_eq_getElem j2)] at this
    exact this
  · by_cases z : m < rs.length
    · have := en m z
      exact decide_eq_decide.mp this
    · constructor
      · intro h; have := T.el m h; omega
      · intro h; have := T'.el m h; omega
end Sf

namespace K19
open PySem PySem.Spec PyProof.Rows L2 Sf
section
variable {P : Program} {w : World} {K : PySem.W.Frag} {mg : Str → Option Value} {base : Heap} {a : Ad}
theorem spoil_sm {x : Str} {rs : Rows} {es : List Nat} (h : Tbl x rs es) (w : Addr) : SmC x ((spoilR rs w).map (·.2)) (es ++ [99]) := by
  have e9 := h.e9
  have n := h.n9
  have xl := h.wd.len
  refine ⟨h.wd, ?_, ?_, fun y hy => ?_, fun m hm => ?_⟩
  · unfold spoilR
    rw [List.length_map, List.length_append, List.length_mapIdx]
    show _ + 1 ≤ _
    omega
  · rw [List.length_append]
    show _ + 1 ≤ _
    omega
  · rw [spoil_c] at hy
    unfold spoilC at hy
    rcases List.mem_append.mp hy with z | z
    · obtain ⟨j, hj, rfl⟩ := List.mem_mapIdx.mp z
      rw [List.length_map] at hj
      rw [List.getElem_map]
      obtain ⟨l, b⟩ := h.row rs[j] (List.getElem_mem hj)
      refine ⟨by rw [List.length_append, l]; show _ + 1 ≤ _; omega, fun m hm => ?_⟩
      rcases List.mem_append.mp hm with c | c
      · have := b m c; omega
      · rw [List.mem_singleton.mp c]; omega
    · rw [List.mem_singleton.mp z]
      exact ⟨by decide, fun m hm => by rw [List.mem_singleton.mp hm]; decide⟩
  · rcases List.mem_append.mp hm with z | z
    · have := h.el m z; omega
    · rw [List.mem_singleton.mp z]; decide
abbrev s_right : Stmt := top 27
theorem sc_right : FnScope ["sack", "letters", "sheet", "due", "handed", "found", "again", "mirror", "other_form", "bent"] ["sack"] (defScope s_right) := ⟨rfl, rfl, rfl, by decide +kernel, rfl, by decide +kernel, by decide +kernel⟩
def spRight (K : PySem.W.Frag) : Sp := fun vs H Q _ => ∃ (a : Addr) (n : Nat), vs = [.ref a] ∧ Sk n H a ∧ n ≤ 1000 ∧ ∀ H', Kp a H H' → Q (.bl true) H'
theorem ok_right {f : Addr} {fd fdC fd1 fd2 fd3 fd4 fd5 fd6 fd7 fd8 : FuncData} (F : Fun K "_law_right" "_law_right" s_right f fd) (T : Txt K mg a) (c_coin : Cal P w K mg base 1 a.coin fdC ["purse", "many"] spCoin)
    (c_qt_letters : Cal P w K mg base 2 a.qt_letters fd1 ["sack", "amount"] spLetters) (c_qt_sheet : Cal P w K mg base 2 a.qt_sheet fd2 ["sack", "letters", "high"] (spSheet K)) (c_qt_least : Cal P w K mg base 1 a.qt_least fd3 ["sheet"] (spLeastT K))
    (c_qt_copy : Cal P w K mg base 1 a.qt_copy fd4 ["sheet"] (spCopy K)) (c_least : CalX P w K mg base 4 a.least fd5 ["told"] (spLeastT K)) (kb_least : KBn K fd5 ["told"] 0 ["told"] (fun us ws => us ++ ws) (fun vs zs => vs ++ zs)) (c_qt_spoil : Cal P w K mg base 1 a.qt_spoil fd6 ["sheet"] (spSpoil K))
    (c_qt_renumbered : Cal P w K mg base 2 a.qt_renumbered fd7 ["sack", "sheet", "extra"] (spRenum K)) (c_qt_bent : Cal P w K mg base 2 a.qt_bent fd8 ["sack", "sheet"] (spBent K)) : Gd P w K mg base 5 f fd ["sack"] (spRight K) := by
  refine okG F sc_right (fun vs H Q E h => by obtain ⟨sk, n, rfl, _⟩ := h; rfl) (fun cdv A outer s H vs Q E hG hr h => ?_)
  have hr_coin := hr.mono (show 1 ≤ 4 by decide)
  have hr_qt_letters := hr.mono (show 2 ≤ 4 by decide)
  have hr_qt_sheet := hr.mono (show 2 ≤ 4 by decide)
  have hr_qt_least := hr.mono (show 1 ≤ 4 by decide)
  have hr_qt_copy := hr.mono (show 1 ≤ 4 by decide)
  have hr_least := hr
  have hr_qt_spoil := hr.mono (show 1 ≤ 4 by decide)
  have hr_qt_renumbered := hr.mono (show 2 ≤ 4 by decide)
  have hr_qt_bent := hr.mono (show 2 ≤ 4 by decide)
  refine ⟨_, (pss_cons (ps_set (i := 1) sc_right.nd rfl (Or.inl rfl) (pe_call c_qt_letters.ok hr_qt_letters rfl T.g_qt_letters T.k_qt_letters c_qt_letters.binds .nil pass0 (pa_cons (pv 0) (pa_cons (pe_ix ix_list (pe_lst (pa_cons pe_int (pa_cons pe_int (pa_cons pe_int (pa_cons pe_int (pa_cons pe_int (pa_cons pe_int (pa_cons pe_int pa_nil)))))))) (pe_call c_coin.ok hr_coin rfl T.g_coin T.k_coin c_coin.binds .nil pass0 (pa_cons (pv 0) (pa_cons pe_int pa_nil))) (fun _ _ => rfl)) pa_nil))))
      (pss_cons (ps_set (i := 2) sc_right.nd rfl (Or.inl rfl) (pe_call c_qt_sheet.ok hr_qt_sheet rfl T.g_qt_sheet T.k_qt_sheet c_qt_sheet.binds .nil pass0 (pa_cons (pv 0) (pa_cons (pv 1) (pa_cons (pe_ix ix_list (pe_lst (pa_cons pe_int (pa_cons pe_int (pa_cons pe_int pa_nil)))) (pe_call c_coin.ok hr_coin rfl T.g_coin T.k_coin c_coin.binds .nil pass0 (pa_cons (pv 0) (pa_cons pe_int pa_nil))) (fun _ _ => rfl)) pa_nil)))))
      (pss_cons (ps_par (i := 3) (j := 4) (by rfl) sc_right.nd rfl rfl (by decide) rfl rfl (pa_cons (pe_call c_qt_least.ok hr_qt_least rfl T.g_qt_least T.k_qt_least c_qt_least.binds .nil pass0 (pa_cons (pv 2) pa_nil)) (pa_cons (pe_call c_qt_copy.ok hr_qt_copy rfl T.g_qt_copy T.k_qt_copy c_qt_copy.binds .nil pass0 (pa_cons (pv 2) pa_nil)) pa_nil)) (by rfl))
      (pss_cons (ps_set (i := 5) sc_right.nd rfl (Or.inl rfl) (pe_call c_least.ok hr_least rfl T.g_least T.k_least c_least.binds .nil passL (pa_cons (pv 4) pa_nil)))
      (pss_cons (ps_if (PW.pt (pw_or (pt_cmpR op_ne (pe_callB (call_repr hG hr.units) (by rfl) T.b_repr (by decide +kernel) (pa_cons (pv 5) pa_nil)) (pe_callB (call_repr hG hr.units) (by rfl) T.b_repr (by decide +kernel) (pa_cons (pv 3) pa_nil)) (nomark _)) (pw_or1 (pt_cmpR (op_neD hr.units) (pv 4) (pv 2) (nomark _))))) (pss_one (ps_ret pe_bl)) pss_nil)
      (pss_cons (ps_set (i := 6) sc_right.nd rfl (Or.inl rfl) (pe_callKS c_least.ok hr_least rfl T.g_least T.k_least kb_least passLs (pk_cons (pv 5) pk_nil)))
      (pss_cons (ps_if (PW.pt (pw_or (pt_cmpR op_ne (pe_callB (call_repr hG hr.units) (by rfl) T.b_repr (by decide +kernel) (pa_cons (pv 6) pa_nil)) (pe_callB (call_repr hG hr.units) (by rfl) T.b_repr (by decide +kernel) (pa_cons (pv 3) pa_nil)) (nomark _)) (pw_or1 (pt_cmpR op_ne (pe_callB (call_repr hG hr.units) (by rfl) T.b_repr (by decide +kernel) (pa_cons (pv 5) pa_nil)) (pe_callB (call_repr hG hr.units) (by rfl) T.b_repr (by decide +kernel) (pa_cons (pv 3) pa_nil)) (nomark _))))) (pss_one (ps_ret pe_bl)) pss_nil)
      (pss_cons (ps_set (i := 7) sc_right.nd rfl (Or.inl rfl) (pe_call c_qt_copy.ok hr_qt_copy rfl T.g_qt_copy T.k_qt_copy c_qt_copy.binds .nil pass0 (pa_cons (pv 3) pa_nil)))
      (pss_cons (ps_expr (pe_call c_qt_spoil.ok hr_qt_spoil rfl T.g_qt_spoil T.k_qt_spoil c_qt_spoil.binds .nil pass0 (pa_cons (pv 6) pa_nil)))
      (pss_cons (ps_expr (pe_call c_qt_spoil.ok hr_qt_spoil rfl T.g_qt_spoil T.k_qt_spoil c_qt_spoil.binds .nil pass0 (pa_cons (pv 7) pa_nil)))
      (pss_cons (ps_if (PW.pt (pw_or (pt_cmpR op_ne (pe_callB (call_repr hG hr.units) (by rfl) T.b_repr (by decide +kernel) (pa_cons (pv 6) pa_nil)) (pe_callB (call_repr hG hr.units) (by rfl) T.b_repr (by decide +kernel) (pa_cons (pv 7) pa_nil)) (nomark _)) (pw_or1 (pt_cmpR op_ne (pe_callB (call_repr hG hr.units) (by rfl) T.b_repr (by decide +kernel) (pa_cons (pv 5) pa_nil)) (pe_callB (call_repr hG hr.units) (by rfl) T.b_repr (by decide +kernel) (pa_cons (pv 3) pa_nil)) (nomark _))))) (pss_one (ps_ret pe_bl)) pss_nil)
      (pss_cons (ps_set (i := 8) sc_right.nd rfl (Or.inl rfl) (pe_call c_qt_renumbered.ok hr_qt_renumbered rfl T.g_qt_renumbered T.k_qt_renumbered c_qt_renumbered.binds .nil pass0 (pa_cons (pv 0) (pa_cons (pv 2) (pa_cons pe_int pa_nil)))))
      (pss_cons (ps_if (pt_cmpR op_ne (pe_callB (call_repr hG hr.units) (by rfl) T.b_repr (by decide +kernel) (pa_cons (pe_call c_least.ok hr_least rfl T.g_least T.k_least c_least.binds .nil passL (pa_cons (pv 8) pa_nil)) pa_nil)) (pe_callB (call_repr hG hr.units) (by rfl) T.b_repr (by decide +kernel) (pa_cons (pv 3) pa_nil)) (nomark _)) (pss_one (ps_ret pe_bl)) pss_nil)
      (pss_cons (ps_set (i := 9) sc_right.nd rfl (Or.inl rfl) (pe_call c_qt_bent.ok hr_qt_bent rfl T.g_qt_bent T.k_qt_bent c_qt_bent.binds .nil pass0 (pa_cons (pv 0) (pa_cons (pv 4) pa_nil))))
      (pss_cons (ps_asg (pe_ix ix_tup (pv 9) pe_int (fun _ _ => rfl)) (pg_all (pe_ix ix_tup (pv 4) pe_int (fun _ _ => rfl))))
      (pss_cons (ps_asg (pe_ix ix_tup (pv 9) pe_int (fun _ _ => rfl)) (pg_all (pe_ix ix_tup (pv 4) pe_int (fun _ _ => rfl))))
      (pss_one (ps_ret (pe_and (pe_cmpR op_eq (pe_callB (call_repr hG hr.units) (by rfl) T.b_repr (by decide +kernel) (pa_cons (pe_call c_least.ok hr_least rfl T.g_least T.k_least c_least.binds .nil passL (pa_cons (pv 4) pa_nil)) pa_nil)) (pe_callB (call_repr hG hr.units) (by rfl) T.b_repr (by decide +kernel) (pa_cons (pe_call c_qt_least.ok hr_qt_least rfl T.g_qt_least T.k_qt_least c_qt_least.binds .nil pass0 (pa_cons (pv 9) pa_nil)) pa_nil)) (nomark _)) (pe_one (pe_cmpR op_eq (pe_callB (call_repr hG hr.units) (by rfl) T.b_repr (by decide +kernel) (pa_cons (pe_call c_least.ok hr_least rfl T.g_least T.k_least c_least.binds .nil passL (pa_cons (pv 2) pa_nil)) pa_nil)) (pe_callB (call_repr hG hr.units) (by rfl) T.b_repr (by decide +kernel) (pa_cons (pv 3) pa_nil)) (nomark _)))))))))))))))))))))), ?_⟩
  obtain ⟨sk, n, rfl, hsk, hn, k⟩ := h
  refine ⟨_, rfl, by show 7 ≤ sizeLine; decide, fun l1 hl1 => ?_⟩
  refine ⟨_, rfl, sk, n, _, rfl, hsk.new hl1, by omega, by decide, by decide, fun z H1 z0 z1 sk1 kp1 => ?_⟩
  obtain ⟨z, rfl⟩ := nat_of z0
  have em : ∃ m : Nat, ([V.int 2, V.int 3, V.int 1, V.int 6, V.int 4, V.int 0, V.int 5] : List V)[z]? = some (V.int m) ∧ m ≤ 6 := by
    have : z = 0 ∨ z = 1 ∨ z = 2 ∨ z = 3 ∨ z = 4 ∨ z = 5 ∨ z = 6 := by omega
    rcases this with rfl | rfl | rfl | rfl | rfl | rfl | rfl
    · exact ⟨2, rfl, by decide⟩
    · exact ⟨3, rfl, by decide⟩
    · exact ⟨1, rfl, by decide⟩
    · exact ⟨6, rfl, by decide⟩
    · exact ⟨4, rfl, by decide⟩
    · exact ⟨0, rfl, by decide⟩
    · exact ⟨5, rfl, by decide⟩
  obtain ⟨m, em, m6⟩ := em
  have kpa := ((Kp.refl sk H).new (o := .lst [.int 2, .int 3, .int 1, .int 6, .int 4, .int 0, .int 5]) hl1).trans kp1
  refine ⟨l1, _, (z : Int), V.int m, rfl, rfl, SqL.of (kp1 l1 _ (hsk.ne hl1) upd_same), atI_nat em, sk, n + 1, m, rfl, sk1, by omega, m6, fun x H2 sk2 kp2 wx lx ax => ?_⟩
  refine ⟨_, rfl, _, rfl, by show 3 ≤ sizeLine; decide, fun l2 hl2 => ?_⟩
  refine ⟨_, rfl, sk, _, _, rfl, sk2.new hl2, by omega, by decide, by decide, fun y H3 y0 y1 sk3 kp3 => ?_⟩
  obtain ⟨y, rfl⟩ := nat_of y0
  have eh : ∃ m : Nat, ([V.int 6, V.int 36, V.int 12] : List V)[y]? = some (V.int m) ∧ 1 ≤ m ∧ m ≤ 36 := by
    have : y = 0 ∨ y = 1 ∨ y = 2 := by omega
    rcases this with rfl | rfl | rfl
    · exact ⟨6, rfl, by decide, by decide⟩
    · exact ⟨36, rfl, by decide, by decide⟩
    · exact ⟨12, rfl, by decide, by decide⟩
  obtain ⟨hi, eh, hi1, hi36⟩ := eh
  have kpb := (kpa.trans (kp2.new (o := .lst [.int 6, .int 36, .int 12]) hl2)).trans kp3
  refine ⟨l2, _, (y : Int), V.int hi, rfl, rfl, SqL.of (kp3 l2 _ (sk2.ne hl2) upd_same), atI_nat eh, sk, _, hi, x, rfl, sk3, by omega, hi1, hi36, wx.mono (by decide), ax, fun p r g rs es H4 sk4 kp4 nt sh tb lm => ?_⟩
  have kpc := kpb.trans kp4
  -- what is due, what is handed in
  refine ⟨_, rfl, p, r, g, x, rs, es, rfl, sh, tb, fun pd rd gd rsd esd H5 s5 ntd shd tbd Ld Ed => ?_⟩
  refine ⟨_, rfl, p, r, g, x, rs, es, rfl, sh.mono s5, tb, fun ph rh gh rsh H6 s6 nth ech shh => ⟨_, _, rfl, ?_⟩⟩
  have tbh := tb.same ech
  have e1 : tabOf x rsh es = tabOf x rs es := tab_same ech
  refine ⟨_, rfl, ph, rh, gh, x, rsh, es, rfl, shh, tbh, fun pf rf gf rsf esf H7 s7 ntf shf tbf Lf Ef => ?_⟩
  rw [e1] at Ef
  obtain ⟨ef, rfl⟩ := same_least tbf tbd Lf Ld ((Ef.symm rfl).trans Ed rfl)
  have md := tbd.sm
  obtain ⟨rp1, rp2, rp3⟩ := md.rp
  have shd7 := shd.mono (s6.trans s7)
  have dd : ∀ {H'}, Same H5 H' → Dp K H' (.ref pd) (tblD x (rsd.map (·.2)) esf) := fun s' => (shd.mono s').dp
  have df : ∀ {H'}, Same H7 H' → Dp K H' (.ref pf) (tblD x (rsd.map (·.2)) esf) := fun s' => by have := (shf.mono s').dp; rw [ef] at this; exact this
  refine ⟨_, rfl, _, _, rfl, df (Same.refl _), rp1, rp2, rp3, _, rfl, _, _, rfl, dd (s6.trans s7), rp1, rp2, rp3, rfl, _, rfl, ?_⟩
  rw [decide_eq_true rfl]
  refine iteF ?_
  have dh := (shh.mono s7).dp
  rw [ech] at dh
  refine ⟨_, rfl, _, rfl, _, _, dh, (sh.mono ((s5.trans s6).trans s7)).dp, tb.sm.shaped, tb.sm.shaped, _, rfl, ?_⟩
  rw [tb.sm.eqv]
  refine iteF ?_
  refine ⟨_, rfl, rfl, pf, rf, gf, x, rsf, esf, rfl, shf, tbf, fun pa ra ga rsa esa H8 s8 nta sha tba La Ea => ?_⟩
  obtain ⟨ea, rfl⟩ := same_least tba tbd La Ld (((Ef.trans Ea rfl).symm rfl).trans Ed rfl)
  have da : ∀ {H'}, Same H8 H' → Dp K H' (.ref pa) (tblD x (rsd.map (·.2)) esa) := fun s' => by have := (sha.mono s').dp; rw [ea] at this; exact this
  have s58 := (s6.trans s7).trans s8
  refine ⟨_, rfl, _, _, rfl, da (Same.refl _), rp1, rp2, rp3, _, rfl, _, _, rfl, dd s58, rp1, rp2, rp3, rfl, _, rfl, ?_⟩
  rw [decide_eq_true rfl]
  refine iteF ?_
  refine ⟨_, rfl, _, _, rfl, df s8, rp1, rp2, rp3, _, rfl, _, _, rfl, dd s58, rp1, rp2, rp3, rfl, _, rfl, ?_⟩
  rw [decide_eq_true rfl]
  refine iteF ?_
  -- the mirror, then both are spoiled
  refine ⟨_, rfl, pd, rd, gd, x, rsd, esa, rfl, shd.mono s58, tbd, fun pm rm gm rsm H9 s9 ntm ecm shm => ?_⟩
  have tbm := tbd.same ecm
  -- places: those of each new table are free ahead of it
  have fr : ∀ {S : Hp} {r' g' : Addr} {rs' : Rows}, NewT S r' g' rs' → ∀ b ∈ r' :: g' :: rs'.map (·.1), S b = none := fun {S r' g' rs'} nt b hb => by
    rcases List.mem_cons.mp hb with z | hb
    · rw [z]; exact nt.hr
    · rcases List.mem_cons.mp hb with z | hb
      · rw [z]; exact nt.hg
      · obtain ⟨q, hq, rfl⟩ := List.mem_map.mp hb
        exact (nt.hq q hq).1
  have at_ : ∀ {S : Hp} {p' r' g' : Addr} {rs' : Rows} {es' : List Nat}, Sh K S p' r' g' x rs' es' → ∀ b ∈ r' :: g' :: rs'.map (·.1), ∃ ys, S b = some (.lst ys) := fun {S p' r' g' rs' es'} sh b hb => by
    rcases List.mem_cons.mp hb with z | hb
    · exact ⟨_, z ▸ sh.r⟩
    · rcases List.mem_cons.mp hb with z | hb
      · exact ⟨_, z ▸ sh.g⟩
      · obtain ⟨q, hq, rfl⟩ := List.mem_map.mp hb
        exact ⟨_, sh.q q hq⟩
  have sz : ∀ {rs' : Rows} {es' : List Nat}, Tbl x rs' es' → ∀ q ∈ rs', q.2.length ≤ 1000 := fun {rs' es'} t q hq => by
    have := t.wd.len
    have := (t.row q hq).1
    omega
  have sha9 := sha.mono s9
  refine ⟨_, rfl, pa, ra, ga, x, rsa, esa, rfl, sha9, tba.n9, tba.e9, sz tba, nta.rg, fun q hq => (nta.hq q hq).2, nta.nd, fun w1 H10 hw1 bt1 sha10 => ?_⟩
  have s710 : Same H7 H10 := bt1.same (s8.trans s9) (fr nta)
  -- the mirror stands apart from what was spoiled
  have ap : ∀ b ∈ rm :: gm :: rsm.map (·.1), b ∉ ra :: ga :: rsa.map (·.1) := fun b hb hc => by
    have := fr ntm b hb
    obtain ⟨ys, e⟩ := at_ sha b hc
    rw [e] at this
    cases this
  have shm10 : Sh K H10 pm rm gm x rsm esa := ⟨bt1.tup (at_ sha9) shm.p, bt1 _ _ (ap _ List.mem_cons_self) shm.r, bt1 _ _ (ap _ (List.mem_cons_of_mem _ List.mem_cons_self)) shm.g, fun q hq => bt1 _ _ (ap _ (List.mem_cons_of_mem _ (List.mem_cons_of_mem _ (List.mem_map.mpr ⟨q, hq, rfl⟩)))) (shm.q q hq)⟩
  refine ⟨_, rfl, pm, rm, gm, x, rsm, esa, rfl, shm10, tbm.n9, tbm.e9, sz tbm, ntm.rg, fun q hq => (ntm.hq q hq).2, ntm.nd, fun w2 H11 hw2 bt2 shm11 => ?_⟩
  have s711 : Same H7 H11 := bt2.same s710 fun b hb => same_none s8 (fr ntm b hb)
  have ap2 : ∀ b, (∃ o, H8 b = some o) → b ∉ rm :: gm :: rsm.map (·.1) := fun b ⟨o, e⟩ hb => by
    rw [fr ntm b hb] at e
    cases e
  have w1m : w1 ∉ rm :: gm :: rsm.map (·.1) := fun hb => by
    obtain ⟨ys, e⟩ := at_ shm w1 hb
    rw [e] at hw1
    cases hw1
  have sha11 : Sh K H11 pa ra ga x (spoilR rsa w1) (esa ++ [99]) := by
    refine ⟨bt2.tup (at_ shm10) sha10.p, bt2 _ _ (ap2 _ ⟨_, sha.r⟩) sha10.r, bt2 _ _ (ap2 _ ⟨_, sha.g⟩) sha10.g, fun q hq => ?_⟩
    refine bt2 _ _ ?_ (sha10.q q hq)
    unfold spoilR at hq
    rcases List.mem_append.mp hq with z | z
    · obtain ⟨j, hj, rfl⟩ := List.mem_mapIdx.mp z
      exact ap2 _ ⟨_, sha.q rsa[j] (List.getElem_mem hj)⟩
    · rw [List.mem_singleton.mp z]
      exact w1m
  have sm1 := spoil_sm tba w1
  obtain ⟨rq1, rq2, rq3⟩ := sm1.rp
  have dm11 := shm11.dp
  have cm : (spoilR rsm w2).map (·.2) = (spoilR rsa w1).map (·.2) := by rw [spoil_c, spoil_c, ecm, ea]
  rw [cm] at dm11
  refine ⟨_, rfl, _, _, rfl, sha11.dp, rq1, rq2, rq3, _, rfl, _, _, rfl, dm11, rq1, rq2, rq3, rfl, _, rfl, ?_⟩
  rw [decide_eq_true rfl]
  refine iteF ?_
  have s511 : Same H5 H11 := (s6.trans s7).trans s711
  refine ⟨_, rfl, _, _, rfl, df s711, rp1, rp2, rp3, _, rfl, _, _, rfl, dd s511, rp1, rp2, rp3, rfl, _, rfl, ?_⟩
  rw [decide_eq_true rfl]
  refine iteF ?_
  -- another form
  have sk5 := sk_same sk4 s5
  have sk11 := sk_same sk5 s511
  obtain ⟨oS, hS⟩ := sk3.at
  have ofS : ∀ {b}, H3 b = none → b ≠ sk := fun {b} hb z => by rw [z, hS] at hb; cases hb
  obtain ⟨oS4, hS4⟩ := sk4.at
  have ofS4 : ∀ {b}, H4 b = none → b ≠ sk := fun {b} hb z => by rw [z, hS4] at hb; cases hb
  obtain ⟨oS5, hS5⟩ := sk5.at
  have ofS5 : ∀ {b}, H5 b = none → b ≠ sk := fun {b} hb z => by rw [z, hS5] at hb; cases hb
  have sh11 := sh.mono (s5.trans s511)
  refine ⟨_, rfl, _, rfl, sk, p, r, g, _, 4, x, rs, es, rfl, sk11, by omega, sh11, tb, by omega, by decide, ofS nt.hr, ofS nt.hg, fun q hq => ofS (nt.hq q hq).1, fun po ro go rso eso H12 sk12 kp12 nto sho tbo lo Eo => ?_⟩
  refine ⟨_, rfl, po, ro, go, x, rso, eso, rfl, sho, tbo, fun pl rl gl rsl esl H13 s13 ntl shl tbl Ll El => ?_⟩
  obtain ⟨el, rfl⟩ := same_least tbl tbd Ll Ld (((Eo.trans El rfl).symm rfl).trans Ed rfl)
  have dl := shl.dp
  rw [el] at dl
  have kp513 : Kp sk H5 H13 := kp_same ((kp_same (Kp.refl sk H5) s511).trans kp12) s13
  have shd13 := shd.kp kp513 sk5 (ofS4 ntd.hr) (ofS4 ntd.hg) fun q hq => ofS4 (ntd.hq q hq).1
  refine ⟨_, _, rfl, dl, rp1, rp2, rp3, _, rfl, _, _, rfl, shd13.dp, rp1, rp2, rp3, rfl, _, rfl, ?_⟩
  rw [decide_eq_true rfl]
  refine iteF ?_
  -- a near one, put in place of what was handed in
  have sk13 := sk_same sk12 s13
  have shh11 := shh.mono (s7.trans s711)
  have shh13 := (shh11.kp kp12 sk11 (ofS5 nth.hr) (ofS5 nth.hg) fun q hq => ofS5 (nth.hq q hq).1).mono s13
  have lh : rsh.length = rs.length := by have := congrArg List.length ech; rw [List.length_map, List.length_map] at this; exact this
  refine ⟨_, rfl, _, rfl, sk, ph, rh, gh, _, x, rsh, es, rfl, sk13, by omega, shh13, tbh, by omega, fun pb rb gb rsb esb H14 sk14 kp14 ntb shb tbb lb => ?_⟩
  have shh14 := shh13.kp kp14 sk13 (ofS5 nth.hr) (ofS5 nth.hg) fun q hq => ofS5 (nth.hq q hq).1
  have frb := fr ntb
  have nb : ∀ b, (∃ o, H13 b = some o) → b ∉ rb :: gb :: rsb.map (·.1) := fun b ⟨o, e⟩ hb => by rw [frb b hb] at e; cases e
  have rhb : rh ≠ rb := fun z => nb rh ⟨_, shh13.r⟩ (by rw [z]; exact List.mem_cons_self)
  have ghb : gh ≠ gb := fun z => nb gh ⟨_, shh13.g⟩ (by rw [z]; exact List.mem_cons_of_mem _ List.mem_cons_self)
  have rhg : rh ≠ gb := fun z => nb rh ⟨_, shh13.r⟩ (by rw [z]; exact List.mem_cons_of_mem _ List.mem_cons_self)
  have ghr : gh ≠ rb := fun z => nb gh ⟨_, shh13.g⟩ (by rw [z]; exact List.mem_cons_self)
  have rwb : ∀ q ∈ rsb, q.1 ≠ rh ∧ q.1 ≠ gh := fun q hq => ⟨fun z => nb rh ⟨_, shh13.r⟩ (by rw [← z]; exact List.mem_cons_of_mem _ (List.mem_cons_of_mem _ (List.mem_map.mpr ⟨q, hq, rfl⟩))), fun z => nb gh ⟨_, shh13.g⟩ (by rw [← z]; exact List.mem_cons_of_mem _ (List.mem_cons_of_mem _ (List.mem_map.mpr ⟨q, hq, rfl⟩)))⟩
  have l1 : (rrefs rsh).length + (rrefs rsb).length ≤ sizeLine := by
    unfold rrefs
    rw [List.length_map, List.length_map]
    have := tbh.n9
    have := tbb.n9
    exact small_line (by omega)
  have l2 : (nats es).length + (nats esb).length ≤ sizeLine := by
    unfold nats
    rw [List.length_map, List.length_map]
    have := tbh.e9
    have := tbb.e9
    exact small_line (by omega)
  refine ⟨_, rfl, pb, _, 1, V.ref rb, rfl, rfl, shb.p, atI_nat (j := 1) rfl, _, rfl, ph, _, 1, V.ref rh, rfl, rfl, shh14.p, atI_nat (j := 1) rfl, rh, rb, _, _, rfl, rfl, shh14.r, shb.r, rhb, l1, ?_⟩
  have isL : ∀ b ∈ [rh, gh], ∃ ys, H14 b = some (.lst ys) := fun b hb => by
    rcases List.mem_cons.mp hb with z | hb
    · exact ⟨_, z ▸ shh14.r⟩
    · rw [List.mem_singleton.mp hb]
      exact ⟨_, shh14.g⟩
  have bt15 : But [rh, gh] H14 (upd H14 rh (.lst (rrefs rsb))) := (But.refl _ _).mut List.mem_cons_self
  have g15 : upd H14 rh (.lst (rrefs rsb)) gh = some (.lst (nats es)) := (upd_ne nth.rg.symm).trans shh14.g
  have b15 : upd H14 rh (.lst (rrefs rsb)) gb = some (.lst (nats esb)) := (upd_ne rhg.symm).trans shb.g
  have r15 := upd_same (H := H14) (a := rh) (o := .lst (rrefs rsb))
  generalize upd H14 rh _ = H15 at bt15 g15 b15 r15
  refine ⟨_, rfl, pb, _, 2, V.ref gb, rfl, rfl, bt15.tup isL shb.p, atI_nat (j := 2) rfl, _, rfl, ph, _, 2, V.ref gh, rfl, rfl, bt15.tup isL shh14.p, atI_nat (j := 2) rfl, gh, gb, _, _, rfl, rfl, g15, b15, ghb, l2, ?_⟩
  have bt16 : But [rh, gh] H14 (upd H15 gh (.lst (nats esb))) := bt15.mut (List.mem_cons_of_mem _ (List.mem_singleton.mpr rfl))
  have r16 : upd H15 gh (.lst (nats esb)) rh = some (.lst (rrefs rsb)) := (upd_ne nth.rg).trans r15
  have g16 := upd_same (H := H15) (a := gh) (o := .lst (nats esb))
  generalize upd H15 gh _ = H16 at bt16 r16 g16
  have out : ∀ {b : Addr}, b ≠ rh → b ≠ gh → b ∉ [rh, gh] := fun h1 h2 m => by
    rcases List.mem_cons.mp m with z | m
    · exact h1 z
    · exact h2 (List.mem_singleton.mp m)
  have rows16 : ∀ q ∈ rsb, H16 q.1 = some (.lst (nats q.2)) := fun q hq => bt16 _ _ (out (rwb q hq).1 (rwb q hq).2) (shb.q q hq)
  have shH : Sh K H16 ph rh gh x rsb esb := ⟨bt16.tup isL shh14.p, r16, g16, rows16⟩
  have shB : Sh K H16 pb rb gb x rsb esb := ⟨bt16.tup isL shb.p, bt16 _ _ (out rhb.symm ghr.symm) shb.r, bt16 _ _ (out rhg.symm ghb.symm) shb.g, rows16⟩
  have fh : ∀ b ∈ [rh, gh], H5 b = none := fun b hb => by
    rcases List.mem_cons.mp hb with z | hb
    · rw [z]; exact nth.hr
    · rw [List.mem_singleton.mp hb]; exact nth.hg
  have kp516 : Kp sk H5 H16 := bt16.kp (kp513.trans kp14) fh
  refine ⟨_, rfl, ph, rh, gh, x, rsb, esb, rfl, shH, tbb, fun p1 r1 g1 rs1 es1 H17 s17 nt1 sh1 tb1 L1 E1 => ?_⟩
  have m1 := tb1.sm
  obtain ⟨u1, u2, u3⟩ := m1.rp
  refine ⟨_, _, rfl, sh1.dp, u1, u2, u3, _, rfl, pb, rb, gb, x, rsb, esb, rfl, shB.mono s17, tbb, fun p2 r2 g2 rs2 es2 H18 s18 nt2 sh2 tb2 L2 E2 => ?_⟩
  obtain ⟨e2, rfl⟩ := same_least tb2 tb1 L2 L1 ((E2.symm rfl).trans E1 rfl)
  have d2 := sh2.dp
  rw [e2] at d2
  refine ⟨_, _, rfl, d2, u1, u2, u3, rfl, _, rfl, ?_⟩
  rw [decide_eq_true rfl]
  refine iteT ?_
  have kp518 : Kp sk H5 H18 := kp_same (kp_same kp516 s17) s18
  have sh18 := (sh.mono s5).kp kp518 sk5 (ofS nt.hr) (ofS nt.hg) fun q hq => ofS (nt.hq q hq).1
  have shd18 := shd.kp kp518 sk5 (ofS4 ntd.hr) (ofS4 ntd.hg) fun q hq => ofS4 (ntd.hq q hq).1
  refine ⟨_, rfl, p, r, g, x, rs, es, rfl, sh18, tb, fun p3 r3 g3 rs3 es3 H19 s19 nt3 sh3 tb3 L3 E3 => ?_⟩
  obtain ⟨e3, rfl⟩ := same_least tb3 tbd L3 Ld ((E3.symm rfl).trans Ed rfl)
  have d3 := sh3.dp
  rw [e3] at d3
  refine ⟨_, _, rfl, d3, rp1, rp2, rp3, _, rfl, _, _, rfl, (shd18.mono s19).dp, rp1, rp2, rp3, rfl, ?_⟩
  rw [decide_eq_true rfl]
  exact k H19 (kp_same ((kp_same kpc s5).trans kp518) s19)
end
end K19

namespace K19
open PySem PySem.Spec PyProof.Rows L2 Sf
section
variable {P : Program} {w : World} {K : PySem.W.Frag} {mg : Str → Option Value} {base : Heap} {a : Ad}
abbrev s_copied : Stmt := top 10
theorem sc_copied : FnScope ["told", "part"] ["told"] (defScope s_copied) := ⟨rfl, rfl, rfl, by decide +kernel, rfl, by decide +kernel, by decide +kernel⟩
/-- a def that is never called here -/
theorem ok_no {x qual : Str} {st : Stmt} {ps : List Str} {f : Addr} {fd : FuncData} (F : Fun K x qual st f fd) : FnOk P w K mg base CX0 1 f fd ps spNo :=
  ⟨fun _ _ _ _ h => h.elim, fun _ _ _ _ _ _ _ _ _ _ _ _ _ h => h.elim⟩
abbrev s_purse : Stmt := top 18
theorem sc_purse : FnScope ["script", "place", "cell"] ["script", "place"] (defScope s_purse) := ⟨rfl, rfl, rfl, by decide +kernel, rfl, by decide +kernel, by decide +kernel⟩
def spPurse (K : PySem.W.Frag) : Sp := fun vs H Q _ => ∃ (a : Addr) (ns : List Int) (s : Nat), vs = [.ref a, .int s] ∧ SqL K H a (ns.map V.int) ∧ ns.length ≤ 63 ∧ (∀ z ∈ ns, Builtin.Int.intBits z ≤ 1048576) ∧ s ≤ 100 ∧
  ∀ p H', H p = none → Sk 0 H' p → Kp p H H' → Q (.ref p) H'
theorem ok_purse {f : Addr} {fd : FuncData} (F : Fun K "_law_purse" "_law_purse" s_purse f fd) (T : Txt K mg a) : FnOk P w K mg base CX0 1 f fd ["script", "place"] (spPurse K) := by
  refine F.ok sc_purse (fun vs H Q E h => by obtain ⟨a, ns, s, rfl, _⟩ := h; rfl) (fun cdv A outer s H vs Q E hr h => ?_)
  refine ⟨_, (pss_cons (ps_set (i := 2) sc_purse.nd rfl (Or.inl rfl) (pe_ifExp (pt_cmpR op_lt (pv 1) (pe_callB call_len_seq (by rfl) T.b_len PySem.boot_len (pa_cons (pv 0) pa_nil)) (nomark _)) (pe_ix ix_list (pv 0) (pv 1) (fun _ _ => rfl)) pe_int))
      (pss_one (ps_ret (pe_lst (pa_cons (pe_callB (call_max2 rfl) (by rfl) T.b_max (by decide +kernel) (pa_cons pe_int (pa_cons (pe_op op_sub (pe_callB call_abs (by rfl) T.b_abs (by decide +kernel) (pa_cons (pv 2) pa_nil)) (pe_op op_powX pe_int pe_int)) pa_nil))) (pa_cons (pe_op op_mod (pe_callTy call_int1 (by rfl) T.b_int (by decide +kernel) (pa_cons (pe_op op_add (pe_op op_add (pe_op op_mulX (pv 2) pe_int) (pe_op op_mulX (pv 1) pe_int)) pe_int) pa_nil)) (pe_op op_add (pe_op op_powX pe_int pe_int) pe_int)) (pa_cons pe_int pa_nil))))))), ?_⟩
  obtain ⟨a, ns, s, rfl, hS, hl, hb, hs, k⟩ := h
  have lit : Builtin.Int.intBits 30011 ≤ 15 := bits_le (by decide)
  have lit2 : Builtin.Int.intBits 7368787 ≤ 23 := bits_le (by decide)
  have lit3 : Builtin.Int.intBits (s : Int) ≤ 7 := bits_in (by omega) (by omega)
  have z0 : Builtin.Int.intBits 0 ≤ 1048576 := by decide
  refine ⟨_, rfl, _, rfl, a, _, rfl, .inl hS, _, _, rfl, rfl, _, rfl, ?_⟩
  rw [List.length_map]
  have cell : ∀ x : Nat, (h : x < ns.length) → Builtin.Int.intBits ns[x] ≤ 1048576 := fun x h => hb _ (List.getElem_mem h)
  refine ite2 (fun c => ?_) (fun c => ?_)
  · have lt : s < ns.length := by
      have := of_decide_eq_true c
      omega
    have hm : ns[s]? = some ns[s] := List.getElem?_eq_getElem lt
    have z0 := cell s lt
    refine ⟨_, rfl, _, rfl, a, _, s, .int ns[s], rfl, rfl, hS, atI_nat (by rw [List.getElem?_map, hm]; rfl), ?_⟩
    refine ⟨_, rfl, _, rfl, _, _, rfl, rfl, ⟨by decide, pow_ok (n := 4) (by decide) (by decide) (by decide) (by decide)⟩, _, _, rfl, rfl, _, _, rfl, ?_⟩
    refine ⟨_, rfl, _, _, rfl, rfl, (by show _ + _ ≤ _; omega), _, rfl, _, _, rfl, rfl, (by show _ + _ ≤ _; omega), _, _, rfl, rfl, _, _, rfl, rfl, .inl ⟨_, rfl, ?_⟩⟩
    refine ⟨_, _, rfl, rfl, ⟨by decide, pow_ok (n := 4) (by decide) (by decide) (by decide) (by decide)⟩, _, _, rfl, rfl, _, _, rfl, rfl, (by show (0 : Int) < _; decide), ?_⟩
    refine ⟨by show 3 ≤ sizeLine; decide, fun p hp => ?_⟩
    refine k p _ hp ⟨_, _, _, upd_same, Int.emod_nonneg _ (by decide), Int.lt_of_lt_of_le (Int.emod_lt_of_pos _ (by decide)) (by decide), Int.le_refl _, Int.le_refl _⟩ (fun b o nb h => by rw [upd_ne nb]; exact h)
  · refine ⟨_, rfl, _, rfl, _, _, rfl, rfl, ⟨by decide, pow_ok (n := 4) (by decide) (by decide) (by decide) (by decide)⟩, _, _, rfl, rfl, _, _, rfl, ?_⟩
    refine ⟨_, rfl, _, _, rfl, rfl, (by show _ + _ ≤ _; omega), _, rfl, _, _, rfl, rfl, (by show _ + _ ≤ _; omega), _, _, rfl, rfl, _, _, rfl, rfl, .inl ⟨_, rfl, ?_⟩⟩
    refine ⟨_, _, rfl, rfl, ⟨by decide, pow_ok (n := 4) (by decide) (by decide) (by decide) (by decide)⟩, _, _, rfl, rfl, _, _, rfl, rfl, (by show (0 : Int) < _; decide), ?_⟩
    refine ⟨by show 3 ≤ sizeLine; decide, fun p hp => ?_⟩
    refine k p _ hp ⟨_, _, _, upd_same, Int.emod_nonneg _ (by decide), Int.lt_of_lt_of_le (Int.emod_lt_of_pos _ (by decide)) (by decide), Int.le_refl _, Int.le_refl _⟩ (fun b o nb h => by rw [upd_ne nb]; exact h)
abbrev s_law : Stmt := top 28
theorem sc_law : FnScope ["script", "spot", "sack"] ["script"] (defScope s_law) := ⟨rfl, rfl, rfl, by decide +kernel, rfl, by decide +kernel, by decide +kernel⟩
def spLaw (K : PySem.W.Frag) : Sp := fun vs H Q _ => ∃ (a : Addr) (ns : List Int), vs = [.ref a] ∧ SqL K H a (ns.map V.int) ∧ ns.length ≤ 63 ∧ (∀ z ∈ ns, Builtin.Int.intBits z ≤ 1048576) ∧ ∀ H', Q (.bl true) H'
theorem ok_law {f : Addr} {fd fdP fdR : FuncData} (F : Fun K "law" "law" s_law f fd) (T : Txt K mg a) (c_purse : Cal P w K mg base 1 a.purse fdP ["script", "place"] (spPurse K)) (c_right : CalG P w K mg base 5 a.right fdR ["sack"] (spRight K)) :
    Gd P w K mg base (5 + 1) f fd ["script"] (spLaw K) := by
  refine okG F sc_law (fun vs H Q E h => by obtain ⟨a, ns, rfl, _⟩ := h; rfl) (fun cdv A outer s H vs Q E hG hr h => ?_)
  have hr_purse := hr.mono (show 1 ≤ 5 by decide)
  have hr_right := hr
  refine ⟨_, (pss_cons (ps_for PassesOwn.never rfl (pi_range1 rfl T.b_range (pa_cons (pe_callB (call_max2 rfl) (by rfl) T.b_max (by decide +kernel) (pa_cons pe_int (pa_cons (pe_callB (call_min2 rfl) (by rfl) T.b_min (by decide +kernel) (pa_cons pe_int (pa_cons (pe_callB call_len_seq (by rfl) T.b_len PySem.boot_len (pa_cons (pv 0) pa_nil)) pa_nil))) pa_nil))) pa_nil)) (pg_name (i := 1) sc_law.nd rfl (Or.inl rfl))
      (pss_cons (ps_set (i := 2) sc_law.nd rfl (Or.inl rfl) (pe_call c_purse.ok hr_purse rfl T.g_purse T.k_purse c_purse.binds .nil pass0 (pa_cons (pv 0) (pa_cons (pv 1) pa_nil))))
      (pss_one (ps_if (pt_not (pt_val (pe_callG hG c_right.go hr_right rfl T.g_right T.k_right c_right.binds (pa_cons (pv 2) pa_nil)))) (pss_one (ps_ret pe_bl)) pss_nil))))
      (pss_one (ps_ret pe_bl))), ?_⟩
  obtain ⟨sc, ns, rfl, hS, hl, hb, k⟩ := h
  refine ⟨_, rfl, sc, _, rfl, .inl hS, _, _, rfl, _, _, rfl, _, rfl, ?_⟩
  rw [List.length_map]
  generalize hm : (if (if ((ns.length : Nat) : Int) < 10 then ((ns.length : Nat) : Int) else 10) > 1 then (if ((ns.length : Nat) : Int) < 10 then ((ns.length : Nat) : Int) else 10) else 1) = m
  have hm8 : 1 ≤ m ∧ m ≤ 10 := by
    subst hm
    split <;> split <;> omega
  refine ⟨by omega, by omega, for_range (lo := 0) (n := m.toNat) (fun i σ H' => ∃ x1 x2, σ = [some (.ref sc), x1, x2] ∧ SqL K H' sc (ns.map V.int)) ⟨_, _, rfl, hS⟩ ?_ ?_⟩
  · rintro i σ H1 hi ⟨x1, x2, rfl, h1⟩
    rw [Int.zero_add]
    refine ⟨_, rfl, _, rfl, sc, ns, i, rfl, h1, hl, hb, by omega, fun p H2 np sk kp => ?_⟩
    refine ⟨_, rfl, p, 0, rfl, sk, by omega, fun H3 kp3 => ⟨_, rfl, ?_⟩⟩
    exact iteF ⟨_, _, rfl, seq_kp h1 np (kp.trans kp3)⟩
  · rintro σ H1 ⟨x1, x2, rfl, h1⟩
    exact k _
end
/-! ### the end -/
theorem all_mk {P : Program} {w : World} {K : PySem.W.Frag} {h : Heap} {mg : Str → Option Value} {fa c0 c1 fI fis_piece fis_table fascends fare_states fcheck_table fcopied freached fleast_table fkinds fleast fpurse fcoin fqt_letters fqt_least fqt_spoil fqt_copy fqt_sheet fqt_renumbered fqt_bent fright flaw : Addr} (X : K.In h) (G : h.Ns mainGlobals mg) (hfa : mg "law" = some (.ref fa))
    {nm0 q0 : Str} {N0 : Addr} {bs0 bm0 : List Value} {sn0 : List Str} {sb0 : List Value} {ab0 : Bool} {co0 : Option Bool} {dd0 : Option Addr} {ma0 mb0 mc0 md0 me0 : Option Value}
    {nm1 q1 : Str} {N1 : Addr} {bs1 bm1 : List Value} {sn1 : List Str} {sb1 : List Value} {ab1 : Bool} {co1 : Option Bool} {dd1 : Option Addr} {ma1 mb1 mc1 md1 me1 : Option Value}
    {odI anI : Option Addr} {slI : Array (Option Value)} {ocI kVI dcI pmI cdI ctI : Value}
    {odis_piece anis_piece : Option Addr} {slis_piece : Array (Option Value)} {ocis_piece kVis_piece dcis_piece pmis_piece cdis_piece ctis_piece : Value}
    {odis_table anis_table : Option Addr} {slis_table : Array (Option Value)} {ocis_table kVis_table dcis_table pmis_table cdis_table ctis_table : Value}
    {odascends anascends : Option Addr} {slascends : Array (Option Value)} {ocascends kVascends dcascends pmascends cdascends ctascends : Value}
    {odare_states anare_states : Option Addr} {slare_states : Array (Option Value)} {ocare_states kVare_states dcare_states pmare_states cdare_states ctare_states : Value}
    {odcheck_table ancheck_table : Option Addr} {slcheck_table : Array (Option Value)} {occheck_table kVcheck_table dccheck_table pmcheck_table cdcheck_table ctcheck_table : Value}
    {odcopied ancopied : Option Addr} {slcopied : Array (Option Value)} {occopied kVcopied dccopied pmcopied cdcopied ctcopied : Value}
    {odreached anreached : Option Addr} {slreached : Array (Option Value)} {ocreached kVreached dcreached pmreached cdreached ctreached : Value}
    {odleast_table anleast_table : Option Addr} {slleast_table : Array (Option Value)} {ocleast_table kVleast_table dcleast_table pmleast_table cdleast_table ctleast_table : Value}
    {odkinds ankinds : Option Addr} {slkinds : Array (Option Value)} {ockinds kVkinds dckinds pmkinds cdkinds ctkinds : Value}
    {odleast anleast : Option Addr} {slleast : Array (Option Value)} {ocleast kVleast dcleast pmleast cdleast ctleast : Value}
    {odpurse anpurse : Option Addr} {slpurse : Array (Option Value)} {ocpurse kVpurse dcpurse pmpurse cdpurse ctpurse : Value}
    {odcoin ancoin : Option Addr} {slcoin : Array (Option Value)} {occoin kVcoin dccoin pmcoin cdcoin ctcoin : Value}
    {odqt_letters anqt_letters : Option Addr} {slqt_letters : Array (Option Value)} {ocqt_letters kVqt_letters dcqt_letters pmqt_letters cdqt_letters ctqt_letters : Value}
    {odqt_least anqt_least : Option Addr} {slqt_least : Array (Option Value)} {ocqt_least kVqt_least dcqt_least pmqt_least cdqt_least ctqt_least : Value}
    {odqt_spoil anqt_spoil : Option Addr} {slqt_spoil : Array (Option Value)} {ocqt_spoil kVqt_spoil dcqt_spoil pmqt_spoil cdqt_spoil ctqt_spoil : Value}
    {odqt_copy anqt_copy : Option Addr} {slqt_copy : Array (Option Value)} {ocqt_copy kVqt_copy dcqt_copy pmqt_copy cdqt_copy ctqt_copy : Value}
    {odqt_sheet anqt_sheet : Option Addr} {slqt_sheet : Array (Option Value)} {ocqt_sheet kVqt_sheet dcqt_sheet pmqt_sheet cdqt_sheet ctqt_sheet : Value}
    {odqt_renumbered anqt_renumbered : Option Addr} {slqt_renumbered : Array (Option Value)} {ocqt_renumbered kVqt_renumbered dcqt_renumbered pmqt_renumbered cdqt_renumbered ctqt_renumbered : Value}
    {odqt_bent anqt_bent : Option Addr} {slqt_bent : Array (Option Value)} {ocqt_bent kVqt_bent dcqt_bent pmqt_bent cdqt_bent ctqt_bent : Value}
    {odright anright : Option Addr} {slright : Array (Option Value)} {ocright kVright dcright pmright cdright ctright : Value}
    {odlaw anlaw : Option Addr} {sllaw : Array (Option Value)} {oclaw kVlaw dclaw pmlaw cdlaw ctlaw : Value}
    {tPICTURES : Tok}
    (a0 : PySem.W.nsIn K mainGlobals "FilmError" = some (some (.ref c0)))
    (x0 : K.lookup c0 = some (excClassObj nm0 q0 c0 N0 bs0 bm0 true sn0 sb0 ab0 co0 dd0 ma0 mb0 mc0 md0 me0 "ValueError.__new__"))
    (r0 : PySem.HandSPX.refsVE bm0 = true)
    (sa0 : PySem.W.findIn K (.ref c0) "__setattr__" = some (some (.builtin "object.__setattr__")))
    (ga0 : PySem.W.findIn K (.ref c0) "__getattribute__" = some (some (.builtin "BaseException.__getattribute__")))
    (gg0 : PySem.W.findIn K (.ref c0) "__getattr__" = some none)
    (no0 : PySem.W.findIn K (.ref c0) "value" = some none)
    (ini0 : PySem.W.findIn K (.ref c0) "__init__" = some (some (.ref fI)))
    (kp0 : PySem.W.keepIn K (.ref c0) = true)
    (ex0 : PySem.W.subIn K (.ref c0) (.type "BaseException") = some true)
    (ty0 : PySem.W.typeIn K (.ref c0) = some (.type "type"))
    (kl0 : PySem.W.findIn K (.ref c0) "__class__" = some (some (.builtin "object.__class__")))
    (hd0 : PySem.W.hasDictIn K c0 = true)
    (ic0 : PySem.W.isClsIn K c0 = true)
    (ob0 : PySem.W.mroIn K c0 (.type "object") = some true)
    (v0 : PySem.W.subIn K (.ref c0) (.type "ValueError") = some true)
    (a1 : PySem.W.nsIn K mainGlobals "InvalidTable" = some (some (.ref c1)))
    (x1 : K.lookup c1 = some (excClassObj nm1 q1 c1 N1 bs1 bm1 true sn1 sb1 ab1 co1 dd1 ma1 mb1 mc1 md1 me1 "ValueError.__new__"))
    (r1 : PySem.HandSPX.refsVE bm1 = true)
    (sa1 : PySem.W.findIn K (.ref c1) "__setattr__" = some (some (.builtin "object.__setattr__")))
    (ga1 : PySem.W.findIn K (.ref c1) "__getattribute__" = some (some (.builtin "BaseException.__getattribute__")))
    (gg1 : PySem.W.findIn K (.ref c1) "__getattr__" = some none)
    (no1 : PySem.W.findIn K (.ref c1) "value" = some none)
    (ini1 : PySem.W.findIn K (.ref c1) "__init__" = some (some (.ref fI)))
    (kp1 : PySem.W.keepIn K (.ref c1) = true)
    (ex1 : PySem.W.subIn K (.ref c1) (.type "BaseException") = some true)
    (ty1 : PySem.W.typeIn K (.ref c1) = some (.type "type"))
    (kl1 : PySem.W.findIn K (.ref c1) "__class__" = some (some (.builtin "object.__class__")))
    (hd1 : PySem.W.hasDictIn K c1 = true)
    (ic1 : PySem.W.isClsIn K c1 = true)
    (ob1 : PySem.W.mroIn K c1 (.type "object") = some true)
    (v1 : PySem.W.subIn K (.ref c1) (.type "ValueError") = some true)
    (spO : PySem.W.specialIn K (.builtin "object.__class__") "__get__" = some (some (.builtin "getset_descriptor.__get__")))
    (tkO : PySem.W.takesIn K (.builtin "object.__class__") = some true)
    (tyI : PySem.W.typeIn K (.ref fI) = some (.type "function"))
    (s0_0 : PySem.W.subIn K (.ref c0) (.ref c0) = some true)
    (s0_1 : PySem.W.subIn K (.ref c0) (.ref c1) = some false)
    (s1_0 : PySem.W.subIn K (.ref c1) (.ref c0) = some true)
    (s1_1 : PySem.W.subIn K (.ref c1) (.ref c1) = some true)
    (lI : K.lookup fI = some ⟨ocI, odI, .func (PySem.W.fnOf "__init__" "FilmError.__init__" (defArgs s_FilmError___init__) (defBody s_FilmError___init__) (defScope s_FilmError___init__) .none kVI dcI pmI anI cdI ctI), slI⟩)
    (oI : PySem.W.codeIn K cdI "FilmError.__init__" = true)
    (kI : PySem.W.keepIn K (.ref fI) = true)
    (gis_piece : PySem.W.nsIn K mainGlobals "is_piece" = some (some (.ref fis_piece)))
    (lis_piece : K.lookup fis_piece = some ⟨ocis_piece, odis_piece, .func (PySem.W.fnOf "is_piece" "is_piece" (defArgs s_is_piece) (defBody s_is_piece) (defScope s_is_piece) .none kVis_piece dcis_piece pmis_piece anis_piece cdis_piece ctis_piece), slis_piece⟩)
    (ois_piece : PySem.W.codeIn K cdis_piece "is_piece" = true)
    (kis_piece : PySem.W.keepIn K (.ref fis_piece) = true)
    (gis_table : PySem.W.nsIn K mainGlobals "is_table" = some (some (.ref fis_table)))
    (lis_table : K.lookup fis_table = some ⟨ocis_table, odis_table, .func (PySem.W.fnOf "is_table" "is_table" (defArgs s_is_table) (defBody s_is_table) (defScope s_is_table) .none kVis_table dcis_table pmis_table anis_table cdis_table ctis_table), slis_table⟩)
    (ois_table : PySem.W.codeIn K cdis_table "is_table" = true)
    (kis_table : PySem.W.keepIn K (.ref fis_table) = true)
    (gascends : PySem.W.nsIn K mainGlobals "_ascends" = some (some (.ref fascends)))
    (lascends : K.lookup fascends = some ⟨ocascends, odascends, .func (PySem.W.fnOf "_ascends" "_ascends" (defArgs s_ascends) (defBody s_ascends) (defScope s_ascends) .none kVascends dcascends pmascends anascends cdascends ctascends), slascends⟩)
    (oascends : PySem.W.codeIn K cdascends "_ascends" = true)
    (kascends : PySem.W.keepIn K (.ref fascends) = true)
    (gare_states : PySem.W.nsIn K mainGlobals "_are_states" = some (some (.ref fare_states)))
    (lare_states : K.lookup fare_states = some ⟨ocare_states, odare_states, .func (PySem.W.fnOf "_are_states" "_are_states" (defArgs s_are_states) (defBody s_are_states) (defScope s_are_states) .none kVare_states dcare_states pmare_states anare_states cdare_states ctare_states), slare_states⟩)
    (oare_states : PySem.W.codeIn K cdare_states "_are_states" = true)
    (kare_states : PySem.W.keepIn K (.ref fare_states) = true)
    (gcheck_table : PySem.W.nsIn K mainGlobals "check_table" = some (some (.ref fcheck_table)))
    (lcheck_table : K.lookup fcheck_table = some ⟨occheck_table, odcheck_table, .func (PySem.W.fnOf "check_table" "check_table" (defArgs s_check_table) (defBody s_check_table) (defScope s_check_table) .none kVcheck_table dccheck_table pmcheck_table ancheck_table cdcheck_table ctcheck_table), slcheck_table⟩)
    (ocheck_table : PySem.W.codeIn K cdcheck_table "check_table" = true)
    (kcheck_table : PySem.W.keepIn K (.ref fcheck_table) = true)
    (gcopied : PySem.W.nsIn K mainGlobals "copied" = some (some (.ref fcopied)))
    (lcopied : K.lookup fcopied = some ⟨occopied, odcopied, .func (PySem.W.fnOf "copied" "copied" (defArgs s_copied) (defBody s_copied) (defScope s_copied) .none kVcopied dccopied pmcopied ancopied cdcopied ctcopied), slcopied⟩)
    (ocopied : PySem.W.codeIn K cdcopied "copied" = true)
    (kcopied : PySem.W.keepIn K (.ref fcopied) = true)
    (greached : PySem.W.nsIn K mainGlobals "reached" = some (some (.ref freached)))
    (lreached : K.lookup freached = some ⟨ocreached, odreached, .func (PySem.W.fnOf "reached" "reached" (defArgs s_reached) (defBody s_reached) (defScope s_reached) .none kVreached dcreached pmreached anreached cdreached ctreached), slreached⟩)
    (oreached : PySem.W.codeIn K cdreached "reached" = true)
    (kreached : PySem.W.keepIn K (.ref freached) = true)
    (gleast_table : PySem.W.nsIn K mainGlobals "least_table" = some (some (.ref fleast_table)))
    (lleast_table : K.lookup fleast_table = some ⟨ocleast_table, odleast_table, .func (PySem.W.fnOf "least_table" "least_table" (defArgs s_least_table) (defBody s_least_table) (defScope s_least_table) .none kVleast_table dcleast_table pmleast_table anleast_table cdleast_table ctleast_table), slleast_table⟩)
    (oleast_table : PySem.W.codeIn K cdleast_table "least_table" = true)
    (kleast_table : PySem.W.keepIn K (.ref fleast_table) = true)
    (gkinds : PySem.W.nsIn K mainGlobals "_kinds" = some (some (.ref fkinds)))
    (lkinds : K.lookup fkinds = some ⟨ockinds, odkinds, .func (PySem.W.fnOf "_kinds" "_kinds" (defArgs s_kinds) (defBody s_kinds) (defScope s_kinds) .none kVkinds dckinds pmkinds ankinds cdkinds ctkinds), slkinds⟩)
    (okinds : PySem.W.codeIn K cdkinds "_kinds" = true)
    (kkinds : PySem.W.keepIn K (.ref fkinds) = true)
    (gleast : PySem.W.nsIn K mainGlobals "least" = some (some (.ref fleast)))
    (lleast : K.lookup fleast = some ⟨ocleast, odleast, .func (PySem.W.fnOf "least" "least" (defArgs s_least) (defBody s_least) (defScope s_least) .none kVleast dcleast pmleast anleast cdleast ctleast), slleast⟩)
    (oleast : PySem.W.codeIn K cdleast "least" = true)
    (kleast : PySem.W.keepIn K (.ref fleast) = true)
    (gpurse : PySem.W.nsIn K mainGlobals "_law_purse" = some (some (.ref fpurse)))
    (lpurse : K.lookup fpurse = some ⟨ocpurse, odpurse, .func (PySem.W.fnOf "_law_purse" "_law_purse" (defArgs s_purse) (defBody s_purse) (defScope s_purse) .none kVpurse dcpurse pmpurse anpurse cdpurse ctpurse), slpurse⟩)
    (opurse : PySem.W.codeIn K cdpurse "_law_purse" = true)
    (kpurse : PySem.W.keepIn K (.ref fpurse) = true)
    (gcoin : PySem.W.nsIn K mainGlobals "_law_coin" = some (some (.ref fcoin)))
    (lcoin : K.lookup fcoin = some ⟨occoin, odcoin, .func (PySem.W.fnOf "_law_coin" "_law_coin" (defArgs s_coin) (defBody s_coin) (defScope s_coin) .none kVcoin dccoin pmcoin ancoin cdcoin ctcoin), slcoin⟩)
    (ocoin : PySem.W.codeIn K cdcoin "_law_coin" = true)
    (kcoin : PySem.W.keepIn K (.ref fcoin) = true)
    (gqt_letters : PySem.W.nsIn K mainGlobals "_law_qt_letters" = some (some (.ref fqt_letters)))
    (lqt_letters : K.lookup fqt_letters = some ⟨ocqt_letters, odqt_letters, .func (PySem.W.fnOf "_law_qt_letters" "_law_qt_letters" (defArgs s_qt_letters) (defBody s_qt_letters) (defScope s_qt_letters) .none kVqt_letters dcqt_letters pmqt_letters anqt_letters cdqt_letters ctqt_letters), slqt_letters⟩)
    (oqt_letters : PySem.W.codeIn K cdqt_letters "_law_qt_letters" = true)
    (kqt_letters : PySem.W.keepIn K (.ref fqt_letters) = true)
    (gqt_least : PySem.W.nsIn K mainGlobals "_law_qt_least" = some (some (.ref fqt_least)))
    (lqt_least : K.lookup fqt_least = some ⟨ocqt_least, odqt_least, .func (PySem.W.fnOf "_law_qt_least" "_law_qt_least" (defArgs s_qt_least) (defBody s_qt_least) (defScope s_qt_least) .none kVqt_least dcqt_least pmqt_least anqt_least cdqt_least ctqt_least), slqt_least⟩)
    (oqt_least : PySem.W.codeIn K cdqt_least "_law_qt_least" = true)
    (kqt_least : PySem.W.keepIn K (.ref fqt_least) = true)
    (gqt_spoil : PySem.W.nsIn K mainGlobals "_law_qt_spoil" = some (some (.ref fqt_spoil)))
    (lqt_spoil : K.lookup fqt_spoil = some ⟨ocqt_spoil, odqt_spoil, .func (PySem.W.fnOf "_law_qt_spoil" "_law_qt_spoil" (defArgs s_qt_spoil) (defBody s_qt_spoil) (defScope s_qt_spoil) .none kVqt_spoil dcqt_spoil pmqt_spoil anqt_spoil cdqt_spoil ctqt_spoil), slqt_spoil⟩)
    (oqt_spoil : PySem.W.codeIn K cdqt_spoil "_law_qt_spoil" = true)
    (kqt_spoil : PySem.W.keepIn K (.ref fqt_spoil) = true)
    (gqt_copy : PySem.W.nsIn K mainGlobals "_law_qt_copy" = some (some (.ref fqt_copy)))
    (lqt_copy : K.lookup fqt_copy = some ⟨ocqt_copy, odqt_copy, .func (PySem.W.fnOf "_law_qt_copy" "_law_qt_copy" (defArgs s_qt_copy) (defBody s_qt_copy) (defScope s_qt_copy) .none kVqt_copy dcqt_copy pmqt_copy anqt_copy cdqt_copy ctqt_copy), slqt_copy⟩)
    (oqt_copy : PySem.W.codeIn K cdqt_copy "_law_qt_copy" = true)
    (kqt_copy : PySem.W.keepIn K (.ref fqt_copy) = true)
    (gqt_sheet : PySem.W.nsIn K mainGlobals "_law_qt_sheet" = some (some (.ref fqt_sheet)))
    (lqt_sheet : K.lookup fqt_sheet = some ⟨ocqt_sheet, odqt_sheet, .func (PySem.W.fnOf "_law_qt_sheet" "_law_qt_sheet" (defArgs s_qt_sheet) (defBody s_qt_sheet) (defScope s_qt_sheet) .none kVqt_sheet dcqt_sheet pmqt_sheet anqt_sheet cdqt_sheet ctqt_sheet), slqt_sheet⟩)
    (oqt_sheet : PySem.W.codeIn K cdqt_sheet "_law_qt_sheet" = true)
    (kqt_sheet : PySem.W.keepIn K (.ref fqt_sheet) = true)
    (gqt_renumbered : PySem.W.nsIn K mainGlobals "_law_qt_renumbered" = some (some (.ref fqt_renumbered)))
    (lqt_renumbered : K.lookup fqt_renumbered = some ⟨ocqt_renumbered, odqt_renumbered, .func (PySem.W.fnOf "_law_qt_renumbered" "_law_qt_renumbered" (defArgs s_qt_renumbered) (defBody s_qt_renumbered) (defScope s_qt_renumbered) .none kVqt_renumbered dcqt_renumbered pmqt_renumbered anqt_renumbered cdqt_renumbered ctqt_renumbered), slqt_renumbered⟩)
    (oqt_renumbered : PySem.W.codeIn K cdqt_renumbered "_law_qt_renumbered" = true)
    (kqt_renumbered : PySem.W.keepIn K (.ref fqt_renumbered) = true)
    (gqt_bent : PySem.W.nsIn K mainGlobals "_law_qt_bent" = some (some (.ref fqt_bent)))
    (lqt_bent : K.lookup fqt_bent = some ⟨ocqt_bent, odqt_bent, .func (PySem.W.fnOf "_law_qt_bent" "_law_qt_bent" (defArgs s_qt_bent) (defBody s_qt_bent) (defScope s_qt_bent) .none kVqt_bent dcqt_bent pmqt_bent anqt_bent cdqt_bent ctqt_bent), slqt_bent⟩)
    (oqt_bent : PySem.W.codeIn K cdqt_bent "_law_qt_bent" = true)
    (kqt_bent : PySem.W.keepIn K (.ref fqt_bent) = true)
    (gright : PySem.W.nsIn K mainGlobals "_law_right" = some (some (.ref fright)))
    (lright : K.lookup fright = some ⟨ocright, odright, .func (PySem.W.fnOf "_law_right" "_law_right" (defArgs s_right) (defBody s_right) (defScope s_right) .none kVright dcright pmright anright cdright ctright), slright⟩)
    (oright : PySem.W.codeIn K cdright "_law_right" = true)
    (kright : PySem.W.keepIn K (.ref fright) = true)
    (glaw : PySem.W.nsIn K mainGlobals "law" = some (some (.ref flaw)))
    (llaw : K.lookup flaw = some ⟨oclaw, odlaw, .func (PySem.W.fnOf "law" "law" (defArgs s_law) (defBody s_law) (defScope s_law) .none kVlaw dclaw pmlaw anlaw cdlaw ctlaw), sllaw⟩)
    (olaw : PySem.W.codeIn K cdlaw "law" = true)
    (klaw : PySem.W.keepIn K (.ref flaw) = true)
    (zint : PySem.W.nsIn K mainGlobals "int" = some none)
    (zlen : PySem.W.nsIn K mainGlobals "len" = some none)
    (zmax : PySem.W.nsIn K mainGlobals "max" = some none)
    (zmin : PySem.W.nsIn K mainGlobals "min" = some none)
    (zabs : PySem.W.nsIn K mainGlobals "abs" = some none)
    (zrepr : PySem.W.nsIn K mainGlobals "repr" = some none)
    (zisinstance : PySem.W.nsIn K mainGlobals "isinstance" = some none)
    (zlist : PySem.W.nsIn K mainGlobals "list" = some none)
    (ztuple : PySem.W.nsIn K mainGlobals "tuple" = some none)
    (zrange : PySem.W.nsIn K mainGlobals "range" = some none)
    (zsorted : PySem.W.nsIn K mainGlobals "sorted" = some none)
    (zall : PySem.W.nsIn K mainGlobals "all" = some none)
    (zzip : PySem.W.nsIn K mainGlobals "zip" = some none)
    (nPICTURES : PySem.W.nsIn K mainGlobals "PICTURES" = some (some (.str "abcdefghijklmnopqrstuvwxyz" tPICTURES))) :
    ∃ fd : FuncData, (∀ (s : Shared) (v : Value), BindsTo s fd ⟨[v], []⟩ [("script", v)]) ∧ ∀ base : Heap, K.In base → base.Ns mainGlobals mg → Gd P w K mg base (5 + 1) fa fd ["script"] (spLaw K) := by
  have e := hfa.symm.trans (PySem.W.mg_of X G glaw)
  cases e
  have T : Txt K mg ⟨c0, c1, fI, fis_piece, fis_table, fascends, fare_states, fcheck_table, fcopied, freached, fleast_table, fkinds, fleast, fpurse, fcoin, fqt_letters, fqt_least, fqt_spoil, fqt_copy, fqt_sheet, fqt_renumbered, fqt_bent, fright, fa, tPICTURES⟩ := {
    g_FilmError := PySem.W.mg_of X G a0
    g_InvalidTable := PySem.W.mg_of X G a1
    e_FilmError := ⟨⟨⟨_, _, _, _, _, _, _, _, _, _, _, _, _, _, _, x0, r0⟩, sa0, ex0, ty0, kp0⟩, ini0, tyI, no0, ⟨ga0, gg0, ex0, hd0⟩, ⟨ic0, ga0, gg0, ex0, kl0, spO, tkO, ob0⟩⟩
    e_InvalidTable := ⟨⟨⟨_, _, _, _, _, _, _, _, _, _, _, _, _, _, _, x1, r1⟩, sa1, ex1, ty1, kp1⟩, ini1, tyI, no1, ⟨ga1, gg1, ex1, hd1⟩, ⟨ic1, ga1, gg1, ex1, kl1, spO, tkO, ob1⟩⟩
    subs := fun i j hi hj => match i, hi with
      | 0, _ => (match j, hj with | 0, _ => s0_0 | 1, _ => s0_1 | (_ + 2), h => absurd h (by omega))
      | 1, _ => (match j, hj with | 0, _ => s1_0 | 1, _ => s1_1 | (_ + 2), h => absurd h (by omega))
      | (_ + 2), h => absurd h (by omega)
    cls := fun i hi => match i, hi with | 0, _ => ic0 | 1, _ => ic1 | (_ + 2), h => absurd h (by omega)
    g_is_piece := PySem.W.mg_of X G gis_piece
    k_is_piece := kis_piece
    g_is_table := PySem.W.mg_of X G gis_table
    k_is_table := kis_table
    g_ascends := PySem.W.mg_of X G gascends
    k_ascends := kascends
    g_are_states := PySem.W.mg_of X G gare_states
    k_are_states := kare_states
    g_check_table := PySem.W.mg_of X G gcheck_table
    k_check_table := kcheck_table
    g_copied := PySem.W.mg_of X G gcopied
    k_copied := kcopied
    g_reached := PySem.W.mg_of X G greached
    k_reached := kreached
    g_least_table := PySem.W.mg_of X G gleast_table
    k_least_table := kleast_table
    g_kinds := PySem.W.mg_of X G gkinds
    k_kinds := kkinds
    g_least := PySem.W.mg_of X G gleast
    k_least := kleast
    g_purse := PySem.W.mg_of X G gpurse
    k_purse := kpurse
    g_coin := PySem.W.mg_of X G gcoin
    k_coin := kcoin
    g_qt_letters := PySem.W.mg_of X G gqt_letters
    k_qt_letters := kqt_letters
    g_qt_least := PySem.W.mg_of X G gqt_least
    k_qt_least := kqt_least
    g_qt_spoil := PySem.W.mg_of X G gqt_spoil
    k_qt_spoil := kqt_spoil
    g_qt_copy := PySem.W.mg_of X G gqt_copy
    k_qt_copy := kqt_copy
    g_qt_sheet := PySem.W.mg_of X G gqt_sheet
    k_qt_sheet := kqt_sheet
    g_qt_renumbered := PySem.W.mg_of X G gqt_renumbered
    k_qt_renumbered := kqt_renumbered
    g_qt_bent := PySem.W.mg_of X G gqt_bent
    k_qt_bent := kqt_bent
    g_right := PySem.W.mg_of X G gright
    k_right := kright
    g_law := PySem.W.mg_of X G glaw
    k_law := klaw
    b_int := PySem.W.mg_none_of X G zint
    b_len := PySem.W.mg_none_of X G zlen
    b_max := PySem.W.mg_none_of X G zmax
    b_min := PySem.W.mg_none_of X G zmin
    b_abs := PySem.W.mg_none_of X G zabs
    b_repr := PySem.W.mg_none_of X G zrepr
    b_isinstance := PySem.W.mg_none_of X G zisinstance
    b_list := PySem.W.mg_none_of X G zlist
    b_tuple := PySem.W.mg_none_of X G ztuple
    b_range := PySem.W.mg_none_of X G zrange
    b_sorted := PySem.W.mg_none_of X G zsorted
    b_all := PySem.W.mg_none_of X G zall
    b_zip := PySem.W.mg_none_of X G zzip
    g_PICTURES := PySem.W.mg_of X G nPICTURES  }
  have Fis_piece := fun_mk (st := s_is_piece) lis_piece ois_piece kis_piece
  have bis_piece := Fis_piece.binds (ps := ["text"]) fun _ _ _ _ _ _ us hl => match us, hl with | [_], _ => rfl
  have Fis_table := fun_mk (st := s_is_table) lis_table ois_table kis_table
  have bis_table := Fis_table.binds (ps := ["told"]) fun _ _ _ _ _ _ us hl => match us, hl with | [_], _ => rfl
  have Fascends := fun_mk (st := s_ascends) lascends oascends kascends
  have bascends := Fascends.binds (ps := ["things"]) fun _ _ _ _ _ _ us hl => match us, hl with | [_], _ => rfl
  have Fare_states := fun_mk (st := s_are_states) lare_states oare_states kare_states
  have bare_states := Fare_states.binds (ps := ["numbers", "rows"]) fun _ _ _ _ _ _ us hl => match us, hl with | [_, _], _ => rfl
  have Fcheck_table := fun_mk (st := s_check_table) lcheck_table ocheck_table kcheck_table
  have bcheck_table := Fcheck_table.binds (ps := ["told"]) fun _ _ _ _ _ _ us hl => match us, hl with | [_], _ => rfl
  have Fcopied := fun_mk (st := s_copied) lcopied ocopied kcopied
  have bcopied := Fcopied.binds (ps := ["told"]) fun _ _ _ _ _ _ us hl => match us, hl with | [_], _ => rfl
  have Freached := fun_mk (st := s_reached) lreached oreached kreached
  have breached := Freached.binds (ps := ["told"]) fun _ _ _ _ _ _ us hl => match us, hl with | [_], _ => rfl
  have Fleast_table := fun_mk (st := s_least_table) lleast_table oleast_table kleast_table
  have bleast_table := Fleast_table.binds (ps := ["told"]) fun _ _ _ _ _ _ us hl => match us, hl with | [_], _ => rfl
  have Fkinds := fun_mk (st := s_kinds) lkinds okinds kkinds
  have bkinds := Fkinds.binds (ps := ["told", "order"]) fun _ _ _ _ _ _ us hl => match us, hl with | [_, _], _ => rfl
  have Fleast := fun_mk (st := s_least) lleast oleast kleast
  have bleast := Fleast.binds (ps := ["told"]) fun _ _ _ _ _ _ us hl => match us, hl with | [_], _ => rfl
  have Fpurse := fun_mk (st := s_purse) lpurse opurse kpurse
  have bpurse := Fpurse.binds (ps := ["script", "place"]) fun _ _ _ _ _ _ us hl => match us, hl with | [_, _], _ => rfl
  have Fcoin := fun_mk (st := s_coin) lcoin ocoin kcoin
  have bcoin := Fcoin.binds (ps := ["purse", "many"]) fun _ _ _ _ _ _ us hl => match us, hl with | [_, _], _ => rfl
  have Fqt_letters := fun_mk (st := s_qt_letters) lqt_letters oqt_letters kqt_letters
  have bqt_letters := Fqt_letters.binds (ps := ["sack", "amount"]) fun _ _ _ _ _ _ us hl => match us, hl with | [_, _], _ => rfl
  have Fqt_least := fun_mk (st := s_qt_least) lqt_least oqt_least kqt_least
  have bqt_least := Fqt_least.binds (ps := ["sheet"]) fun _ _ _ _ _ _ us hl => match us, hl with | [_], _ => rfl
  have Fqt_spoil := fun_mk (st := s_qt_spoil) lqt_spoil oqt_spoil kqt_spoil
  have bqt_spoil := Fqt_spoil.binds (ps := ["sheet"]) fun _ _ _ _ _ _ us hl => match us, hl with | [_], _ => rfl
  have Fqt_copy := fun_mk (st := s_qt_copy) lqt_copy oqt_copy kqt_copy
  have bqt_copy := Fqt_copy.binds (ps := ["sheet"]) fun _ _ _ _ _ _ us hl => match us, hl with | [_], _ => rfl
  have Fqt_sheet := fun_mk (st := s_qt_sheet) lqt_sheet oqt_sheet kqt_sheet
  have bqt_sheet := Fqt_sheet.binds (ps := ["sack", "letters", "high"]) fun _ _ _ _ _ _ us hl => match us, hl with | [_, _, _], _ => rfl
  have Fqt_renumbered := fun_mk (st := s_qt_renumbered) lqt_renumbered oqt_renumbered kqt_renumbered
  have bqt_renumbered := Fqt_renumbered.binds (ps := ["sack", "sheet", "extra"]) fun _ _ _ _ _ _ us hl => match us, hl with | [_, _, _], _ => rfl
  have Fqt_bent := fun_mk (st := s_qt_bent) lqt_bent oqt_bent kqt_bent
  have bqt_bent := Fqt_bent.binds (ps := ["sack", "sheet"]) fun _ _ _ _ _ _ us hl => match us, hl with | [_, _], _ => rfl
  have Fright := fun_mk (st := s_right) lright oright kright
  have bright := Fright.binds (ps := ["sack"]) fun _ _ _ _ _ _ us hl => match us, hl with | [_], _ => rfl
  have Flaw := fun_mk (st := s_law) llaw olaw klaw
  have FI := fun_mk (st := s_FilmError___init__) lI oI kI
  have bI := FI.binds (ps := ["self", "value"]) fun _ _ _ _ _ _ us hl => match us, hl with | [_, _], _ => rfl
  refine ⟨PySem.W.fnOf "law" "law" (defArgs s_law) (defBody s_law) (defScope s_law) .none kVlaw dclaw pmlaw anlaw cdlaw ctlaw, fun s v => .of_eq rfl, fun base _ _ => ?_⟩
  have kbleast := kw1 Fleast (ps := ["told"]) (n := 0) (ks := ["told"]) (fun _ _ _ _ _ _ us ws h1 h2 => match us, ws, h1, h2 with | [], [_], _, _ => rfl)
  have cini : Cal P w K mg base 1 fI _ ["self", "value"] (spErrInit K) := ⟨ok_init FI, bI⟩
  have cpiece : Cal P w K mg base 1 fis_piece _ ["text"] spPiece := ⟨ok_is_piece Fis_piece T, bis_piece⟩
  have casc : Cal P w K mg base 1 fascends _ ["things"] (spAsc K) := ⟨ok_ascends Fascends T, bascends⟩
  have care : Cal P w K mg base 1 fare_states _ ["numbers", "rows"] (spAre K) := ⟨ok_are_states Fare_states T, bare_states⟩
  have cist : Cal P w K mg base 2 fis_table _ ["told"] (spIsT K) := ⟨ok_is_table Fis_table T cpiece casc care, bis_table⟩
  have ccopied : Cal P w K mg base 1 fcopied _ ["told"] spNo := ⟨ok_no Fcopied, bcopied⟩
  have cct : CalX P w K mg base 3 fcheck_table _ ["told"] (spChkT K) := ⟨ok_check_table Fcheck_table T cini cist ccopied, bcheck_table⟩
  have creach : Cal P w K mg base 1 freached _ ["told"] (spReached K) := ⟨ok_reached Freached T, breached⟩
  have ckin : Cal P w K mg base 1 fkinds _ ["told", "order"] (spKinds K) := ⟨ok_kinds Fkinds T, bkinds⟩
  have clt : Cal P w K mg base 2 fleast_table _ ["told"] (spLeastT K) := ⟨ok_least_table Fleast_table T creach ckin, bleast_table⟩
  have cle : CalX P w K mg base 4 fleast _ ["told"] (spLeastT K) := ⟨ok_least Fleast T cct clt, bleast⟩
  have ccoin : Cal P w K mg base 1 fcoin _ ["purse", "many"] spCoin := ⟨ok_coin Fcoin T, bcoin⟩
  have clet : Cal P w K mg base 2 fqt_letters _ ["sack", "amount"] spLetters := ⟨ok_letters Fqt_letters T ccoin, bqt_letters⟩
  have csh : Cal P w K mg base 2 fqt_sheet _ ["sack", "letters", "high"] (spSheet K) := ⟨ok_sheet Fqt_sheet T ccoin, bqt_sheet⟩
  have cql : Cal P w K mg base 1 fqt_least _ ["sheet"] (spLeastT K) := ⟨ok_qt_least Fqt_least T, bqt_least⟩
  have ccp : Cal P w K mg base 1 fqt_copy _ ["sheet"] (spCopy K) := ⟨ok_copy Fqt_copy T, bqt_copy⟩
  have csp : Cal P w K mg base 1 fqt_spoil _ ["sheet"] (spSpoil K) := ⟨ok_spoil Fqt_spoil T, bqt_spoil⟩
  have cre : Cal P w K mg base 2 fqt_renumbered _ ["sack", "sheet", "extra"] (spRenum K) := ⟨ok_renum Fqt_renumbered T ccoin, bqt_renumbered⟩
  have cbe : Cal P w K mg base 2 fqt_bent _ ["sack", "sheet"] (spBent K) := ⟨ok_bent Fqt_bent T ccoin ccp, bqt_bent⟩
  exact ok_law Flaw T ⟨ok_purse Fpurse T, bpurse⟩ ⟨ok_right Fright T ccoin clet csh cql ccp cle kbleast csp cre cbe, bright⟩
end K19
open PySem PySem.W PyProof.Rows
set_option maxRecDepth 100000 in
set_option maxHeartbeats 0 in
theorem PySem.Challenge.cw_splicedfilms_k19_least_tables_holds : PySem.Challenge.rw_splicedfilms_k19_least_tables.Holds := by
  w_on; o_law; k_head; (case hw => w_witness2)
  k_fill
  refine Sf.walkG (l := PySem.Challenge.rw_splicedfilms_k19_least_tables) (k := 5 + 1) (x := "script") (sp := K19.spLaw) rfl (by decide) rfl ⟨rfl, by decide, by decide⟩ (fun w h Y => PySem.W.kIn_of Y) ?F (fun K H a ns hl hb hS => ⟨a, ns, rfl, hS, hl, hb, fun _ => rfl⟩)
  case F =>
    intro w mg fa h KX G hmg
    refine' K19.all_mk KX G hmg ?a0 ?x0 ?r0 ?sa0 ?ga0 ?gg0 ?no0 ?ini0 ?kp0 ?ex0 ?ty0 ?kl0 ?hd0 ?ic0 ?ob0 ?v0 ?a1 ?x1 ?r1 ?sa1 ?ga1 ?gg1 ?no1 ?ini1 ?kp1 ?ex1 ?ty1 ?kl1 ?hd1 ?ic1 ?ob1 ?v1 ?spO ?tkO ?tyI ?s0_0 ?s0_1 ?s1_0 ?s1_1 ?lI ?oI ?kI ?gis_piece ?lis_piece ?ois_piece ?kis_piece ?gis_table ?lis_table ?ois_table ?kis_table ?gascends ?lascends ?oascends ?kascends ?gare_states ?lare_states ?oare_states ?kare_states ?gcheck_table ?lcheck_table ?ocheck_table ?kcheck_table ?gcopied ?lcopied ?ocopied ?kcopied ?greached ?lreached ?oreached ?kreached ?gleast_table ?lleast_table ?oleast_table ?kleast_table ?gkinds ?lkinds ?okinds ?kkinds ?gleast ?lleast ?oleast ?kleast ?gpurse ?lpurse ?opurse ?kpurse ?gcoin ?lcoin ?ocoin ?kcoin ?gqt_letters ?lqt_letters ?oqt_letters ?kqt_letters ?gqt_least ?lqt_least ?oqt_least ?kqt_least ?gqt_spoil ?lqt_spoil ?oqt_spoil ?kqt_spoil ?gqt_copy ?lqt_copy ?oqt_copy ?kqt_copy ?gqt_sheet ?lqt_sheet ?oqt_sheet ?kqt_sheet ?gqt_renumbered ?lqt_renumbered ?oqt_renumbered ?kqt_renumbered ?gqt_bent ?lqt_bent ?oqt_bent ?kqt_bent ?gright ?lright ?oright ?kright ?glaw ?llaw ?olaw ?klaw ?zint ?zlen ?zmax ?zmin ?zabs ?zrepr ?zisinstance ?zlist ?ztuple ?zrange ?zsorted ?zall ?zzip ?nPICTURES
    (case a0 => k_is)
    (case x0 => k_is)
    (case r0 => first | rfl | decide +kernel)
    (case sa0 => k_is)
    (case ga0 => k_is)
    (case gg0 => k_is)
    (case no0 => k_is)
    (case ini0 => k_is)
    (case kp0 => k_is)
    (case ex0 => k_is)
    (case ty0 => k_is)
    (case kl0 => k_is)
    (case hd0 => k_is)
    (case ic0 => k_is)
    (case ob0 => k_is)
    (case v0 => k_is)
    (case a1 => k_is)
    (case x1 => k_is)
    (case r1 => first | rfl | decide +kernel)
    (case sa1 => k_is)
    (case ga1 => k_is)
    (case gg1 => k_is)
    (case no1 => k_is)
    (case ini1 => k_is)
    (case kp1 => k_is)
    (case ex1 => k_is)
    (case ty1 => k_is)
    (case kl1 => k_is)
    (case hd1 => k_is)
    (case ic1 => k_is)
    (case ob1 => k_is)
    (case v1 => k_is)
    (case spO => k_is)
    (case tkO => k_is)
    (case tyI => k_is)
    (case s0_0 => k_is)
    (case s0_1 => k_is)
    (case s1_0 => k_is)
    (case s1_1 => k_is)
    (case lI => k_is)
    (case oI => k_is)
    (case kI => k_is)
    (case gis_piece => k_is)
    (case lis_piece => k_is)
    (case ois_piece => k_is)
    (case kis_piece => k_is)
    (case gis_table => k_is)
    (case lis_table => k_is)
    (case ois_table => k_is)
    (case kis_table => k_is)
    (case gascends => k_is)
    (case lascends => k_is)
    (case oascends => k_is)
    (case kascends => k_is)
    (case gare_states => k_is)
    (case lare_states => k_is)
    (case oare_states => k_is)
    (case kare_states => k_is)
    (case gcheck_table => k_is)
    (case lcheck_table => k_is)
    (case ocheck_table => k_is)
    (case kcheck_table => k_is)
    (case gcopied => k_is)
    (case lcopied => k_is)
    (case ocopied => k_is)
    (case kcopied => k_is)
    (case greached => k_is)
    (case lreached => k_is)
    (case oreached => k_is)
    (case kreached => k_is)
    (case gleast_table => k_is)
    (case lleast_table => k_is)
    (case oleast_table => k_is)
    (case kleast_table => k_is)
    (case gkinds => k_is)
    (case lkinds => k_is)
    (case okinds => k_is)
    (case kkinds => k_is)
    (case gleast => k_is)
    (case lleast => k_is)
    (case oleast => k_is)
    (case kleast => k_is)
    (case gpurse => k_is)
    (case lpurse => k_is)
    (case opurse => k_is)
    (case kpurse => k_is)
    (case gcoin => k_is)
    (case lcoin => k_is)
    (case ocoin => k_is)
    (case kcoin => k_is)
    (case gqt_letters => k_is)
    (case lqt_letters => k_is)
    (case oqt_letters => k_is)
    (case kqt_letters => k_is)
    (case gqt_least => k_is)
    (case lqt_least => k_is)
    (case oqt_least => k_is)
    (case kqt_least => k_is)
    (case gqt_spoil => k_is)
    (case lqt_spoil => k_is)
    (case oqt_spoil => k_is)
    (case kqt_spoil => k_is)
    (case gqt_copy => k_is)
    (case lqt_copy => k_is)
    (case oqt_copy => k_is)
    (case kqt_copy => k_is)
    (case gqt_sheet => k_is)
    (case lqt_sheet => k_is)
    (case oqt_sheet => k_is)
    (case kqt_sheet => k_is)
    (case gqt_renumbered => k_is)
    (case lqt_renumbered => k_is)
    (case oqt_renumbered => k_is)
    (case kqt_renumbered => k_is)
    (case gqt_bent => k_is)
    (case lqt_bent => k_is)
    (case oqt_bent => k_is)
    (case kqt_bent => k_is)
    (case gright => k_is)
    (case lright => k_is)
    (case oright => k_is)
    (case kright => k_is)
    (case glaw => k_is)
    (case llaw => k_is)
    (case olaw => k_is)
    (case klaw => k_is)
    (case zint => k_is)
    (case zlen => k_is)
    (case zmax => k_is)
    (case zmin => k_is)
    (case zabs => k_is)
    (case zrepr => k_is)
    (case zisinstance => k_is)
    (case zlist => k_is)
    (case ztuple => k_is)
    (case zrange => k_is)
    (case zsorted => k_is)
    (case zall => k_is)
    (case zzip => k_is)
    (case nPICTURES => k_is)
#print axioms PySem.Challenge.cw_splicedfilms_k19_least_tables_holds
