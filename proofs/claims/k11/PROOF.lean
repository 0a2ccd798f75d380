import PyProof.Rows.All
import Wide.All
import OpenK.AllK
import Wide.FinOn
import PyProof.EqAt
import PyProof.EqKinds
import PyProof.TupleCall
import PyProof.ReprRoads
import HandS.Base
import HandS.Call
import HandS.List
import HandS.Comp
import HandS.Ends
import HandS.Dict
import HandS.Iter
import HandS.Text
import HandS.Words
import HandS.WordsList
import HandS.Wide
import HandS.WideBits
import PySem.Challenge.RW_meetrounds_k11_known_loads
import HandS.IsInst
import HandS.FStr
import HandS.RaiseMore
import HandS.Walk
import HandS.Defaults
import KE.GoesMore
import HandS.DictSub
import KE.KCallOwn
import PyProof.InstEq
import HandS.Property
import HandS.MakeKwOnly
import HandS.MakeKw
import HandS.Zip0
import HandS.Star
import KE.KStar
import PyProof.MeetsSeq2
import HandS.Zip
import KE.KTupSum
import HandS.Style
import HandS.TupMul
import HandS.TupAny
import PyProof.ReprBulk
import PyProof.ReprReads
import KE.RegKIsAll
set_option Elab.async false
set_option linter.all false
set_option maxRecDepth 100000
set_option maxHeartbeats 4000000
set_option maxHeartbeats 1000000
namespace MG
open PySem PySem.Spec PyProof.Rows L2

/-- a def's promise where no builtin of the printing kind is under way around the call -/
structure FnG (P : Program) (w : World) (K : PySem.W.Frag) (mg : Str → Option Value) (base : Heap) (CX : CXT)
    (k : Nat) (f : Addr) (fd : FuncData) (ps : List Str) (sp : Sp) : Prop where
  len : ∀ vs H Q E, sp vs H Q E → vs.length = ps.length
  run : ∀ (A : Around) (outer : List Env) (s : Shared) (H : Hp) (args : Args) (us : List Value)
    (vs : List V) (Q : VK) (E : XK), A.guards = some [] → Room k A → Env0 P w K mg base A outer s H →
    BindsTo s fd args (ps.zip us) → Vals vs us → sp vs H Q E →
    codeAny (model P w) A (.call (.ref f) args) (CR CX outer P w H s Q E) s

section
variable {P : Program} {w : World} {K : PySem.W.Frag} {mg : Str → Option Value} {base : Heap}

theorem FnG.of {CX : CXT} {k : Nat} {f : Addr} {fd : FuncData} {ps : List Str} {sp : Sp}
    (F : FnOk P w K mg base CX k f fd ps sp) : FnG P w K mg base CX k f fd ps sp where
  len := F.len
  run := fun A outer s H args us vs Q E _ => F.run A outer s H args us vs Q E

/-- the body of a def at one place where it is called -/
theorem body_at {CX : CXT} {x qual : Str} {st : Stmt} {f : Addr} {fd : FuncData} {N ps : List Str}
    {A : Around} {outer : List Env} {s : Shared} {H : Hp} {args : Args} {us : List Value}
    {vs : List V} {Q : VK} {E : XK} {k : Nat}
    (F : Fun K x qual st f fd) (S : FnScope N ps (defScope st)) (hl : vs.length = ps.length)
    (hr : Room (k + 1) A) (e0 : Env0 P w K mg base A outer s H) (hb : BindsTo s fd args (ps.zip us))
    (r : Vals vs us)
    (hbody : ∀ cdv : Value, ∃ t,
      PSs (cxOf CX P w K mg base N qual (defScope st) f cdv A outer s H E) (defBody st) t ∧
      t { nx := fun _ H' => Q .non H', rt := Q } (start N vs) H) :
    codeAny (model P w) A (.call (.ref f) args) (CR CX outer P w H s Q E) s := by
  obtain ⟨oc, od, kV, doc, pm, an, cdv, ct, osl, rfl, lk, hcd⟩ := F.ex
  have KX : K.In s.heap := e0.mod.kin.keeps (fun b o e => (e0.bs b o e).1)
  have lim : s.heap.NoLimit := e0.mod.nolimit.keeps (fun b o e => (e0.bs b o e).1)
  have hkind : ∀ y ∈ ps.zip us, (defScope st).names.lookup y.1 = some .local ∨
      ((defScope st).names.lookup y.1 = some .cell ∧
        ((cellsFrom (s.heap.objs.size + 1) (defScope st).names []).lookup y.1).isSome = true) := by
    rintro ⟨n, v⟩ hy
    cases S.par n (List.of_mem_zip hy).1 with
    | inl q => exact Or.inl q
    | inr q => exact Or.inr ⟨q, PySem.W.cellsFrom_some _ _ _ (Or.inl q)⟩
  refine codeAny_call_function hr.depth (KX _ _ lk) rfl S.co S.gen rfl
    (PySem.W.codeRec_of KX hcd) (hb _ _ _ _ ?_)
  refine wpAny_newFunctionEnv_cells S.kind hkind (fun env he s1 x => ?_)
  subst he
  refine ⟨lim.keeps x.toInCall.keep, codeAny_func ?_⟩
  obtain ⟨t, ht, hq⟩ := hbody cdv
  have I := inv_start (CX := CX) (E := E) S hr.hd e0 hl r x
  refine wpAny_mono (ht.run [] s1 (start N vs) H _ I hq) (fun fl s' hs => ?_) (fun e s' hs => hs)
  cases fl with
  | next =>
    obtain ⟨σ', H', J, q⟩ := hs
    exact ⟨V.non, H', J.os, J.bare, J.base, J.hok, rfl, q⟩
  | ret u =>
    obtain ⟨v, σ', H', J, rv, q⟩ := hs
    exact ⟨v, H', J.os, J.bare, J.base, J.hok, rv, q⟩
  | brk => obtain ⟨_, _, _, q⟩ := hs; exact q.elim
  | cont => obtain ⟨_, _, _, q⟩ := hs; exact q.elim

/-- a def of the text that lets nothing out, by its body -/
theorem okG {x qual : Str} {st : Stmt} {f : Addr} {fd : FuncData} {N ps : List Str} {k : Nat} {sp : Sp}
    (F : Fun K x qual st f fd) (S : FnScope N ps (defScope st))
    (len : ∀ vs H Q E, sp vs H Q E → vs.length = ps.length)
    (hbody : ∀ (cdv : Value) (A : Around) (outer : List Env) (s : Shared) (H : Hp) (vs : List V)
      (Q : VK) (E : XK), A.guards = some [] →
      Room k (A.deeper (envOfC qual (defScope st) s.heap.objs.size f cdv)) → sp vs H Q E →
      ∃ t, PSs (cxOf CX0 P w K mg base N qual (defScope st) f cdv A outer s H E).nox (defBody st) t ∧
        t { nx := fun _ H' => Q .non H', rt := Q } (start N vs) H) :
    FnG P w K mg base CX0 (k + 1) f fd ps sp := by
  refine ⟨len, fun A outer s H args us vs Q E hg hr e0 hb r hsp => ?_⟩
  refine body_at F S (len _ _ _ _ hsp) hr e0 hb r (fun cdv => ?_)
  obtain ⟨t, h, q⟩ := hbody cdv A outer s H vs Q E hg (hr.deeper _) hsp
  exact ⟨t, h.nox, q⟩
end

section
variable {X : Cx} {CX : CXT} {k : Nat} {f : Addr} {fd : FuncData} {ps : List Str} {sp : Sp}
  {dvs : List V} {ds : List Value} {E : XK}

theorem run_fnG {pins : List (Addr × Obj)} {σ : L2.St} {H : Hp} {s : Shared} {Q : VK} {us : List Value}
    {vs : List V} (F : FnG X.prog X.w X.K X.mg X.base CX k f fd ps sp) (hg : X.A.guards = some [])
    (hr : Room k X.A) (hb : Binds X.K fd ps ds) (hd : Vals dvs ds) (hx : Passes CX X E)
    (I : Inv X pins σ H s) (r : Vals vs us) (h : sp (vs ++ dvs) H Q E) :
    wpAny (model X.prog X.w) X.A (call (.ref f) us) (EP X pins σ Q) X.xe s := by
  have r2 : Vals (vs ++ dvs) (us ++ ds) := r.append hd
  have hl : (us ++ ds).length = ps.length := r2.length ▸ F.len _ _ _ _ h
  have step := F.run X.A X.stack s H ⟨us, []⟩ (us ++ ds) (vs ++ dvs) Q E hg hr I.env0
    (hb s us I.kIn hl) r2 h
  refine wpAny_call (codeAny_mono step (fun res s' hq => ?_))
  match res, hq with
  | .error e, hq => exact hx pins σ H s e s' I hq
  | .ok (.ret u), hq => exact I.after hq

/-- f(e, ..) -/
theorem pe_callG {x : Str} {p pos : Pos} {e : Expr} {es : List Expr} {t : TA}
    (F : FnG X.prog X.w X.K X.mg X.base CX k f fd ps sp) (hgd : X.A.guards = some [])
    (hr : Room k X.A) (hg : Gl X x) (hm : X.mg x = some (.ref f))
    (hk : PySem.W.keepIn X.K (.ref f) = true) (hb : Binds X.K fd ps ds) (hd : Vals dvs ds)
    (hx : Passes CX X E) (ha : PA X (e :: es) t) (hdb : (x == ("__debug__" : Str)) = false := by decide)
    (he : starEach (e :: es) X.env = (false, eval e X.env) :: starEach es X.env := by rfl)
    (hpl : (backTo pos (starEach es X.env)).any (·.1) = false := by rfl) :
    PE X (.Call (.Name x p) (e :: es) [] pos) (tCall sp dvs E t) := by
  constructor
  intro pins s σ H Q I h
  refine wpAny_Call_Name_kw (ld_glob I hg hm ?_ hdb)
  refine PySem.W.callWith_K (h₀ := X.base) I.ok.mod.kin hk (thn (ha.run pos pins s σ H _ I h)
    (fun us s1 hh => ?_)) he hpl
  obtain ⟨vs, H1, I1, r, q⟩ := hh
  exact ⟨I1.kIn, run_fnG F hgd hr hb hd hx I1 r q⟩

/-- repr(x), x data of nothing but None, bools, ints, texts, lists, tuples -/
def rRepr (K : PySem.W.Frag) : List V → Hp → VK → Prop := fun xs H Q => ∃ x d, xs = [x] ∧ Dp K H x d ∧
  d.showable = true ∧ d.hasDict = false ∧ d.depth ≤ 60 ∧ d.shown.length ≤ 16777216 ∧ Q (.str d.shown) H
theorem call_repr (hgd : X.A.guards = some []) (hr : Room k X.A) : CallR X (.builtin "repr") (rRepr X.K) := by
  intro pins s σ H vs us Q I r h
  obtain ⟨x, d, rfl, hd, hs, hn, hp, hz, q⟩ := h
  cases r with
  | cons rx rn =>
    cases rn
    rename_i u
    obtain ⟨as, rd⟩ := Dp.reads I d x u hd rx
    have hun := hr.un
    cases rd with
    | list h1 h2 h3 h4 =>
      refine repr_of_reads' (.list h1 h2 h3 h4) hs (fun z => by rw [hn] at z; cases z) hgd (by omega) (fun _ _ e => e) (fun h' tk tk' keep => ?_) (by rw [sizeLine_eq]; exact hz)
      exact ⟨.str _, H, I.kept keep, ⟨_, rfl⟩, q⟩
    | tuple h1 h2 h3 h4 =>
      refine repr_of_reads' (.tuple h1 h2 h3 h4) hs (fun z => by rw [hn] at z; cases z) hgd (by omega) (fun _ _ e => e) (fun h' tk tk' keep => ?_) (by rw [sizeLine_eq]; exact hz)
      exact ⟨.str _, H, I.kept keep, ⟨_, rfl⟩, q⟩
    | none => exact P.repr_of_none ⟨.str "None", H, I.tok _, ⟨_, rfl⟩, q⟩
    | bool b => exact P.repr_of_bool ⟨.str (if b then "True" else "False"), H, I.tok _, ⟨_, rfl⟩, q⟩
    | int i t =>
      have hb : i.natAbs.log2 < 1920 := of_decide_eq_true hs
      exact P.repr_of_int hb ⟨.str (toString i), H, I.tok _, ⟨_, rfl⟩, q⟩
    | str y t => exact P.repr_of_str (by exact ⟨.str (reprText y), H, I.tok _, ⟨_, rfl⟩, q⟩) (by rw [sizeLine_eq]; exact hz)
    | dict _ _ _ _ _ => cases hn
end
end MG
namespace F02
open PySem PySem.Spec PyProof.Rows L2 MG
def top (i : Nat) : Stmt := PySem.Challenge.pw_meetrounds_k11_known_loads.main.body.getD i (.Pass ⟨0, 0, 0, 0⟩)

/-! ### heaps -/
def But (p : Addr) (H H' : Hp) : Prop := ∀ b o, b ≠ p → H b = some o → H' b = some o
theorem But.refl {p : Addr} {H : Hp} : But p H H := fun _ _ _ h => h
theorem But.trans {p : Addr} {H H1 H2 : Hp} (a : But p H H1) (b : But p H1 H2) : But p H H2 := fun c o n h => b c o n (a c o n h)
theorem But.own {p : Addr} {H H1 : Hp} {o : HO} (a : But p H H1) : But p H (upd H1 p o) := fun c u n h => by
  rw [upd_ne n]; exact a c u n h
theorem But.new {p q : Addr} {H H1 : Hp} {o : HO} (a : But p H H1) (h : H1 q = none) : But p H (upd H1 q o) := fun c u n e => by
  rw [upd_ne (ne_of_none (a c u n e) h)]; exact a c u n e
def Jug (H : Hp) (p : Addr) (N : Nat) : Prop := ∃ a b c : Int, H p = some (.lst [.int a, .int b, .int c]) ∧ 0 ≤ a ∧ 0 ≤ b ∧ b < 9223372036854775783 ∧ 0 ≤ c ∧ c ≤ (N : Int)

section
variable {P : Program} {w : World} {K : PySem.W.Frag} {mg : Str → Option Value} {base : Heap}
abbrev s_l_pour : Stmt := top 43
theorem sc_l_pour : FnScope ["_law_jug_here", "_law_many", "_law_digit", "_law_mixed"] ["_law_jug_here", "_law_many"] (defScope s_l_pour) := ⟨rfl, rfl, rfl, by decide +kernel, rfl, by decide +kernel, by decide +kernel⟩
theorem lg16 {m : Int} (h1 : 1 ≤ m) (h2 : m < 10000000000000000) : m.natAbs.log2 < 9000 := Nat.lt_trans ((Nat.log2_lt (by omega)).mpr (show m.natAbs < 2 ^ 64 by omega)) (by decide)
/-- a number below m; the jug is one draw further -/
def sp_l_pour : Sp := fun vs H Q _ => ∃ (p : Addr) (m : Int) (N : Nat), vs = [.ref p, .int m] ∧ Jug H p N ∧ N < 1000000 ∧ 1 ≤ m ∧ m < 10000000000000000 ∧
  ∀ (r : Int) (H' : Hp), 0 ≤ r → r < m → But p H H' → Jug H' p (N + 1) → Q (.int r) H'
structure TxP (mg : Str → Option Value) : Prop where
  n_divmod : mg "divmod" = none
  n_int : mg "int" = none
theorem ok_l_pour {f : Addr} {fd : FuncData} (F : Fun K "_law_pour" "_law_pour" s_l_pour f fd) (T : TxP mg) : FnOk P w K mg base CX0 1 f fd ["_law_jug_here", "_law_many"] sp_l_pour := by
  refine F.ok sc_l_pour (fun vs H Q E h => ?_) (fun cdv A outer s H vs Q E hr h => ?_)
  · obtain ⟨p, m, N, rfl, _⟩ := h
    rfl
  · obtain ⟨p, m, N, rfl, ⟨a, b, c, hp, ha, hb0, hb1, hc0, hc1⟩, hN, m1, m2, k⟩ := h
    refine ⟨_, (pss_cons (ps_if (pt_cmpR op_gt (pe_ix ix_list (pv 0) pe_int (fun _ _ => rfl)) pe_int (nomark _))
        (pss_cons (ps_asg (pe_callB call_divmodW (by rfl) T.n_divmod (by decide +kernel) (pa_cons (pe_ix ix_list (pv 0) pe_int (fun _ _ => rfl)) (pa_cons (pv 1) pa_nil))) (pg_tup rfl (pgs_cons (pg_sub (pv 0) pe_int set_list) (pgs_cons (pg_name (i := 2) sc_l_pour.nd rfl (Or.inl rfl)) pgs_nil))))
      (pss_one (ps_ret (pv 2))))
        pss_nil)
      (pss_cons (ps_asg (pe_op op_add (pe_ix ix_list (pv 0) pe_int (fun _ _ => rfl)) pe_int) (pg_sub (pv 0) pe_int set_list))
      (pss_cons (ps_set (i := 3) sc_l_pour.nd rfl (Or.inl rfl) (pe_op op_add (pe_op op_mul (pe_ix ix_list (pv 0) pe_int (fun _ _ => rfl)) pe_int) (pe_op op_mul (pe_op op_mul pe_int (pe_ix ix_list (pv 0) pe_int (fun _ _ => rfl))) (pe_ix ix_list (pv 0) pe_int (fun _ _ => rfl)))))
      (pss_cons (ps_asg (pe_op op_mod (pe_callTy call_int1 (by rfl) T.n_int (by decide +kernel) (pa_cons (pe_op op_add (pv 3) pe_int) pa_nil)) pe_int) (pg_sub (pv 0) pe_int set_list))
      (pss_one (ps_ret (pe_op op_mod (pe_callTy call_int1 (by rfl) T.n_int (by decide +kernel) (pa_cons (pe_op op_fdiv (pe_ix ix_list (pv 0) pe_int (fun _ _ => rfl)) pe_int) pa_nil)) (pv 1)))))))), ?_⟩
    refine ⟨_, rfl, p, _, _, _, rfl, rfl, SqL.of hp, rfl, _, _, rfl, rfl, _, rfl, ?_⟩
    refine ite2 (fun h0 => ?_) (fun h0 => ?_)
    · have ha' : 0 < a := of_decide_eq_true h0
      refine ⟨_, rfl, p, _, _, _, rfl, rfl, SqL.of hp, rfl, _, rfl, _, _, rfl, ⟨by omega, PyProof.noPylong_of_log2 (lg16 m1 m2)⟩, fun t ht => ?_⟩
      have np : p ≠ t := ne_of_none hp ht
      refine ⟨t, _, rfl, SqT.of upd_same, rfl, _, _, rfl, _, rfl, p, _, 0, 0, rfl, rfl, (upd_ne np).trans hp, rfl, _, _, rfl, rfl, _, rfl, ?_⟩
      refine k _ _ (Int.emod_nonneg _ (by omega)) (Int.emod_lt_of_pos _ (by omega)) (But.own (But.new But.refl ht)) ⟨_, b, c, upd_same, Int.ediv_nonneg ha (by omega), hb0, hb1, hc0, by omega⟩
    · refine ⟨_, rfl, p, _, _, _, rfl, rfl, SqL.of hp, rfl, _, _, rfl, rfl, _, rfl, p, _, 2, 2, rfl, rfl, hp, rfl, ?_⟩
      have h1 : (upd H p (.lst [.int a, .int b, .int (c + 1)])) p = some (.lst [.int a, .int b, .int (c + 1)]) := upd_same
      refine ⟨_, rfl, p, _, _, _, rfl, rfl, SqL.of h1, rfl, _, _, rfl, rfl, .inl ⟨by omega, by omega⟩, _, rfl, p, _, _, _, rfl, rfl, SqL.of h1, rfl, _, _, rfl, rfl, .inl ⟨by omega, by omega⟩,
        _, rfl, p, _, _, _, rfl, rfl, SqL.of h1, rfl, _, _, rfl, rfl, .inr ⟨by omega, by omega⟩, _, _, rfl, rfl, ?_⟩
      refine ⟨_, rfl, _, _, rfl, rfl, (.inl ⟨_, rfl, _, _, rfl, rfl, (show (0 : Int) < 9223372036854775783 by decide), _, rfl, p, _, 1, 1, rfl, rfl, h1, rfl, ?_⟩)⟩
      refine ⟨_, rfl, p, _, _, _, rfl, rfl, SqL.of upd_same, rfl, _, _, rfl, rfl, ⟨by decide, by decide⟩, .inl ⟨_, rfl, _, rfl, _, _, rfl, rfl, (show (0 : Int) < m by omega), ?_⟩⟩
      refine k _ _ (Int.emod_nonneg _ (by omega)) (Int.emod_lt_of_pos _ (by omega)) (But.own (But.own But.refl)) ⟨a, _, c + 1, upd_same, ha, Int.emod_nonneg _ (by decide), Int.emod_lt_of_pos _ (by decide), by omega, by omega⟩

theorem if_true_of {b : Bool} {A B : Prop} (h : b = true) (x : A) : if b = true then A else B := by
  rw [if_pos h]; exact x
theorem if_false_of {b : Bool} {A B : Prop} (h : b = false) (x : B) : if b = true then A else B := by
  rw [h, if_neg Bool.false_ne_true]; exact x
theorem seq_set {te : TE} {i : Nat} {ts : TS} {D : Ends} {σ : L2.St} {H : Hp} (P : V → Prop) (hv : ∃ v, P v ∧ ∀ Q' : VK, Q' v H → te σ H Q') (k : ∀ v, P v → ts D (σ.set i (some v)) H) : tSeq (tAsg te (gName i)) ts D σ H := by
  obtain ⟨v, p, h⟩ := hv
  exact h _ (k v p)
theorem same_new {H H1 : Hp} {q : Addr} {o : HO} (a : Same H H1) (h : H1 q = none) : Same H (upd H1 q o) := fun c u e => by
  rw [upd_ne (ne_of_none (a c u e) h)]; exact a c u e
abbrev s_l_jug : Stmt := top 42
theorem sc_l_jug : FnScope ["_law_script", "_law_at", "_law_own", "_law_mixed", "_law_each"] ["_law_script", "_law_at"] (defScope s_l_jug) := ⟨rfl, rfl, rfl, by decide +kernel, rfl, by decide +kernel, by decide +kernel⟩
def sp_l_jug (K : PySem.W.Frag) : Sp := fun vs H Q _ => ∃ (a : Addr) (ns : List Int) (i : Int), vs = [.ref a, .int i] ∧ SqL K H a (ns.map V.int) ∧ ns.length ≤ 63 ∧ 0 ≤ i ∧ i ≤ 62 ∧
  ∀ (p : Addr) (H' : Hp), Same H H' → H p = none → Jug H' p 0 → Q (.ref p) H'
structure TxJ (mg : Str → Option Value) : Prop where
  n_len : mg "len" = none
  n_int : mg "int" = none
  n_abs : mg "abs" = none
theorem getI {ns : List Int} {i : Int} (h0 : 0 ≤ i) (h : i < (ns.length : Int)) : ∃ z : Int, atI (ns.map V.int) i = some (.int z) := by
  have hk : i.toNat < ns.length := by omega
  refine ⟨ns[i.toNat], ?_⟩
  unfold atI ixN
  rw [if_pos h0, List.length_map, if_pos h]
  show (ns.map V.int)[i.toNat]? = _
  rw [List.getElem?_map, List.getElem?_eq_getElem hk] <;> rfl
theorem ok_l_jug {f : Addr} {fd : FuncData} (F : Fun K "_law_jug" "_law_jug" s_l_jug f fd) (T : TxJ mg) : FnOk P w K mg base CX0 1 f fd ["_law_script", "_law_at"] (sp_l_jug K) := by
  refine F.ok sc_l_jug (fun vs H Q E h => ?_) (fun cdv A outer s H vs Q E hr h => ?_)
  · obtain ⟨a, ns, i, rfl, _⟩ := h
    rfl
  · obtain ⟨a, ns, i, rfl, hS, hlen, i0, i1, k⟩ := h
    refine ⟨_, (pss_cons (ps_set (i := 2) sc_l_jug.nd rfl (Or.inl rfl) (pe_ifExp (pt_cmpR op_lt (pv 1) (pe_callB call_len_seq (by rfl) T.n_len PySem.boot_len (pa_cons (pv 0) pa_nil)) (nomark _)) (pe_ix ix_list (pv 0) (pv 1) (fun _ _ => rfl)) (pe_op op_add pe_int (pv 1))))
      (pss_cons (ps_set (i := 3) sc_l_jug.nd rfl (Or.inl rfl) (pe_op op_mul pe_int (pe_op op_add (pv 1) pe_int)))
      (pss_cons (ps_for PassesOwn.never rfl (pi_list (pe_op op_cat (pe_slice sl_list (pv 0) po_none (po_some pe_int)) (pe_lst (pa_cons (pv 2) pa_nil)))) (pg_name (i := 4) sc_l_jug.nd rfl (Or.inl rfl))
        (pss_cons (ps_set (i := 3) sc_l_jug.nd rfl (Or.inl rfl) (pe_op op_add (pe_op op_mul (pv 3) pe_int) (pe_op op_mod (pe_callTy call_int1 (by rfl) T.n_int (by decide +kernel) (pa_cons (pv 4) pa_nil)) pe_int)))
      (pss_one (ps_set (i := 3) sc_l_jug.nd rfl (Or.inl rfl) (pe_op op_mod (pe_callTy call_int1 (by rfl) T.n_int (by decide +kernel) (pa_cons (pe_op op_add (pv 3) pe_int) pa_nil)) pe_int)))))
      (pss_one (ps_ret (pe_lst (pa_cons (pe_ifExp (pt_cmpR op_ge (pe_callB call_abs (by rfl) T.n_abs (by decide +kernel) (pa_cons (pv 2) pa_nil)) (pe_op op_pow pe_int pe_int) (nomark _)) (pe_callB call_abs (by rfl) T.n_abs (by decide +kernel) (pa_cons (pv 2) pa_nil)) pe_int) (pa_cons (pv 3) (pa_cons pe_int pa_nil))))))))), ?_⟩
    refine seq_set (fun v => ∃ z : Int, v = .int z) ?_ ?_
    · by_cases c : i < (ns.length : Int)
      · obtain ⟨z, hz⟩ := getI i0 c
        refine ⟨_, ⟨z, rfl⟩, fun Q' q => ⟨_, rfl, _, rfl, a, _, rfl, .inl hS, _, _, rfl, rfl, _, rfl, ?_⟩⟩
        rw [List.length_map]
        refine if_true_of (decide_eq_true c) ?_
        exact ⟨_, rfl, _, rfl, a, _, i, _, rfl, rfl, hS, hz, q⟩
      · refine ⟨_, ⟨40 + i, rfl⟩, fun Q' q => ⟨_, rfl, _, rfl, a, _, rfl, .inl hS, _, _, rfl, rfl, _, rfl, ?_⟩⟩
        rw [List.length_map]
        refine if_false_of (decide_eq_false c) ?_
        exact ⟨_, rfl, _, _, rfl, rfl, q⟩
    rintro _ ⟨own, rfl⟩
    refine ⟨_, rfl, _, _, rfl, rfl, _, _, rfl, rfl, .inl ⟨by decide, by decide⟩, ?_⟩
    refine ⟨_, rfl, 3, rfl, a, _, rfl, hS, fun q1 n1 => ?_⟩
    have s1 : Same H (upd H q1 (.lst (cutV (ns.map V.int) none (some 3)))) := same_new (Same.refl H) n1
    refine ⟨_, rfl, (by show 1 ≤ sizeLine; decide), fun q2 n2 => ?_⟩
    have s2 := same_new (o := .lst [V.int own]) s1 n2
    have h1 : (upd (upd H q1 (.lst (cutV (ns.map V.int) none (some 3)))) q2 (.lst [V.int own])) q1 = some (.lst (cutV (ns.map V.int) none (some 3))) := (upd_ne (ne_of_none upd_same n2)).trans upd_same
    have hlc : (cutV (ns.map V.int) none (some 3)).length ≤ 63 := by
      unfold cutV
      rw [List.length_take, List.length_drop, List.length_map]
      omega
    refine ⟨q1, q2, _, _, rfl, rfl, h1, upd_same, Nat.le_trans (Nat.add_le_add_right hlc 1) (by decide), fun q3 n3 => ?_⟩
    have s3 := same_new (o := .lst (cutV (ns.map V.int) none (some 3) ++ [V.int own])) s2 n3
    have all : ∀ (j : Nat) (y : V), (cutV (ns.map V.int) none (some 3) ++ [V.int own])[j]? = some y → ∃ z : Int, y = .int z := by
      intro j y e
      have m := List.mem_of_getElem? e
      rcases List.mem_append.mp m with m | m
      · unfold cutV at m
        have m2 := List.mem_of_mem_drop (List.mem_of_mem_take m)
        obtain ⟨z, _, ez⟩ := List.mem_map.mp m2
        exact ⟨z, ez.symm⟩
      · rw [List.mem_singleton] at m
        exact ⟨own, m⟩
    refine ⟨q3, rfl, ⟨_, SqL.of upd_same⟩, for_list (K := K) (a := q3) (xs := cutV (ns.map V.int) none (some 3) ++ [V.int own])
      (fun j σ H' => ∃ (m : Int) (v : Option V), σ = [some (.ref a), some (.int i), some (.int own), some (.int m), v] ∧ 0 ≤ m ∧ m < 9223372036854775783 ∧ Same H H' ∧ H' q3 = some (.lst (cutV (ns.map V.int) none (some 3) ++ [V.int own])))
      ⟨_, none, rfl, by omega, by omega, s3, upd_same⟩ (fun j σ H' _ ⟨_, _, _, _, _, _, e⟩ => SqL.of e) ?_ ?_⟩
    · rintro j y σ H' hj ⟨m, v, rfl, m0, m1, sm, hq⟩
      obtain ⟨z, rfl⟩ := all j y hj
      refine ⟨_, rfl, _, _, rfl, rfl, .inl ⟨by omega, by omega⟩, _, rfl, .inl ⟨z, rfl, _, _, rfl, rfl, (show (0 : Int) < 9223372036854775337 by decide), _, _, rfl, rfl, ?_⟩⟩
      refine ⟨_, rfl, _, _, rfl, rfl, .inl ⟨_, rfl, _, _, rfl, rfl, (show (0 : Int) < 9223372036854775783 by decide), ?_⟩⟩
      exact ⟨_, _, rfl, Int.emod_nonneg _ (by decide), Int.emod_lt_of_pos _ (by decide), sm, hq⟩
    · rintro σ H' ⟨m, v, rfl, m0, m1, sm, hq⟩
      refine ⟨_, rfl, _, rfl, _, _, rfl, rfl, ⟨by decide, by decide, by decide⟩, _, _, rfl, rfl, _, rfl, ?_⟩
      have abs0 : (0 : Int) ≤ (if own < 0 then -own else own) := by
        by_cases g : own < 0
        · rw [if_pos g]; omega
        · rw [if_neg g]; omega
      refine ite2 (fun _ => ?_) (fun _ => ?_)
      · refine ⟨_, rfl, _, rfl, _, rfl, (by show 3 ≤ sizeLine; decide), fun p np => ?_⟩
        exact k p _ (same_new sm np) (sm.free np) ⟨_, m, 0, upd_same, abs0, m0, m1, Int.le_refl _, Int.le_refl _⟩
      · refine ⟨_, rfl, (by show 3 ≤ sizeLine; decide), fun p np => ?_⟩
        exact k p _ (same_new sm np) (sm.free np) ⟨_, m, 0, upd_same, Int.le_refl _, m0, m1, Int.le_refl _, Int.le_refl _⟩
end
end F02
namespace F02
open PySem PySem.Spec PyProof.Rows L2 MG
theorem Jug.le {H : Hp} {p : Addr} {N M : Nat} (j : Jug H p N) (h : N ≤ M) : Jug H p M := by
  obtain ⟨a, b, c, e, h1, h2, h3, h4, h5⟩ := j
  exact ⟨a, b, c, e, h1, h2, h3, h4, by omega⟩
/-! ### names -/
def lowB (c : Nat) : Bool := decide (97 ≤ c ∧ c ≤ 122)
def signB (c : Nat) : Bool := lowB c || decide (48 ≤ c ∧ c ≤ 57)
def nameL : List Nat → Bool
  | [] => false
  | c :: r => lowB c && decide (r.length ≤ 7) && r.all signB
def Nm (x : Str) : Prop := nameL x.cps.toList = true
abbrev SIGNS : Str := "abcdefghijklmnopqrstuvwxyz0123456789"
theorem signs_at : ∀ i : _root_.Fin 36, ∃ c : Nat, SIGNS.cps.toList[i.val]? = some c ∧ signB c = true ∧ (i.val < 26 → lowB c = true) := by
  have h : ∀ i : _root_.Fin 36, SIGNS.cps.toList[i.val]? = some (SIGNS.cps.toList.getD i.val 0) ∧ signB (SIGNS.cps.toList.getD i.val 0) = true ∧ (i.val < 26 → lowB (SIGNS.cps.toList.getD i.val 0) = true) := by decide +kernel
  exact fun i => ⟨_, h i⟩
theorem atI_nat {α : Type} {xs : List α} {i : Int} {x : α} (h0 : 0 ≤ i) (h : xs[i.toNat]? = some x) : atI xs i = some x := by
  have hk : i.toNat < xs.length := (List.getElem?_eq_some_iff.mp h).1
  unfold atI ixN
  rw [if_pos h0, if_pos (by omega)]
  exact h
theorem sign_pick {i : Int} (h0 : 0 ≤ i) (h : i < 36) : ∃ c, atI SIGNS.cps.toList i = some c ∧ signB c = true ∧ (i < 26 → lowB c = true) := by
  obtain ⟨c, h1, h2, h3⟩ := signs_at ⟨i.toNat, by omega⟩
  exact ⟨c, atI_nat h0 h1, h2, fun q => h3 (show i.toNat < 26 by omega)⟩
def MENU : List V := [.str "host", .str "guest", .str "tables", .str "tables1", .str "a", .str "ab", .str "z9", .str "x"]
theorem menu_pick {i : Int} (h0 : 0 ≤ i) (h : i < 8) : ∃ x : Str, atI MENU i = some (.str x) ∧ Nm x := by
  have c : i = 0 ∨ i = 1 ∨ i = 2 ∨ i = 3 ∨ i = 4 ∨ i = 5 ∨ i = 6 ∨ i = 7 := by omega
  rcases c with rfl | rfl | rfl | rfl | rfl | rfl | rfl | rfl
  all_goals exact ⟨_, rfl, by unfold Nm; decide +kernel⟩
theorem len_pick {i : Int} (h0 : 0 ≤ i) (h : i < 4) : ∃ n : Nat, atI [V.int 0, V.int 1, V.int 2, V.int 7] i = some (.int n) ∧ n ≤ 7 := by
  have c : i = 0 ∨ i = 1 ∨ i = 2 ∨ i = 3 := by omega
  rcases c with rfl | rfl | rfl | rfl
  · exact ⟨0, rfl, by decide⟩
  · exact ⟨1, rfl, by decide⟩
  · exact ⟨2, rfl, by decide⟩
  · exact ⟨7, rfl, by decide⟩
theorem app_cps (x y : Str) : (x ++ y).cps.toList = x.cps.toList ++ y.cps.toList := by
  show (x.cps ++ y.cps).toList = _
  rw [Array.toList_append]
/-- a letter, then i signs -/
def Grown (x : Str) (i : Nat) : Prop := ∃ c r, x.cps.toList = c :: r ∧ lowB c = true ∧ r.length = i ∧ r.all signB = true
theorem Grown.nm {x : Str} {i : Nat} (g : Grown x i) (h : i ≤ 7) : Nm x := by
  obtain ⟨c, r, e, h1, h2, h3⟩ := g
  unfold Nm
  rw [e]
  show (lowB c && decide (r.length ≤ 7) && r.all signB) = true
  rw [h1, h3, h2, decide_eq_true h] <;> rfl
theorem Grown.len {x : Str} {i : Nat} (g : Grown x i) : x.length = i + 1 := by
  obtain ⟨c, r, e, h1, h2, h3⟩ := g
  show x.cps.size = _
  rw [← Array.length_toList, e, List.length_cons, h2]
theorem Grown.more {x : Str} {i c : Nat} (g : Grown x i) (h : signB c = true) : Grown (x ++ ⟨#[c]⟩) (i + 1) := by
  obtain ⟨d, r, e, h1, h2, h3⟩ := g
  refine ⟨d, r ++ [c], ?_, h1, ?_, ?_⟩
  · rw [app_cps, e] <;> rfl
  · rw [List.length_append, h2] <;> rfl
  · rw [List.all_append, h3, Bool.true_and, List.all_cons, h] <;> rfl
section
variable {P : Program} {w : World} {K : PySem.W.Frag} {mg : Str → Option Value} {base : Heap}
abbrev s_l_word : Stmt := top 44
theorem sc_l_word : FnScope ["_law_jug_here", "_law_signs", "_law_words_here", "_law_word_here", "_law_more"] ["_law_jug_here"] (defScope s_l_word) := ⟨rfl, rfl, rfl, by decide +kernel, rfl, by decide +kernel, by decide +kernel⟩
/-- a name -/
def sp_l_word : Sp := fun vs H Q _ => ∃ (p : Addr) (N : Nat), vs = [.ref p] ∧ Jug H p N ∧ N + 11 ≤ 1000000 ∧
  ∀ (x : Str) (H' : Hp), Nm x → But p H H' → Jug H' p (N + 11) → Q (.str x) H'
structure TxW (K : PySem.W.Frag) (mg : Str → Option Value) (f_l_pour : Addr) : Prop where
  n_range : mg "range" = none
  g_l_pour : mg "_law_pour" = some (.ref f_l_pour)
  k_l_pour : PySem.W.keepIn K (.ref f_l_pour) = true
theorem ok_l_word {f f_l_pour : Addr} {fd fd_l_pour : FuncData} (F : Fun K "_law_word" "_law_word" s_l_word f fd) (T : TxW K mg f_l_pour)
    (G_l_pour : FnOk P w K mg base CX0 1 f_l_pour fd_l_pour ["_law_jug_here", "_law_many"] sp_l_pour) (b_l_pour : Binds K fd_l_pour ["_law_jug_here", "_law_many"] []) :
    FnOk P w K mg base CX0 2 f fd ["_law_jug_here"] sp_l_word := by
  refine F.ok sc_l_word (fun vs H Q E h => ?_) (fun cdv A outer s H vs Q E hr h => ?_)
  · obtain ⟨p, N, rfl, _⟩ := h
    rfl
  · obtain ⟨p, N, rfl, J, hN, k⟩ := h
    refine ⟨_, (pss_cons (ps_par (i := 1) (j := 2) (by rfl) sc_l_word.nd rfl rfl (by decide) rfl rfl (pa_cons pe_str (pa_cons (pe_lst (pa_cons pe_str (pa_cons pe_str (pa_cons pe_str (pa_cons pe_str (pa_cons pe_str (pa_cons pe_str (pa_cons pe_str (pa_cons pe_str pa_nil))))))))) pa_nil)) (by rfl))
      (pss_cons (ps_if (pt_cmpR op_eq (pe_call G_l_pour hr rfl T.g_l_pour T.k_l_pour b_l_pour .nil pass0 (pa_cons (pv 0) (pa_cons pe_int pa_nil))) pe_int (nomark _))
        (pss_one (ps_ret (pe_ix ix_list (pv 2) (pe_call G_l_pour hr rfl T.g_l_pour T.k_l_pour b_l_pour .nil pass0 (pa_cons (pv 0) (pa_cons pe_int pa_nil))) (fun _ _ => rfl))))
        pss_nil)
      (pss_cons (ps_set (i := 3) sc_l_word.nd rfl (Or.inl rfl) (pe_ix ix_str (pv 1) (pe_call G_l_pour hr rfl T.g_l_pour T.k_l_pour b_l_pour .nil pass0 (pa_cons (pv 0) (pa_cons pe_int pa_nil))) (fun _ _ => rfl)))
      (pss_cons (ps_for PassesOwn.never rfl (pi_range1 rfl T.n_range (pa_cons (pe_ix ix_list (pe_lst (pa_cons pe_int (pa_cons pe_int (pa_cons pe_int (pa_cons pe_int pa_nil))))) (pe_call G_l_pour hr rfl T.g_l_pour T.k_l_pour b_l_pour .nil pass0 (pa_cons (pv 0) (pa_cons pe_int pa_nil))) (fun _ _ => rfl)) pa_nil)) (pg_name (i := 4) sc_l_word.nd rfl (Or.inl rfl))
        (pss_one (ps_set (i := 3) sc_l_word.nd rfl (Or.inl rfl) (pe_op op_add_str (pv 3) (pe_ix ix_str (pv 1) (pe_call G_l_pour hr rfl T.g_l_pour T.k_l_pour b_l_pour .nil pass0 (pa_cons (pv 0) (pa_cons pe_int pa_nil))) (fun _ _ => rfl))))))
      (pss_one (ps_ret (pv 3))))))), ?_⟩
    refine ⟨(by show 8 ≤ sizeLine; decide), fun q nq => ⟨_, _, rfl, ?_⟩⟩
    have nqp : q ≠ p := fun e => by
      obtain ⟨_, _, _, e2, _⟩ := J
      rw [e, e2] at nq
      cases nq
    have J0 : Jug (upd H q (.lst MENU)) p N := by
      obtain ⟨a, b, c, e2, r⟩ := J
      exact ⟨a, b, c, (upd_ne nqp.symm).trans e2, r⟩
    have b0 : But p H (upd H q (.lst MENU)) := But.new But.refl nq
    have hq0 : (upd H q (.lst MENU)) q = some (.lst MENU) := upd_same
    refine ⟨_, rfl, p, 4, N, rfl, J0, by omega, by decide, by decide, fun r H1 r0 r1 b1 j1 => ⟨rfl, _, rfl, ?_⟩⟩
    have hq1 := b1 q _ nqp hq0
    refine ite2 (fun c => ?_) (fun c => ?_)
    · refine ⟨_, rfl, _, rfl, p, 8, N + 1, rfl, j1, by omega, by decide, by decide, fun r2 H2 q0 q1 b2 j2 => ?_⟩
      obtain ⟨x, hx, nx⟩ := menu_pick q0 q1
      exact ⟨q, MENU, r2, _, rfl, rfl, SqL.of (b2 q _ nqp hq1), hx, k x H2 nx ((b0.trans b1).trans b2) (j2.le (by omega))⟩
    · refine ⟨_, rfl, _, rfl, p, 26, N + 1, rfl, j1, by omega, by decide, by decide, fun r2 H2 q0 q1 b2 j2 => ?_⟩
      obtain ⟨c0, hc0, _, hl0⟩ := sign_pick q0 (by omega)
      refine ⟨SIGNS, r2, c0, rfl, rfl, (by decide +kernel), hc0, ?_⟩
      have g0 : Grown ⟨#[c0]⟩ 0 := ⟨c0, [], rfl, hl0 q1, rfl, rfl⟩
      refine ⟨(by show 4 ≤ sizeLine; decide), fun t nt => ?_⟩
      have ntp : t ≠ p := fun e => by
        obtain ⟨_, _, _, e2, _⟩ := j2
        rw [e, e2] at nt
        cases nt
      have j3 : Jug (upd H2 t (.lst [.int 0, .int 1, .int 2, .int 7])) p (N + 2) := by
        obtain ⟨a, b, c, e2, r⟩ := j2
        exact ⟨a, b, c, (upd_ne ntp.symm).trans e2, r⟩
      refine ⟨_, rfl, p, 4, N + 2, rfl, j3, by omega, by decide, by decide, fun r3 H3 u0 u1 b3 j4 => ?_⟩
      obtain ⟨n, hn, hn7⟩ := len_pick u0 u1
      refine ⟨t, _, r3, _, rfl, rfl, SqL.of (b3 t _ ntp upd_same), hn, n, rfl, by omega, by omega, ?_⟩
      have b4 : But p H H3 := (((b0.trans b1).trans b2).new nt).trans b3
      refine for_range (lo := 0) (n := (n : Int).toNat) (fun i σ H' => ∃ (x : Str) (v : Option V), σ = [some (.ref p), some (.str SIGNS), some (.ref q), some (.str x), v] ∧ Grown x i ∧ But p H H' ∧ Jug H' p (N + 3 + i))
        ⟨_, none, rfl, g0, b4, j4⟩ ?_ ?_
      · rintro i σ H' hi ⟨x, v, rfl, g, bb, jj⟩
        have hi' : i < n := by omega
        refine ⟨_, rfl, _, rfl, _, rfl, p, 36, N + 3 + i, rfl, jj, by omega, by decide, by decide, fun r4 H4 w0 w1 b5 j5 => ?_⟩
        obtain ⟨c1, hc1, hs1, _⟩ := sign_pick w0 w1
        refine ⟨SIGNS, r4, c1, rfl, rfl, (by decide +kernel), hc1, _, _, rfl, rfl, ?_, ?_⟩
        · rw [g.len]
          show i + 1 + 1 ≤ sizeLine
          exact Nat.le_trans (show i + 1 + 1 ≤ 100 by omega) (by decide)
        · exact ⟨_, _, rfl, g.more hs1, bb.trans b5, j5.le (by omega)⟩
      · rintro σ H' ⟨x, v, rfl, g, bb, jj⟩
        exact ⟨_, rfl, k x H' (g.nm (by omega)) bb (jj.le (by omega))⟩

end
theorem int_small {i : Int} (h0 : 0 ≤ i) (h : i < 128) : i.natAbs.log2 < 1920 := by
  have q : ∀ j : _root_.Fin 128, j.val.log2 < 1920 := by decide +kernel
  exact q ⟨i.natAbs, by omega⟩
theorem tyes {σ : L2.St} {H : Hp} {Q : Bool → Hp → Prop} (h : Q true H) : tYes σ H Q := h
theorem But.mut {p q : Addr} {H H1 : Hp} {o : HO} (a : But p H H1) (h : H q = none) : But p H (upd H1 q o) := fun c u n e => by
  rw [upd_ne (ne_of_none e h)]; exact a c u n e
theorem Jug.but {H H1 : Hp} {p : Addr} {N : Nat} (j : Jug H p N) (h : ∀ o, H p = some o → H1 p = some o) : Jug H1 p N := by
  obtain ⟨a, b, c, e, r⟩ := j
  exact ⟨a, b, c, h _ e, r⟩
theorem Jug.ne {H : Hp} {p q : Addr} {N : Nat} (j : Jug H p N) (h : H q = none) : q ≠ p := fun e => by
  obtain ⟨_, _, _, e2, _⟩ := j
  rw [e, e2] at h
  cases h
def qn (j : Nat) : Str := ("q" : Str) ++ (toString (0 + (j : Int)) : String)
theorem qn_nm : ∀ j : _root_.Fin 8, Nm (qn j.val) := by
  have h : ∀ j : _root_.Fin 8, nameL (qn j.val).cps.toList = true := by decide +kernel
  exact h
theorem qn_nodup : ((List.range 8).map qn).Nodup := by decide +kernel
theorem qs_nodup {m : Nat} (h : m ≤ 8) : ((List.range m).map qn).Nodup := by
  refine qn_nodup.sublist ?_
  refine List.Sublist.map _ ?_
  rw [List.range_sublist]
  exact h
theorem sub_len {α : Type} [DecidableEq α] : ∀ {l m : List α}, l.Nodup → (∀ x ∈ l, x ∈ m) → l.length ≤ m.length
  | [], _, _, _ => Nat.zero_le _
  | a :: l, m, nd, h => by
    have nd' := List.nodup_cons.mp nd
    have ha := h a (List.mem_cons_self ..)
    have ih := sub_len (l := l) (m := m.erase a) nd'.2 fun x hx => by
      have hne : x ≠ a := fun e => nd'.1 (e ▸ hx)
      exact (List.mem_erase_of_ne hne).mpr (h x (List.mem_cons_of_mem _ hx))
    rw [List.length_erase_of_mem ha] at ih
    have := List.length_pos_of_mem ha
    rw [List.length_cons]
    omega
theorem inV_str (x : Str) (xs : List Str) : inV (.str x) (xs.map V.str) = decide (x ∈ xs) := by
  unfold inV
  induction xs with
  | nil => rfl
  | cons y ys ih =>
    rw [List.map_cons, List.any_cons, ih]
    show ((y == x) || decide (x ∈ ys)) = decide (x ∈ y :: ys)
    by_cases e : y = x
    · subst e
      simp
    · have e' : (y == x) = false := beq_eq_false_iff_ne.mpr e
      rw [e', Bool.false_or]
      have : x ∈ y :: ys ↔ x ∈ ys := by
        rw [List.mem_cons]
        exact ⟨fun h => h.elim (fun h => absurd h.symm e) id, Or.inr⟩
      simp only [this]
theorem flat_strs (xs : List Str) : (xs.map V.str).all flatV = true := by
  rw [List.all_eq_true]
  intro v hv
  obtain ⟨x, _, rfl⟩ := List.mem_map.mp hv
  rfl
section
variable {P : Program} {w : World} {K : PySem.W.Frag} {mg : Str → Option Value} {base : Heap}
abbrev s_l_words : Stmt := top 45
theorem sc_l_words : FnScope ["_law_jug_here", "_law_many", "_law_found", "_law_at", "_law_word_here", "_law_each", "_law_number_here"] ["_law_jug_here", "_law_many"] (defScope s_l_words) := ⟨rfl, rfl, rfl, by decide +kernel, rfl, by decide +kernel, by decide +kernel⟩
/-- so many different names, in a new list -/
def sp_l_words : Sp := fun vs H Q _ => ∃ (p : Addr) (m N : Nat), vs = [.ref p, .int (m : Int)] ∧ Jug H p N ∧ m ≤ 8 ∧ N + 11 * m + 11 ≤ 1000000 ∧
  ∀ (q : Addr) (xs : List Str) (H' : Hp), H q = none → H' q = some (.lst (xs.map V.str)) → xs.length = m → xs.Nodup → (∀ x ∈ xs, Nm x) → But p H H' → Jug H' p (N + 11 * m) → Q (.ref q) H'
structure TxWs (K : PySem.W.Frag) (mg : Str → Option Value) (f_l_word : Addr) : Prop where
  n_range : mg "range" = none
  n_str : mg "str" = none
  g_l_word : mg "_law_word" = some (.ref f_l_word)
  k_l_word : PySem.W.keepIn K (.ref f_l_word) = true
theorem ok_l_words {f f_l_word : Addr} {fd fd_l_word : FuncData} (F : Fun K "_law_words" "_law_words" s_l_words f fd) (T : TxWs K mg f_l_word)
    (G_l_word : FnOk P w K mg base CX0 2 f_l_word fd_l_word ["_law_jug_here"] sp_l_word) (b_l_word : Binds K fd_l_word ["_law_jug_here"] []) :
    FnOk P w K mg base CX0 3 f fd ["_law_jug_here", "_law_many"] sp_l_words := by
  refine F.ok sc_l_words (fun vs H Q E h => ?_) (fun cdv A outer s H vs Q E hr h => ?_)
  · obtain ⟨p, m, N, rfl, _⟩ := h
    rfl
  · obtain ⟨p, m, N, rfl, J, hm, hN, k⟩ := h
    refine ⟨_, (pss_cons (ps_set (i := 2) sc_l_words.nd rfl (Or.inr rfl) (pe_lst pa_nil))
      (pss_cons (ps_for PassesOwn.never rfl (pi_range1 rfl T.n_range (pa_cons (pv 1) pa_nil)) (pg_name (i := 3) sc_l_words.nd rfl (Or.inl rfl))
        (pss_cons (ps_set (i := 4) sc_l_words.nd rfl (Or.inl rfl) (pe_call G_l_word hr rfl T.g_l_word T.k_l_word b_l_word .nil pass0 (pa_cons (pv 0) pa_nil)))
      (pss_cons (ps_if (pt_cmpR op_in_seq (pv 4) (pv 2) rfl)
        (pss_one (ps_set (i := 4) sc_l_words.nd rfl (Or.inl rfl) (pe_ix ix_list (pe_lc (own := [("_law_each", 5)]) (g := gName 5) rfl sc_l_words.nd (pi_list (pe_lc (own := [("_law_number_here", 6)]) (g := gName 6) (tt := tYes) rfl sc_l_words.nd (pi_range1 rfl T.n_range (pa_cons (pv 1) pa_nil)) (blkOk_by (own := [("_law_number_here", 6)]) (N := ["_law_jug_here", "_law_many", "_law_found", "_law_at", "_law_word_here", "_law_each", "_law_number_here"]) (sc := defScope s_l_words) (by decide +kernel)) (fun _ _ _ _ _ => (pg_name (i := 6) sc_l_words.nd rfl (Or.inl rfl))) (fun _ _ _ _ _ => pts_nil) (fun _ _ _ _ _ => (pe_op op_add_str pe_str (pe_callTy call_str_int (by rfl) T.n_str (by decide +kernel) (pa_cons (pv 6) pa_nil)))))) (blkOk_by (own := [("_law_each", 5)]) (N := ["_law_jug_here", "_law_many", "_law_found", "_law_at", "_law_word_here", "_law_each", "_law_number_here"]) (sc := defScope s_l_words) (by decide +kernel)) (fun _ _ _ _ _ => (pg_name (i := 5) sc_l_words.nd rfl (Or.inl rfl))) (fun _ _ _ _ _ => (pts_one (pt_cmpR (r := rIn K true) op_notIn_seq (pv 5) (pv 2) rfl))) (fun _ _ _ _ _ => (pv 5))) pe_int (fun _ _ => rfl))))
        pss_nil)
      (pss_one (ps_expr (pe_bm PySem.F.plainAttrs_list PySem.F.slot_list_append PySem.F.type_list_append mt_append (pv 2) (pa_cons (pv 4) pa_nil)))))))
      (pss_one (ps_ret (pv 2))))), ?_⟩
    refine ⟨(by show 0 ≤ sizeLine; decide), fun q nq => ?_⟩
    have nqp : q ≠ p := J.ne nq
    have J0 : Jug (upd H q (.lst [])) p N := J.but fun o e => (upd_ne nqp.symm).trans e
    refine ⟨_, rfl, m, rfl, by omega, by omega, ?_⟩
    refine for_range (lo := 0) (n := ((m : Nat) : Int).toNat) (fun i σ H' => ∃ (xs : List Str) (v3 v4 : Option V), σ = [some (.ref p), some (.int m), some (.ref q), v3, v4, none, none] ∧ H' q = some (.lst (xs.map V.str)) ∧ xs.length = i ∧ xs.Nodup ∧ (∀ x ∈ xs, Nm x) ∧ But p H H' ∧ Jug H' p (N + 11 * i))
        ⟨[], none, none, rfl, upd_same, rfl, List.nodup_nil, (fun x h => by cases h), But.new But.refl nq, J0⟩ ?_ ?_
    · rintro i σ H' hi ⟨xs, v3, v4, rfl, hq, hl, nd, hn, bb, jj⟩
      have hi' : i < m := by omega
      refine ⟨_, rfl, p, N + 11 * i, rfl, jj, by omega, fun x H1 nx b1 j1 => ?_⟩
      have hq1 : H1 q = some (.lst (xs.map V.str)) := b1 q _ nqp hq
      have bb1 := bb.trans b1
      have last : ∀ (y : Str) (H2 : Hp) (v3 : Option V), Nm y → y ∉ xs → H2 q = some (.lst (xs.map V.str)) → But p H H2 → Jug H2 p (N + 11 * i + 11) →
          ∃ (zs : List Str) (v3' v4' : Option V), [some (V.ref p), some (.int m), some (.ref q), v3, some (.str y), none, none] = [some (.ref p), some (.int m), some (.ref q), v3', v4', none, none] ∧ (upd H2 q (.lst (xs.map V.str ++ [.str y]))) q = some (.lst (zs.map V.str)) ∧ zs.length = i + 1 ∧ zs.Nodup ∧ (∀ x ∈ zs, Nm x) ∧ But p H (upd H2 q (.lst (xs.map V.str ++ [.str y]))) ∧ Jug (upd H2 q (.lst (xs.map V.str ++ [.str y]))) p (N + 11 * (i + 1)) := by
        intro y H2 v3 ny hy h2 b2 j2
        refine ⟨xs ++ [y], _, _, rfl, ?_, ?_, ?_, ?_, b2.mut nq, ?_⟩
        · rw [upd_same, List.map_append] <;> rfl
        · rw [List.length_append, hl] <;> rfl
        · rw [List.nodup_append]
          refine ⟨nd, by simp, fun a ha b hb e => ?_⟩
          rw [List.mem_singleton] at hb
          exact hy (by rw [← hb, ← e]; exact ha)
        · intro z hz
          rcases List.mem_append.mp hz with hz | hz
          · exact hn z hz
          · rw [List.mem_singleton] at hz
            rw [hz]
            exact ny
        · exact (j2.but fun o e => (upd_ne nqp.symm).trans e).le (by omega)
      refine ⟨_, rfl, _, rfl, q, _, rfl, .inl (SqL.of hq1), rfl, flat_strs xs, _, rfl, ?_⟩
      rw [inV_str]
      refine ite2 (fun c => ?_) (fun c => ?_)
      · refine ⟨_, rfl, m, rfl, by omega, by omega, fun D1 nD1 => ?_⟩
        refine lc_range (lo := 0) (n := ((m : Nat) : Int).toNat) (fun j G => G D1 = some (.lst (((List.range j).map qn).map V.str)) ∧ Same H1 G) ⟨upd_same, same_new (Same.refl H1) nD1⟩ ?_ ?_
        · rintro j G hj ⟨g1, g2⟩
          refine ⟨rfl, ?_⟩
          refine tyes ?_
          refine iteT ?_
          have hj8 : j < 8 := by omega
          refine ⟨_, rfl, _, rfl, ?_, _, _, rfl, rfl, ?_, _, g1, ?_, ?_, ?_⟩
          · exact int_small (by omega) (by omega)
          · have := qn_nm ⟨j, hj8⟩
            exact Nat.le_trans (show 1 + (Str.ofString (toString (0 + (j : Int)))).length ≤ 100 from by
              have h : ∀ j : _root_.Fin 8, 1 + (Str.ofString (toString (0 + (j.val : Int)))).length ≤ 100 := by decide +kernel
              exact h ⟨j, hj8⟩) (by decide)
          · rw [List.length_map, List.length_map, List.length_range]
            exact Nat.lt_of_lt_of_le (show j < 100 by omega) (by decide)
          · show (upd G D1 _) D1 = _
            rw [upd_same, List.range_succ, List.map_append, List.map_append] <;> rfl
          · intro b o hb
            rw [upd_ne (ne_of_none hb nD1)]
            exact g2 b o hb
        · rintro G ⟨g1, g2⟩
          refine ⟨D1, rfl, ⟨_, SqL.of g1⟩, fun D2 nD2 => ?_⟩
          have g1' := g1
          refine lc_list (K := K) (a := D1) (xs := ((List.range ((m : Nat) : Int).toNat).map qn).map V.str) (fun j G2 => G2 D2 = some (.lst (((((List.range ((m : Nat) : Int).toNat).map qn).take j).filter fun y => decide (y ∉ xs)).map V.str)) ∧ Same G G2)
            ⟨upd_same, same_new (Same.refl G) nD2⟩ (fun j G2 _ z => SqL.of (z.2 _ _ g1)) ?_ ?_
          · rintro j y G2 hy ⟨z1, z2⟩
            obtain ⟨u, hu, rfl⟩ : ∃ u, ((List.range ((m : Nat) : Int).toNat).map qn)[j]? = some u ∧ y = V.str u := by
              rw [List.getElem?_map] at hy
              cases e : ((List.range ((m : Nat) : Int).toNat).map qn)[j]? with
              | none => rw [e] at hy; cases hy
              | some u => rw [e] at hy; exact ⟨u, rfl, (Option.some.inj hy).symm⟩
            have ht : (((List.range ((m : Nat) : Int).toNat).map qn).take (j + 1)) = (((List.range ((m : Nat) : Int).toNat).map qn).take j) ++ [u] := by
              rw [List.take_add_one, hu] <;> rfl
            have hq2 : G2 q = some (.lst (xs.map V.str)) := z2 _ _ (g2 _ _ hq1)
            refine ⟨rfl, _, rfl, _, rfl, q, _, rfl, .inl (SqL.of hq2), rfl, flat_strs xs, _, rfl, ?_⟩
            rw [inV_str]
            by_cases hu2 : u ∈ xs
            · refine if_false_of (by simp [hu2]) ⟨?_, z2⟩
              rw [z1, ht, List.filter_append, List.filter_cons_of_neg (by simp [hu2])]
              simp
            · refine if_true_of (by simp [hu2]) ⟨_, rfl, _, z1, ?_, ?_, ?_⟩
              · rw [List.length_map]
                have l1 := List.length_filter_le (fun y => decide (y ∉ xs)) (((List.range ((m : Nat) : Int).toNat).map qn).take j)
                rw [List.length_take, List.length_map, List.length_range] at l1
                exact Nat.lt_of_lt_of_le (show _ < 100 by omega) (by decide)
              · show (upd G2 D2 _) D2 = _
                rw [upd_same, ht, List.filter_append, List.filter_cons_of_pos (by simp [hu2]), List.map_append] <;> rfl
              · intro b o hb
                rw [upd_ne (ne_of_none hb nD2)]
                exact z2 b o hb
          · rintro G2 ⟨z1, z2⟩
            rw [List.length_map, List.take_length] at z1
            have hlen : ((List.range ((m : Nat) : Int).toNat).map qn).length = m := by
              rw [List.length_map, List.length_range]; omega
            have nn : ((List.range ((m : Nat) : Int).toNat).map qn).Nodup := qs_nodup (by omega)
            cases hf : ((List.range ((m : Nat) : Int).toNat).map qn).filter (fun y => decide (y ∉ xs)) with
            | nil =>
              exfalso
              have sub := sub_len nn (m := xs) (fun z hz => by
                by_cases q : z ∈ xs
                · exact q
                · have : z ∈ ((List.range ((m : Nat) : Int).toNat).map qn).filter (fun y => decide (y ∉ xs)) := List.mem_filter.mpr ⟨hz, by simp [q]⟩
                  rw [hf] at this
                  cases this)
              omega
            | cons y r =>
              have hy : y ∈ ((List.range ((m : Nat) : Int).toNat).map qn).filter (fun y => decide (y ∉ xs)) := by rw [hf]; exact List.mem_cons_self ..
              obtain ⟨hy1, hy2⟩ := List.mem_filter.mp hy
              obtain ⟨jj', hjj, rfl⟩ := List.mem_map.mp hy1
              have ny := qn_nm ⟨jj', by have := List.mem_range.mp hjj; omega⟩
              rw [hf] at z1
              have sm : Same H1 G2 := g2.trans z2
              have hq2 : G2 q = some (.lst (xs.map V.str)) := sm _ _ hq1
              refine ⟨D2, _, 0, _, rfl, rfl, SqL.of z1, atI_nat (by decide) rfl, ?_⟩
              refine ⟨_, rfl, .inl ⟨rfl, _, SqL.of hq2⟩, _, rfl, q, _, _, rfl, rfl, hq2, ?_, last _ G2 _ ny (by simpa using hy2) hq2 (fun b o nb hb => sm b o (bb1 b o nb hb)) (j1.but fun o e => sm _ _ e)⟩
              rw [List.length_map, hl]
              exact Nat.lt_of_lt_of_le (show i < 100 by omega) (by decide)
      · have hx : x ∉ xs := fun z => c (by simp [z])
        refine ⟨_, rfl, .inl ⟨rfl, _, SqL.of hq1⟩, _, rfl, q, _, _, rfl, rfl, hq1, ?_, last x H1 _ nx hx hq1 bb1 j1⟩
        rw [List.length_map, hl]
        exact Nat.lt_of_lt_of_le (show i < 100 by omega) (by decide)
    · rintro σ H' ⟨xs, v3, v4, rfl, hq, hl, nd, hn, bb, jj⟩
      have e : ((m : Nat) : Int).toNat = m := by omega
      rw [e] at hl jj
      exact ⟨_, rfl, k q xs H' nq hq hl nd hn bb jj⟩
end
end F02
namespace F02
open PySem PySem.Spec PyProof.Rows L2 MG
theorem seq_setH {te : TE} {i : Nat} {ts : TS} {D : Ends} {σ : L2.St} {H : Hp} (P : V → Hp → Prop) (hv : ∀ Q' : VK, (∀ v H', P v H' → Q' v H') → te σ H Q') (k : ∀ v H', P v H' → ts D (σ.set i (some v)) H') : tSeq (tAsg te (gName i)) ts D σ H := hv _ k
/-! ### data that cannot change: None, bools, ints, texts, tuples of such -/
mutual
inductive Im (K : PySem.W.Frag) (H : Hp) : V → PyData → Prop
  | non : Im K H .non .none
  | bl (b : Bool) : Im K H (.bl b) (.bool b)
  | int (i : Int) : Im K H (.int i) (.int i)
  | str (x : Str) : Im K H (.str x) (.str x)
  | tup {a : Addr} {xs : List V} {ds : List PyData} : SqT K H a xs → ImAll K H xs ds → Im K H (.ref a) (.tuple ds)
inductive ImAll (K : PySem.W.Frag) (H : Hp) : List V → List PyData → Prop
  | nil : ImAll K H [] []
  | cons {v : V} {vs : List V} {d : PyData} {ds : List PyData} : Im K H v d → ImAll K H vs ds → ImAll K H (v :: vs) (d :: ds)
end
/-- tuples stay -/
def Tk (H H' : Hp) : Prop := ∀ a xs, Rd H a (.tup xs) → Rd H' a (.tup xs)
theorem Tk.refl {H : Hp} : Tk H H := fun _ _ h => h
theorem Tk.trans {H H1 H2 : Hp} (a : Tk H H1) (b : Tk H1 H2) : Tk H H2 := fun x xs h => b x xs (a x xs h)
theorem Tk.same {H H' : Hp} (s : Same H H') : Tk H H' := fun a xs h => by
  rcases h with h | ⟨o, h⟩
  · exact .inl (s _ _ h)
  · exact .inr ⟨o, s _ _ h⟩
theorem Tk.but {H H' : Hp} {p : Addr} {ys : List V} (s : But p H H') (hp : H p = some (.lst ys)) : Tk H H' := fun a xs h => by
  have n : a ≠ p := fun e => by
    subst e
    rcases h with h | ⟨o, h⟩
    · rw [hp] at h; cases h
    · rw [hp] at h; cases h
  rcases h with h | ⟨o, h⟩
  · exact .inl (s _ _ n h)
  · exact .inr ⟨o, s _ _ n h⟩
theorem Tk.jug {H H' : Hp} {p : Addr} {N : Nat} (s : But p H H') (j : Jug H p N) : Tk H H' := by
  obtain ⟨_, _, _, e, _⟩ := j
  exact Tk.but s e
theorem Tk.sq {K : PySem.W.Frag} {H H' : Hp} {a : Addr} {xs : List V} (t : Tk H H') (h : SqT K H a xs) : SqT K H' a xs := by
  rcases h with h | h
  · exact .inl (t _ _ h)
  · exact .inr h
section
variable {K : PySem.W.Frag} {H H' : Hp}
mutual
theorem Im.to (t : Tk H H') : ∀ (d : PyData) (v : V), Im K H v d → Im K H' v d
  | .none, _, h => by cases h; exact .non
  | .bool b, _, h => by cases h; exact .bl b
  | .int i, _, h => by cases h; exact .int i
  | .str x, _, h => by cases h; exact .str x
  | .tuple ds, _, h => by
    cases h with
    | tup h1 h2 => exact .tup (t.sq h1) (ImAll.to t ds _ h2)
  | .list ds, _, h => by cases h
  | .dict ds, _, h => by cases h
theorem ImAll.to (t : Tk H H') : ∀ (ds : List PyData) (vs : List V), ImAll K H vs ds → ImAll K H' vs ds
  | [], _, h => by cases h; exact .nil
  | d :: ds, _, h => by
    cases h with
    | cons h1 h2 => exact .cons (Im.to t d _ h1) (ImAll.to t ds _ h2)
end
mutual
theorem Im.dp : ∀ (d : PyData) (v : V), Im K H v d → Dp K H v d
  | .none, _, h => by cases h; exact .non
  | .bool b, _, h => by cases h; exact .bl b
  | .int i, _, h => by cases h; exact .int i
  | .str x, _, h => by cases h; exact .str x
  | .tuple ds, _, h => by
    cases h with
    | tup h1 h2 => exact .tup h1 (ImAll.dp ds _ h2)
  | .list ds, _, h => by cases h
  | .dict ds, _, h => by cases h
theorem ImAll.dp : ∀ (ds : List PyData) (vs : List V), ImAll K H vs ds → DpAll K H vs ds
  | [], _, h => by cases h; exact .nil
  | d :: ds, _, h => by
    cases h with
    | cons h1 h2 => exact .cons (Im.dp d _ h1) (ImAll.dp ds _ h2)
end
theorem ImAll.length : ∀ {vs : List V} {ds : List PyData}, ImAll K H vs ds → vs.length = ds.length
  | _, _, .nil => rfl
  | _, _, .cons _ h => congrArg Nat.succ (ImAll.length h)
theorem ImAll.get : ∀ {vs : List V} {ds : List PyData} {i : Nat} {v : V}, ImAll K H vs ds → vs[i]? = some v → ∃ d, ds[i]? = some d ∧ Im K H v d
  | _, _, _, _, .nil, h => by simp at h
  | _, _, 0, _, .cons a _, h => by simp at h; subst h; exact ⟨_, rfl, a⟩
  | _, _, i + 1, _, .cons _ b, h => by
    obtain ⟨d, h1, h2⟩ := ImAll.get (i := i) b (by simpa using h)
    exact ⟨d, by simpa using h1, h2⟩
theorem ImAll.append : ∀ {vs ws : List V} {ds es : List PyData}, ImAll K H vs ds → ImAll K H ws es → ImAll K H (vs ++ ws) (ds ++ es)
  | _, _, _, _, .nil, h => h
  | _, _, _, _, .cons a b, h => .cons a (ImAll.append b h)
theorem ImAll.take : ∀ {vs : List V} {ds : List PyData} (n : Nat), ImAll K H vs ds → ImAll K H (vs.take n) (ds.take n)
  | _, _, 0, _ => .nil
  | _, _, _ + 1, .nil => .nil
  | _, _, n + 1, .cons a b => .cons a (ImAll.take n b)
theorem ImAll.drop : ∀ {vs : List V} {ds : List PyData} (n : Nat), ImAll K H vs ds → ImAll K H (vs.drop n) (ds.drop n)
  | _, _, 0, h => h
  | _, _, _ + 1, .nil => .nil
  | _, _, n + 1, .cons _ b => ImAll.drop n b
end
/-! ### the parts of a fair -/
abbrev Side := List (Str × Int)
def pD (x : Str × Int) : PyData := .tuple [.str x.1, .int x.2]
def sideD (l : Side) : PyData := .tuple (l.map pD)
def deskD : Option Int → PyData
  | none => .none
  | some k => .int k
def deskV : Option Int → V
  | none => .non
  | some k => .int k
def partsD (hs gs : Side) (t : Option Int) : PyData := .tuple [sideD hs, sideD gs, deskD t]
structure Fairish (hs gs : Side) (t : Option Int) : Prop where
  h1 : 1 ≤ hs.length
  h4 : hs.length ≤ 4
  g1 : 1 ≤ gs.length
  g4 : gs.length ≤ 4
  nd : ((hs ++ gs).map (·.1)).Nodup
  nm : ∀ z ∈ hs ++ gs, Nm z.1
  bd : ∀ z ∈ hs ++ gs, 1 ≤ z.2 ∧ z.2 ≤ 4
  tb : ∀ k, t = some k → 1 ≤ k ∧ k ≤ 12
theorem im_desk {K : PySem.W.Frag} {H : Hp} : ∀ t : Option Int, Im K H (deskV t) (deskD t)
  | none => .non
  | some k => .int k
theorem im_pairs {K : PySem.W.Frag} {G : Hp} : ∀ ps : List (Addr × Str × Int), (∀ z ∈ ps, G z.1 = some (.tup [.str z.2.1, .int z.2.2])) → ImAll K G (ps.map fun z => V.ref z.1) ((ps.map (·.2)).map pD)
  | [], _ => .nil
  | z :: ps, h => .cons (.tup (SqT.of (h z (List.mem_cons_self ..))) (.cons (.str _) (.cons (.int _) .nil))) (im_pairs ps fun y hy => h y (List.mem_cons_of_mem _ hy))
theorem cut_to {α : Type} (xs : List α) (n : Nat) : (xs.drop (HT.sIx xs.length 0 none)).take (HT.sIx xs.length xs.length (some (n : Int)) - HT.sIx xs.length 0 none) = xs.take n := by
  rw [HT.sIx_none, show HT.sIx xs.length xs.length (some (n : Int)) = min n xs.length from HT.sIx_nat xs.length _ n, List.drop_zero, Nat.sub_zero]
  by_cases h : n ≤ xs.length
  · rw [Nat.min_eq_left h]
  · rw [Nat.min_eq_right (by omega), List.take_length, List.take_of_length_le (by omega)]
theorem cut_from {α : Type} (xs : List α) (n : Nat) : (xs.drop (HT.sIx xs.length 0 (some (n : Int)))).take (HT.sIx xs.length xs.length none - HT.sIx xs.length 0 (some (n : Int))) = xs.drop n := by
  rw [HT.sIx_none, show HT.sIx xs.length 0 (some (n : Int)) = min n xs.length from HT.sIx_nat xs.length _ n]
  by_cases h : n ≤ xs.length
  · rw [Nat.min_eq_left h, List.take_of_length_le (by rw [List.length_drop]; omega)]
  · rw [Nat.min_eq_right (by omega), Nat.sub_self, List.take_zero, List.drop_of_length_le (by omega)]
end F02
namespace F02
open PySem PySem.Spec PyProof.Rows L2 MG
theorem nxt {i : Nat} {v : V} {σ : L2.St} {H : Hp} {K : L2.St → Hp → Prop} (h : K (σ.set i (some v)) H) : gName i v σ H K := h
section
variable {P : Program} {w : World} {K : PySem.W.Frag} {mg : Str → Option Value} {base : Heap}
abbrev s_l_parts : Stmt := top 46
theorem sc_l_parts : FnScope ["_law_jug_here", "_law_most_here", "_law_most_there", "_law_here", "_law_there", "_law_pairs", "_law_desks", "_law_word_here"] ["_law_jug_here", "_law_most_here", "_law_most_there"] (defScope s_l_parts) := ⟨rfl, rfl, rfl, by decide +kernel, rfl, by decide +kernel, by decide +kernel⟩
/-- hosts, guests and tables of a fair -/
def sp_l_parts (K : PySem.W.Frag) : Sp := fun vs H Q _ => ∃ (p : Addr) (a b N : Nat), vs = [.ref p, .int (a : Int), .int (b : Int)] ∧ Jug H p N ∧ 1 ≤ a ∧ a ≤ 4 ∧ 1 ≤ b ∧ b ≤ 4 ∧ N + 200 ≤ 1000000 ∧
  ∀ (v : V) (hs gs : Side) (t : Option Int) (H' : Hp), Fairish hs gs t → Im K H' v (partsD hs gs t) → But p H H' → Jug H' p (N + 200) → Q v H'
structure TxPa (K : PySem.W.Frag) (mg : Str → Option Value) (f_l_pour f_l_words : Addr) : Prop where
  n_tuple : mg "tuple" = none
  g_l_pour : mg "_law_pour" = some (.ref f_l_pour)
  k_l_pour : PySem.W.keepIn K (.ref f_l_pour) = true
  g_l_words : mg "_law_words" = some (.ref f_l_words)
  k_l_words : PySem.W.keepIn K (.ref f_l_words) = true
theorem ok_l_parts {f f_l_pour f_l_words : Addr} {fd fd_l_pour fd_l_words : FuncData} (F : Fun K "_law_parts" "_law_parts" s_l_parts f fd) (T : TxPa K mg f_l_pour f_l_words)
    (G_l_pour0 : FnOk P w K mg base CX0 1 f_l_pour fd_l_pour ["_law_jug_here", "_law_many"] sp_l_pour) (b_l_pour : Binds K fd_l_pour ["_law_jug_here", "_law_many"] [])
    (G_l_words : FnOk P w K mg base CX0 3 f_l_words fd_l_words ["_law_jug_here", "_law_many"] sp_l_words) (b_l_words : Binds K fd_l_words ["_law_jug_here", "_law_many"] []) :
    FnOk P w K mg base CX0 4 f fd ["_law_jug_here", "_law_most_here", "_law_most_there"] (sp_l_parts K) := by
  have G_l_pour := G_l_pour0.mono (show 1 ≤ 3 by decide)
  refine F.ok sc_l_parts (fun vs H Q E h => ?_) (fun cdv A outer s H vs Q E hr h => ?_)
  · obtain ⟨p, a, b, N, rfl, _⟩ := h
    rfl
  · obtain ⟨p, a, b, N, rfl, J, a1, a4, b1, b4, hN, k⟩ := h
    refine ⟨_, (pss_cons (ps_par (i := 3) (j := 4) (by rfl) sc_l_parts.nd rfl rfl (by decide) rfl rfl (pa_cons (pe_op op_add pe_int (pe_call G_l_pour hr rfl T.g_l_pour T.k_l_pour b_l_pour .nil pass0 (pa_cons (pv 0) (pa_cons (pv 1) pa_nil)))) (pa_cons (pe_op op_add pe_int (pe_call G_l_pour hr rfl T.g_l_pour T.k_l_pour b_l_pour .nil pass0 (pa_cons (pv 0) (pa_cons (pv 2) pa_nil)))) pa_nil)) (by rfl))
      (pss_cons (ps_setLc (i := 5) (own := [("_law_word_here", 7)]) (g := gName 7) (tt := tYes) rfl sc_l_parts.nd rfl rfl (sw_true rfl rfl rfl (by decide +kernel)) (pi_list (pe_call G_l_words hr rfl T.g_l_words T.k_l_words b_l_words .nil pass0 (pa_cons (pv 0) (pa_cons (pe_op op_add (pv 3) (pv 4)) pa_nil)))) (blkOk_by (own := [("_law_word_here", 7)]) (N := ["_law_jug_here", "_law_most_here", "_law_most_there", "_law_here", "_law_there", "_law_pairs", "_law_desks", "_law_word_here"]) (sc := defScope s_l_parts) (by decide +kernel)) (fun _ _ _ _ _ => (pg_name (i := 7) sc_l_parts.nd rfl (Or.inl rfl))) (fun _ _ _ _ _ => pts_nil) (fun _ _ _ _ _ => (pe_tup (pa_cons (pv 7) (pa_cons (pe_op op_add pe_int (pe_call G_l_pour hr rfl T.g_l_pour T.k_l_pour b_l_pour .nil pass0 (pa_cons (pv 0) (pa_cons pe_int pa_nil)))) pa_nil)))))
      (pss_cons (ps_set (i := 6) sc_l_parts.nd rfl (Or.inl rfl) (pe_ifExp (pt_cmpR op_eq (pe_call G_l_pour hr rfl T.g_l_pour T.k_l_pour b_l_pour .nil pass0 (pa_cons (pv 0) (pa_cons pe_int pa_nil))) pe_int (nomark _)) pe_non (pe_op op_add pe_int (pe_call G_l_pour hr rfl T.g_l_pour T.k_l_pour b_l_pour .nil pass0 (pa_cons (pv 0) (pa_cons pe_int pa_nil))))))
      (pss_one (ps_ret (pe_tup (pa_cons (pe_callTy call_tuple_of (by rfl) T.n_tuple (by decide +kernel) (pa_cons (pe_slice sl_list (pv 5) po_none (po_some (pv 3))) pa_nil)) (pa_cons (pe_callTy call_tuple_of (by rfl) T.n_tuple (by decide +kernel) (pa_cons (pe_slice sl_list (pv 5) (po_some (pv 3)) po_none) pa_nil)) (pa_cons (pv 6) pa_nil))))))))), ?_⟩
    refine ⟨_, rfl, _, rfl, p, a, N, rfl, J, by omega, by omega, by omega, fun r1 H1 r10 r11 bb1 j1 => ⟨_, _, rfl, rfl, ?_⟩⟩
    refine ⟨_, rfl, _, rfl, p, b, N + 1, rfl, j1, by omega, by omega, by omega, fun r2 H2 r20 r21 bb2 j2 => ⟨_, _, rfl, rfl, ?_⟩⟩
    refine ⟨_, _, rfl, ?_⟩
    obtain ⟨n1, rfl⟩ : ∃ n : Nat, r1 = (n : Int) := ⟨r1.toNat, by omega⟩
    obtain ⟨n2, rfl⟩ : ∃ n : Nat, r2 = (n : Int) := ⟨r2.toNat, by omega⟩
    have em : (1 + (n1 : Int)) + (1 + (n2 : Int)) = ((n1 + n2 + 2 : Nat) : Int) := by omega
    refine ⟨_, rfl, _, rfl, _, rfl, _, _, rfl, rfl, p, n1 + n2 + 2, N + 2, by rw [← em] <;> rfl, j2, by omega, by omega, fun q ws H3 nq hq hlen nd nm bb3 j3 => ?_⟩
    have nqp : q ≠ p := j2.ne nq
    refine ⟨q, rfl, ⟨_, SqL.of hq⟩, fun D nD => ?_⟩
    have nDp : D ≠ p := j3.ne nD
    have nDq : D ≠ q := fun e => by rw [e, hq] at nD; cases nD
    refine lc_list (K := K) (a := q) (xs := ws.map V.str) (fun j G => ∃ ps : List (Addr × Str × Int), ps.map (·.2.1) = ws.take j ∧ G D = some (.lst (ps.map fun z => V.ref z.1)) ∧
        (∀ z ∈ ps, G z.1 = some (.tup [.str z.2.1, .int z.2.2]) ∧ 1 ≤ z.2.2 ∧ z.2.2 ≤ 4) ∧ But p H3 G ∧ Jug G p (N + 2 + 11 * (n1 + n2 + 2) + j))
      ⟨[], rfl, upd_same, (fun z h => by cases h), But.new But.refl nD, (j3.but fun o e => (upd_ne nDp.symm).trans e)⟩ (fun j G _ ⟨ps, _, _, _, bG, _⟩ => SqL.of (bG _ _ nqp hq)) ?_ ?_
    · rintro j y G hy ⟨ps, e1, e2, e3, bG, jG⟩
      obtain ⟨u, hu, rfl⟩ : ∃ u, ws[j]? = some u ∧ y = V.str u := by
        rw [List.getElem?_map] at hy
        cases e : ws[j]? with
        | none => rw [e] at hy; cases hy
        | some u => rw [e] at hy; exact ⟨u, rfl, (Option.some.inj hy).symm⟩
      have hjl : j < ws.length := (List.getElem?_eq_some_iff.mp hu).1
      refine ⟨rfl, ?_⟩
      refine tyes ?_
      refine iteT ?_
      refine ⟨_, rfl, _, rfl, p, 4, _, rfl, jG, by omega, by decide, by decide, fun r3 G2 q30 q31 bb4 j4 => ⟨_, _, rfl, rfl, (by show 2 ≤ sizeLine; decide), fun t nt => ?_⟩⟩
      have ntp : t ≠ p := j4.ne nt
      have e2' : (upd G2 t (.tup [.str u, .int (1 + r3)])) D = some (.lst (ps.map fun z => V.ref z.1)) := (upd_ne (fun e => by rw [← e, bb4 D _ nDp e2] at nt; cases nt)).trans (bb4 D _ nDp e2)
      have lps : ps.length = j := by
        have := congrArg List.length e1
        rw [List.length_map, List.length_take] at this
        omega
      refine ⟨_, e2', ?_, ps ++ [(t, u, 1 + r3)], ?_, ?_, ?_, ?_, ?_⟩
      · rw [List.length_map, lps]
        exact Nat.lt_of_lt_of_le (show j < 100 by omega) (by decide)
      · rw [List.map_append, e1, List.take_add_one, hu] <;> rfl
      · rw [List.map_append]
        exact upd_same
      · intro z hz
        rcases List.mem_append.mp hz with hz | hz
        · obtain ⟨f1, f2⟩ := e3 z hz
          have nz : z.1 ≠ p := fun e => by
            obtain ⟨_, _, _, e9, _⟩ := jG
            rw [e, e9] at f1
            cases f1
          have f1' := bb4 _ _ nz f1
          have nzt : z.1 ≠ t := ne_of_none f1' nt
          have nzD : z.1 ≠ D := fun e => by rw [e, e2] at f1; cases f1
          exact ⟨(upd_ne nzD).trans ((upd_ne nzt).trans f1'), f2⟩
        · rw [List.mem_singleton] at hz
          subst hz
          have ntD : t ≠ D := fun e => by rw [e, bb4 D _ nDp e2] at nt; cases nt
          exact ⟨(upd_ne ntD).trans upd_same, by show 1 ≤ 1 + r3; omega, by show 1 + r3 ≤ 4; omega⟩
      · exact ((bG.trans bb4).new nt).mut nD
      · exact (j4.but fun o e => (upd_ne nDp.symm).trans ((upd_ne ntp.symm).trans e)).le (by omega)
    · rintro G ⟨ps, e1, e2, e3, bG, jG⟩
      rw [List.length_map] at e1 jG
      rw [List.take_length] at e1
      refine nxt ?_
      dsimp only
      refine seq_setH (fun v G' => ∃ t : Option Int, v = deskV t ∧ (∀ k, t = some k → 1 ≤ k ∧ k ≤ 12) ∧ But p G G' ∧ Jug G' p (N + 150)) ?_ ?_
      · intro Q' q'
        refine ⟨_, rfl, p, 3, _, rfl, jG, by omega, by decide, by decide, fun r4 G2 q40 q41 bb5 j5 => ⟨rfl, _, rfl, ?_⟩⟩
        refine ite2 (fun c => ?_) (fun c => ?_)
        · exact q' _ _ ⟨none, rfl, (fun k h => by cases h), bb5, j5.le (by omega)⟩
        · refine ⟨_, rfl, p, 12, _, rfl, j5, by omega, by decide, by decide, fun r5 G3 q50 q51 bb6 j6 => ⟨_, _, rfl, rfl, ?_⟩⟩
          exact q' _ _ ⟨some (1 + r5), rfl, (fun k h => by cases h; omega), bb5.trans bb6, j6.le (by omega)⟩
      · rintro _ G2 ⟨t, rfl, tb, bb7, j7⟩
        have e2' := bb7 D _ nDp e2
        have cutA : cutV (ps.map fun z => V.ref z.1) none (some (1 + (n1 : Int))) = (ps.take (1 + n1)).map fun z => V.ref z.1 := by
          rw [List.map_take, show (1 + (n1 : Int)) = ((1 + n1 : Nat) : Int) by omega]
          exact cut_to _ _
        have cutB : cutV (ps.map fun z => V.ref z.1) (some (1 + (n1 : Int))) none = (ps.drop (1 + n1)).map fun z => V.ref z.1 := by
          rw [List.map_drop, show (1 + (n1 : Int)) = ((1 + n1 : Nat) : Int) by omega]
          exact cut_from _ _
        refine ⟨_, rfl, _, rfl, _, rfl, D, _, rfl, SqL.of e2', fun c1 nc1 => ⟨c1, _, rfl, .inl ⟨SqL.of upd_same, fun c2 nc2 => ?_⟩⟩⟩
        have m1 : D ≠ c1 := ne_of_none e2' nc1
        have e2a : (upd G2 c1 (.lst (cutV (ps.map fun z => V.ref z.1) none (some (1 + (n1 : Int)))))) D = some (.lst (ps.map fun z => V.ref z.1)) := (upd_ne m1).trans e2'
        have m2 : D ≠ c2 := ne_of_none e2a nc2
        have e2b : (upd (upd G2 c1 (.lst (cutV (ps.map fun z => V.ref z.1) none (some (1 + (n1 : Int)))))) c2 (.tup (cutV (ps.map fun z => V.ref z.1) none (some (1 + (n1 : Int)))))) D = some (.lst (ps.map fun z => V.ref z.1)) := (upd_ne m2).trans e2a
        refine ⟨_, rfl, _, rfl, _, rfl, D, _, rfl, SqL.of e2b, fun c3 nc3 => ⟨c3, _, rfl, .inl ⟨SqL.of upd_same, fun c4 nc4 => ?_⟩⟩⟩
        refine ⟨_, rfl, (by show 3 ≤ sizeLine; decide), fun c5 nc5 => ?_⟩
        have bH : But p H G2 := (((bb1.trans bb2).trans bb3).trans bG).trans bb7
        refine k _ (ps.take (1 + n1) |>.map (·.2)) (ps.drop (1 + n1) |>.map (·.2)) t _ ?_ ?_ ((((((bH.new nc1).new nc2).new nc3).new nc4).new nc5)) ?_
        · have lps : ps.length = n1 + n2 + 2 := by
            have := congrArg List.length e1
            rw [List.length_map] at this
            omega
          have whole : (ps.take (1 + n1)).map (·.2) ++ (ps.drop (1 + n1)).map (·.2) = ps.map (·.2) := by
            rw [← List.map_append, List.take_append_drop]
          refine ⟨?_, ?_, ?_, ?_, ?_, ?_, ?_, tb⟩
          · rw [List.length_map, List.length_take]; omega
          · rw [List.length_map, List.length_take]; omega
          · rw [List.length_map, List.length_drop]; omega
          · rw [List.length_map, List.length_drop]; omega
          · rw [whole, List.map_map]
            show (ps.map (·.2.1)).Nodup
            rw [e1]
            exact nd
          · rw [whole]
            intro z hz
            obtain ⟨y, hy, rfl⟩ := List.mem_map.mp hz
            have : y.2.1 ∈ ps.map (·.2.1) := List.mem_map.mpr ⟨y, hy, rfl⟩
            rw [e1] at this
            exact nm _ this
          · rw [whole]
            intro z hz
            obtain ⟨y, hy, rfl⟩ := List.mem_map.mp hz
            exact (e3 y hy).2
        · have tk : ∀ z ∈ ps, G2 z.1 = some (.tup [.str z.2.1, .int z.2.2]) := fun z hz => by
            obtain ⟨f1, _⟩ := e3 z hz
            have nz : z.1 ≠ p := fun e => by
              obtain ⟨_, _, _, e9, _⟩ := jG
              rw [e, e9] at f1
              cases f1
            exact bb7 _ _ nz f1
          have ia := im_pairs (K := K) (ps.take (1 + n1)) fun z hz => tk z (List.mem_of_mem_take hz)
          have ib := im_pairs (K := K) (ps.drop (1 + n1)) fun z hz => tk z (List.mem_of_mem_drop hz)
          have s1 := same_new (o := .lst (cutV (ps.map fun z => V.ref z.1) none (some (1 + (n1 : Int))))) (Same.refl G2) nc1
          have s2 := same_new (o := .tup (cutV (ps.map fun z => V.ref z.1) none (some (1 + (n1 : Int))))) s1 nc2
          have s3 := same_new (o := .lst (cutV (ps.map fun z => V.ref z.1) (some (1 + (n1 : Int))) none)) s2 nc3
          have s4 := same_new (o := .tup (cutV (ps.map fun z => V.ref z.1) (some (1 + (n1 : Int))) none)) s3 nc4
          have s5 := same_new (o := .tup [.ref c2, .ref c4, deskV t]) s4 nc5
          refine .tup (SqT.of upd_same) (.cons (.tup (SqT.of (xs := (ps.take (1 + n1)).map fun z => V.ref z.1) ?_) (ia.to (Tk.same s5) _ _)) (.cons (.tup (SqT.of (xs := (ps.drop (1 + n1)).map fun z => V.ref z.1) ?_) (ib.to (Tk.same s5) _ _)) (.cons (im_desk t) .nil)))
          · rw [← cutA]
            have h2 : (upd (upd G2 c1 (.lst (cutV (ps.map fun z => V.ref z.1) none (some (1 + (n1 : Int)))))) c2 (.tup (cutV (ps.map fun z => V.ref z.1) none (some (1 + (n1 : Int)))))) c2 = some (.tup (cutV (ps.map fun z => V.ref z.1) none (some (1 + (n1 : Int))))) := upd_same
            exact (same_new (same_new (same_new (Same.refl _) nc3) nc4) nc5) _ _ h2
          · rw [← cutB]
            exact (same_new (Same.refl _) nc5) _ _ upd_same
        · exact (j7.but fun o e => (same_new (same_new (same_new (same_new (same_new (Same.refl _) nc1) nc2) nc3) nc4) nc5) _ _ e).le (by omega)
end
end F02
namespace F02
open PySem PySem.Spec PyProof.Rows L2 MG
theorem seq_if {c : TT} {t1 t2 ts : TS} {D : Ends} {σ : L2.St} {H : Hp} {b : Bool} (h : ∀ Q : Bool → Hp → Prop, Q b H → c σ H Q) (y : b = true → t1 { D with nx := ts D } σ H) (n : b = false → t2 { D with nx := ts D } σ H) : tSeq (tIfS c t1 t2) ts D σ H := by
  refine h _ ?_
  cases b with
  | true => exact iteT (y rfl)
  | false => exact iteF (n rfl)
theorem seq_ifH {c : TT} {t1 t2 ts : TS} {D : Ends} {σ : L2.St} {H : Hp} {b : Bool} (R : Hp → Prop) (h : ∀ Q : Bool → Hp → Prop, (∀ H', R H' → Q b H') → c σ H Q) (y : ∀ H', R H' → b = true → t1 { D with nx := ts D } σ H')
    (n : ∀ H', R H' → b = false → t2 { D with nx := ts D } σ H') : tSeq (tIfS c t1 t2) ts D σ H := by
  refine h _ fun H' r => ?_
  cases b with
  | true => exact iteT (y H' r rfl)
  | false => exact iteF (n H' r rfl)
theorem seq_ifN {c : TT} {t1 ts : TS} {D : Ends} {σ : L2.St} {H : Hp} {b : Bool} (h : ∀ Q : Bool → Hp → Prop, Q b H → c σ H Q) (y : b = true → t1 { D with nx := ts D } σ H) (n : b = false → ts D σ H) : tSeq (tIfS c t1 tNext) ts D σ H := seq_if h y n
theorem seq_ifNH {c : TT} {t1 ts : TS} {D : Ends} {σ : L2.St} {H : Hp} {b : Bool} (R : Hp → Prop) (h : ∀ Q : Bool → Hp → Prop, (∀ H', R H' → Q b H') → c σ H Q) (y : ∀ H', R H' → b = true → t1 { D with nx := ts D } σ H')
    (n : ∀ H', R H' → b = false → ts D σ H') : tSeq (tIfS c t1 tNext) ts D σ H := seq_ifH R h y n
section
variable {P : Program} {w : World} {K : PySem.W.Frag} {mg : Str → Option Value} {base : Heap}
/-! ### is_integer -/
abbrev s_is_integer : Stmt := top 16
theorem sc_is_integer : FnScope ["value", "least", "most"] ["value", "least", "most"] (defScope s_is_integer) := ⟨rfl, rfl, rfl, by decide +kernel, rfl, by decide +kernel, by decide +kernel⟩
def sp_is_integer : Sp := fun vs H Q _ => ∃ v a b : Int, vs = [.int v, .int a, .int b] ∧ Q (.bl (decide (a ≤ v) && decide (v ≤ b))) H
structure TxI (mg : Str → Option Value) : Prop where
  n_isinstance : mg "isinstance" = none
  n_int : mg "int" = none
  n_bool : mg "bool" = none
abbrev FII (K : PySem.W.Frag) (f : Addr) (fd : FuncData) : Prop := FunD K "is_integer" "is_integer" (defArgs s_is_integer) (defBody s_is_integer) (defScope s_is_integer) [.non] [] f fd
theorem b_is_integer3 {K : PySem.W.Frag} {f : Addr} {fd : FuncData} (F : FII K f fd) : Binds K fd ["value", "least", "most"] [] := by
  obtain ⟨ds, r, h⟩ := F.binds1 (ps := ["value", "least", "most"]) 3 1 (by simp) rfl (fun T kV doc pm an cdv ct us its l1 l2 => by
    obtain ⟨a, b, c, rfl⟩ : ∃ a b c, us = [a, b, c] := by
      match us, l1 with
      | [a, b, c], _ => exact ⟨a, b, c, rfl⟩
    obtain ⟨e, rfl⟩ : ∃ e, its = [e] := by
      match its, l2 with
      | [e], _ => exact ⟨e, rfl⟩
    exact ⟨_, rfl, rfl⟩)
  cases r
  exact h
theorem ok_is_integer {f : Addr} {fd : FuncData} (F : FII K f fd) (T : TxI mg) : FnOk P w K mg base CX0 1 f fd ["value", "least", "most"] sp_is_integer := by
  refine F.ok sc_is_integer (fun vs H Q E h => ?_) (fun cdv A outer s H vs Q E hr h => ?_)
  · obtain ⟨v, a, b, rfl, _⟩ := h
    rfl
  · obtain ⟨v, a, b, rfl, k⟩ := h
    refine ⟨_, (pss_cons (ps_if (PW.pt (pw_or (pt_not (pt_val (pe_callB call_isi (by rfl) T.n_isinstance (by decide +kernel) (pa_cons (pv 0) (pa_cons (pe_bltn (v := .ty "int") (by rfl) T.n_int (by decide +kernel) rfl) pa_nil))))) (pw_or1 (pt_val (pe_callB call_isi (by rfl) T.n_isinstance (by decide +kernel) (pa_cons (pv 0) (pa_cons (pe_bltn (v := .ty "bool") (by rfl) T.n_bool (by decide +kernel) rfl) pa_nil)))))))
        (pss_one (ps_ret pe_bl))
        pss_nil)
      (pss_one (ps_ret (pe_and (pe_cmpR op_le (pv 1) (pv 0) (nomark _)) (pe_one (pe_or (pe_cmpR op_isN (pv 2) pe_non (nomark _)) (pe_one (pe_cmpR op_le (pv 0) (pv 2) (nomark _))))))))), ?_⟩
    refine seq_ifN (b := false) (fun Q' q' => ?_) (fun c => nomatch c) (fun _ => ?_)
    · refine ⟨_, rfl, .int v, .ty "int", _, _, true, rfl, .ty "int", .base (.int v), kit_ty (by decide +kernel), _, rfl, ?_⟩
      refine iteF ⟨_, rfl, .int v, .ty "bool", _, _, false, rfl, .ty "bool", .base (.int v), kit_ty (by decide +kernel), _, rfl, ?_⟩
      exact q'
    · refine ⟨_, rfl, _, rfl, _, _, rfl, rfl, _, rfl, ?_⟩
      by_cases c : a ≤ v
      · refine if_true_of (decide_eq_true c) ⟨_, rfl, rfl, false, rfl, ?_⟩
        refine if_false_of rfl ⟨_, rfl, _, rfl, _, _, rfl, rfl, ?_⟩
        rw [decide_eq_true c, Bool.true_and] at k
        exact k
      · refine if_false_of (decide_eq_false c) ?_
        rw [decide_eq_false c, Bool.false_and] at k
        exact k
/-! ### is_name -/
theorem in_low (c : Nat) : decide (c ∈ ("abcdefghijklmnopqrstuvwxyz" : Str).cps.toList) = lowB c := by
  by_cases h : c < 128
  · have q : ∀ j : _root_.Fin 128, decide (j.val ∈ ("abcdefghijklmnopqrstuvwxyz" : Str).cps.toList) = lowB j.val := by decide +kernel
    exact q ⟨c, h⟩
  · have e : lowB c = false := by unfold lowB; exact decide_eq_false (by omega)
    rw [e]
    refine decide_eq_false fun m => ?_
    have q : ∀ x ∈ ("abcdefghijklmnopqrstuvwxyz" : Str).cps.toList, x < 128 := by decide +kernel
    exact h (q c m)
theorem in_signs (c : Nat) : decide (c ∈ SIGNS.cps.toList) = signB c := by
  by_cases h : c < 128
  · have q : ∀ j : _root_.Fin 128, decide (j.val ∈ SIGNS.cps.toList) = signB j.val := by decide +kernel
    exact q ⟨c, h⟩
  · have e : signB c = false := by
      unfold signB lowB
      rw [decide_eq_false (by omega), decide_eq_false (by omega)] <;> rfl
    rw [e]
    refine decide_eq_false fun m => ?_
    have q : ∀ x ∈ SIGNS.cps.toList, x < 128 := by decide +kernel
    exact h (q c m)
abbrev s_is_name : Stmt := top 17
theorem sc_is_name : FnScope ["value", "sign"] ["value"] (defScope s_is_name) := ⟨rfl, rfl, rfl, by decide +kernel, rfl, by decide +kernel, by decide +kernel⟩
def sp_is_name : Sp := fun vs H Q _ => ∃ x : Str, vs = [.str x] ∧ x.length ≤ 10000 ∧ ∀ H', Same H H' → Q (.bl (nameL x.cps.toList)) H'
structure TxN (mg : Str → Option Value) : Prop where
  n_isinstance : mg "isinstance" = none
  n_str : mg "str" = none
  n_len : mg "len" = none
  n_all : mg "all" = none
  g_LONGEST_NAME : ∃ t, mg "_LONGEST_NAME" = some (.int 8 t)
  g_FIRST_SIGNS : ∃ t, mg "_FIRST_SIGNS" = some (.str "abcdefghijklmnopqrstuvwxyz" t)
  g_SIGNS : ∃ t, mg "_SIGNS" = some (.str SIGNS t)
theorem ok_is_name {f : Addr} {fd : FuncData} (F : Fun K "is_name" "is_name" s_is_name f fd) (T : TxN mg) : FnOk P w K mg base CX0 1 f fd ["value"] sp_is_name := by
  obtain ⟨t1, g1⟩ := T.g_LONGEST_NAME
  obtain ⟨t2, g2⟩ := T.g_FIRST_SIGNS
  obtain ⟨t3, g3⟩ := T.g_SIGNS
  refine F.ok sc_is_name (fun vs H Q E h => ?_) (fun cdv A outer s H vs Q E hr h => ?_)
  · obtain ⟨x, rfl, _⟩ := h
    rfl
  · obtain ⟨x, rfl, hz, k⟩ := h
    refine ⟨_, (pss_cons (ps_if (PW.pt (pw_or (pt_not (pt_val (pe_callB call_isi (by rfl) T.n_isinstance (by decide +kernel) (pa_cons (pv 0) (pa_cons (pe_bltn (v := .ty "str") (by rfl) T.n_str (by decide +kernel) rfl) pa_nil))))) (pw_or1 (pt_not (pt_chain op_le op_le pe_int (pe_callB call_len (by rfl) T.n_len PySem.boot_len (pa_cons (pv 0) pa_nil)) (pe_glob (v := .int 8) rfl g1 ⟨_, rfl⟩))))))
        (pss_one (ps_ret pe_bl))
        pss_nil)
      (pss_one (ps_ret (pe_and (pe_cmpR op_in_sign (pe_ix ix_str (pv 0) pe_int (fun _ _ => rfl)) (pe_glob (v := .str "abcdefghijklmnopqrstuvwxyz") rfl g2 ⟨_, rfl⟩) rfl) (pe_one (pe_callB (cr_all rfl) (by rfl) T.n_all (by decide +kernel) (pa_cons (pe_lc (own := [("sign", 1)]) (g := gName 1) (tt := tYes) rfl sc_is_name.nd (pi_str (pv 0)) (blkOk_by (own := [("sign", 1)]) (N := ["value", "sign"]) (sc := defScope s_is_name) (by decide +kernel)) (fun _ _ _ _ _ => (pg_name (i := 1) sc_is_name.nd rfl (Or.inl rfl))) (fun _ _ _ _ _ => pts_nil) (fun _ _ _ _ _ => (pe_cmpR op_in_sign (pv 1) (pe_glob (v := .str SIGNS) rfl g3 ⟨_, rfl⟩) rfl))) pa_nil))))))), ?_⟩
    refine seq_if (b := !(decide (1 ≤ x.length) && decide (x.length ≤ 8))) (fun Q' q' => ?_) (fun c => ?_) (fun c => ?_)
    · refine ⟨_, rfl, .str x, .ty "str", _, _, true, rfl, .ty "str", .base (.str x), kit_ty (by decide +kernel), _, rfl, ?_⟩
      refine iteF ?_
      refine ⟨_, rfl, _, x.length, rfl, ⟨Nat.le_trans hz (by decide), rfl⟩, _, _, rfl, rfl, _, rfl, ?_⟩
      by_cases h1 : 1 ≤ x.length
      · refine if_true_of (decide_eq_true (by omega)) ⟨_, _, rfl, rfl, _, rfl, ?_⟩
        rw [decide_eq_true h1, Bool.true_and] at q'
        have e8 : decide ((x.length : Int) ≤ 8) = decide (x.length ≤ 8) := by
          by_cases h : x.length ≤ 8
          · rw [decide_eq_true h, decide_eq_true (by omega)]
          · rw [decide_eq_false h, decide_eq_false (by omega)]
        rw [e8]
        exact q'
      · refine if_false_of (decide_eq_false (by omega)) ⟨_, rfl, ?_⟩
        rw [decide_eq_false h1, Bool.false_and] at q'
        exact q'
    · -- too short or too long
      have e : nameL x.cps.toList = false := by
        have el : x.length = x.cps.toList.length := (Array.length_toList).symm
        cases h : x.cps.toList with
        | nil => rfl
        | cons a r =>
          rw [h, List.length_cons] at el
          show (lowB a && decide (r.length ≤ 7) && r.all signB) = false
          have : ¬ r.length ≤ 7 := fun z => by
            rw [decide_eq_true (show 1 ≤ x.length by omega), decide_eq_true (show x.length ≤ 8 by omega)] at c
            cases c
          rw [decide_eq_false this]
          simp
      have := k H (Same.refl H)
      rw [e] at this
      exact this
    · have hl : 1 ≤ x.length ∧ x.length ≤ 8 := by
        by_cases h1 : 1 ≤ x.length
        · by_cases h2 : x.length ≤ 8
          · exact ⟨h1, h2⟩
          · rw [decide_eq_true h1, decide_eq_false h2] at c; cases c
        · rw [decide_eq_false h1] at c; cases c
      have el : x.cps.toList.length = x.length := Array.length_toList
      obtain ⟨a, r, ex⟩ : ∃ a r, x.cps.toList = a :: r := by
        cases h : x.cps.toList with
        | nil => rw [h] at el; simp at el; omega
        | cons a r => exact ⟨a, r, rfl⟩
      have er : r.length ≤ 7 := by rw [ex, List.length_cons] at el; omega
      have en : nameL x.cps.toList = (lowB a && (x.cps.toList.all signB)) := by
        rw [ex]
        show (lowB a && decide (r.length ≤ 7) && r.all signB) = (lowB a && (signB a && r.all signB))
        rw [decide_eq_true er, Bool.and_true]
        cases hb : lowB a with
        | false => simp
        | true =>
          have : signB a = true := by unfold signB; rw [hb] <;> rfl
          rw [this] <;> rfl
      rw [en] at k
      refine ⟨_, rfl, x, 0, a, rfl, rfl, Nat.le_trans hz (by decide), atI_nat (by decide) (by rw [ex] <;> rfl), _, _, rfl, rfl, _, rfl, ?_⟩
      rw [in_low]
      by_cases hb : lowB a = true
      · rw [hb, Bool.true_and] at k
        refine if_true_of hb ⟨_, rfl, x, rfl, fun D nD => ?_⟩
        refine lc_it walk_str (fun j G => G D = some (.lst (((x.cps.toList.take j).map signB).map V.bl)) ∧ Same H G) ⟨upd_same, same_new (Same.refl H) nD⟩ (fun _ _ _ _ => True.intro) ?_ ?_
        · rintro j _ G _ hj ⟨z1, z2⟩ ⟨rfl, c, hc, rfl⟩
          refine ⟨rfl, ?_⟩
          refine tyes ?_
          refine iteT ?_
          refine ⟨_, rfl, c, _, rfl, rfl, _, z1, ?_, ?_, ?_⟩
          · rw [List.length_map, List.length_map, List.length_take]
            exact Nat.lt_of_lt_of_le (show _ < 100 by omega) (by decide)
          · show (upd _ D _) D = _
            have hc' : x.cps.toList[j]? = some c := by rw [Array.getElem?_toList]; exact hc
            rw [upd_same, in_signs, List.take_add_one, hc', List.map_append, List.map_append] <;> rfl
          · intro b o hb2
            rw [upd_ne (ne_of_none hb2 nD)]
            exact z2 b o hb2
        · rintro G ⟨z1, z2⟩
          rw [← Array.length_toList, List.take_length] at z1
          refine ⟨D, _, rfl, SqL.of z1, ?_⟩
          have := k G z2
          rw [List.all_map]
          exact this
      · have hb' : lowB a = false := by simpa using hb
        rw [hb', Bool.false_and] at k
        exact if_false_of hb' (k H (Same.refl H))
end
end F02
namespace F02
open PySem PySem.Spec PyProof.Rows L2 MG
section
variable {P : Program} {w : World} {K : PySem.W.Frag} {mg : Str → Option Value} {base : Heap}
theorem ty_tup {H : Hp} {a : Addr} {xs : List V} (h : SqT K H a xs) : TyX K H (.ref a) (.type "tuple") := by
  rcases h with (h | ⟨o, h⟩) | ⟨o, its, n, h1, h2, h3⟩
  · exact .base (.tup h)
  · exact .fTuple h
  · exact .kTuple h1 h2
theorem im_pair {H : Hp} {v : V} {z : Str × Int} (h : Im K H v (pD z)) : ∃ a, v = .ref a ∧ SqT K H a [.str z.1, .int z.2] := by
  cases h with
  | tup h1 h2 =>
    cases h2 with
    | cons a b =>
      cases b with
      | cons c d =>
        cases d
        cases a
        cases c
        exact ⟨_, rfl, h1⟩
theorem im_parts {H : Hp} {v : V} {hs gs : Side} {t : Option Int} (h : Im K H v (partsD hs gs t)) : ∃ a vh vg, v = .ref a ∧ SqT K H a [vh, vg, deskV t] ∧ Im K H vh (sideD hs) ∧ Im K H vg (sideD gs) := by
  cases h with
  | tup h1 h2 =>
    cases h2 with
    | cons x1 h3 =>
      cases h3 with
      | cons x2 h4 =>
        cases h4 with
        | cons x3 h5 =>
          cases h5
          refine ⟨_, _, _, rfl, ?_, x1, x2⟩
          cases t with
          | none => cases x3; exact h1
          | some k => cases x3; exact h1
theorem im_side {H : Hp} {v : V} {l : Side} (h : Im K H v (sideD l)) : ∃ a xs, v = .ref a ∧ SqT K H a xs ∧ ImAll K H xs (l.map pD) := by
  cases h with
  | tup h1 h2 => exact ⟨_, _, rfl, h1, h2⟩
/-! ### _is_member -/
abbrev s_is_member : Stmt := top 19
theorem sc_is_member : FnScope ["value"] ["value"] (defScope s_is_member) := ⟨rfl, rfl, rfl, by decide +kernel, rfl, by decide +kernel, by decide +kernel⟩
def sp_is_member (K : PySem.W.Frag) : Sp := fun vs H Q _ => ∃ (v : V) (z : Str × Int), vs = [v] ∧ Im K H v (pD z) ∧ Nm z.1 ∧ z.1.length ≤ 8 ∧ 1 ≤ z.2 ∧ z.2 ≤ 4 ∧ ∀ H', Same H H' → Q (.bl true) H'
structure TxM (K : PySem.W.Frag) (mg : Str → Option Value) (f_is_name f_is_integer : Addr) : Prop where
  n_isinstance : mg "isinstance" = none
  n_tuple : mg "tuple" = none
  n_len : mg "len" = none
  g_MOST_BOUND : ∃ t, mg "MOST_BOUND" = some (.int 4 t)
  g_is_name : mg "is_name" = some (.ref f_is_name)
  k_is_name : PySem.W.keepIn K (.ref f_is_name) = true
  g_is_integer : mg "is_integer" = some (.ref f_is_integer)
  k_is_integer : PySem.W.keepIn K (.ref f_is_integer) = true
theorem ok_is_member {f f_is_name f_is_integer : Addr} {fd fd_is_name fd_is_integer : FuncData} (F : Fun K "_is_member" "_is_member" s_is_member f fd) (T : TxM K mg f_is_name f_is_integer)
    (G_is_name : FnOk P w K mg base CX0 1 f_is_name fd_is_name ["value"] sp_is_name) (b_is_name : Binds K fd_is_name ["value"] [])
    (G_is_integer : FnOk P w K mg base CX0 1 f_is_integer fd_is_integer ["value", "least", "most"] sp_is_integer) (b_is_integer : Binds K fd_is_integer ["value", "least", "most"] []) :
    FnOk P w K mg base CX0 2 f fd ["value"] (sp_is_member K) := by
  obtain ⟨t1, g1⟩ := T.g_MOST_BOUND
  refine F.ok sc_is_member (fun vs H Q E h => ?_) (fun cdv A outer s H vs Q E hr h => ?_)
  · obtain ⟨v, z, rfl, _⟩ := h
    rfl
  · obtain ⟨v, z, rfl, hv, hn, hl, hb1, hb2, k⟩ := h
    obtain ⟨a, rfl, ha⟩ := im_pair hv
    refine ⟨_, (pss_cons (ps_if (PW.pt (pw_or (pt_not (pt_val (pe_callB call_isi (by rfl) T.n_isinstance (by decide +kernel) (pa_cons (pv 0) (pa_cons (pe_bltn (v := .ty "tuple") (by rfl) T.n_tuple (by decide +kernel) rfl) pa_nil))))) (pw_or1 (pt_cmpR op_ne (pe_callB call_len_seq (by rfl) T.n_len PySem.boot_len (pa_cons (pv 0) pa_nil)) pe_int (nomark _)))))
        (pss_one (ps_ret pe_bl))
        pss_nil)
      (pss_one (ps_ret (pe_and (pe_call G_is_name hr rfl T.g_is_name T.k_is_name b_is_name .nil pass0 (pa_cons (pe_ix ix_tup (pv 0) pe_int (fun _ _ => rfl)) pa_nil)) (pe_one (pe_call G_is_integer hr rfl T.g_is_integer T.k_is_integer b_is_integer .nil pass0 (pa_cons (pe_ix ix_tup (pv 0) pe_int (fun _ _ => rfl)) (pa_cons pe_int (pa_cons (pe_glob (v := .int 4) rfl g1 ⟨_, rfl⟩) pa_nil))))))))), ?_⟩
    refine seq_if (b := false) (fun Q' q' => ?_) (fun c => by cases c) (fun _ => ?_)
    · refine ⟨_, rfl, .ref a, .ty "tuple", _, _, true, rfl, .ty "tuple", ty_tup ha, kit_ty (by decide +kernel), _, rfl, ?_⟩
      exact iteF ⟨_, rfl, a, _, rfl, .inr ha, rfl, _, rfl, q'⟩
    · refine ⟨_, rfl, a, _, 0, _, rfl, rfl, ha, rfl, z.1, rfl, by omega, fun H1 s1 => ⟨_, rfl, ?_⟩⟩
      refine if_true_of hn ?_
      refine ⟨_, rfl, a, _, 1, _, rfl, rfl, (Tk.same s1).sq ha, rfl, z.2, 1, 4, rfl, ?_⟩
      rw [decide_eq_true hb1, decide_eq_true hb2]
      exact k H1 s1
/-! ### _names_of -/
def namesD (l : Side) : PyData := .tuple (l.map fun z => .str z.1)
abbrev s_names_of : Stmt := top 21
theorem sc_names_of : FnScope ["side", "member"] ["side"] (defScope s_names_of) := ⟨rfl, rfl, rfl, by decide +kernel, rfl, by decide +kernel, by decide +kernel⟩
def sp_names_of (K : PySem.W.Frag) : Sp := fun vs H Q _ => ∃ (v : V) (l : Side), vs = [v] ∧ Im K H v (sideD l) ∧ l.length ≤ 64 ∧ ∀ p H', Same H H' → H p = none → H' p = some (.tup (l.map fun z => V.str z.1)) → Q (.ref p) H'
theorem ok_names_of {f : Addr} {fd : FuncData} (F : Fun K "_names_of" "_names_of" s_names_of f fd) (n_tuple : mg "tuple" = none) : FnOk P w K mg base CX0 1 f fd ["side"] (sp_names_of K) := by
  refine F.ok sc_names_of (fun vs H Q E h => ?_) (fun cdv A outer s H vs Q E hr h => ?_)
  · obtain ⟨v, l, rfl, _⟩ := h
    rfl
  · obtain ⟨v, l, rfl, hv, hl, k⟩ := h
    obtain ⟨a, xs, rfl, ha, hx⟩ := im_side hv
    refine ⟨_, (pss_one (ps_ret (pe_callTy call_tuple_of (by rfl) n_tuple (by decide +kernel) (pa_cons (pe_lc (own := [("member", 1)]) (g := gName 1) (tt := tYes) rfl sc_names_of.nd (pi_tup (pv 0)) (blkOk_by (own := [("member", 1)]) (N := ["side", "member"]) (sc := defScope s_names_of) (by decide +kernel)) (fun _ _ _ _ _ => (pg_name (i := 1) sc_names_of.nd rfl (Or.inl rfl))) (fun _ _ _ _ _ => pts_nil) (fun _ _ _ _ _ => (pe_ix (r := rIxT K) ix_tup (pv 1) pe_int (fun _ _ => rfl)))) pa_nil)))), ?_⟩
    have lx : xs.length = l.length := by rw [hx.length, List.length_map]
    refine ⟨_, rfl, a, rfl, ⟨_, ha⟩, fun D nD => ?_⟩
    refine lc_tup (K := K) (a := a) (xs := xs) (fun j G => G D = some (.lst ((l.take j).map fun z => V.str z.1)) ∧ Same H G) ⟨upd_same, same_new (Same.refl H) nD⟩ (fun j G _ z => (Tk.same z.2).sq ha) ?_ ?_
    · rintro j y G hy ⟨z1, z2⟩
      obtain ⟨d, hd, im⟩ := hx.get hy
      obtain ⟨z, hz, rfl⟩ : ∃ z, l[j]? = some z ∧ d = pD z := by
        rw [List.getElem?_map] at hd
        cases e : l[j]? with
        | none => rw [e] at hd; cases hd
        | some u => rw [e] at hd; exact ⟨u, rfl, (Option.some.inj hd).symm⟩
      obtain ⟨b, rfl, hb⟩ := im_pair im
      have hj : j < l.length := (List.getElem?_eq_some_iff.mp hz).1
      refine ⟨rfl, ?_⟩
      refine tyes ?_
      refine iteT ?_
      refine ⟨_, rfl, b, _, 0, _, rfl, rfl, (Tk.same z2).sq hb, rfl, _, z1, ?_, ?_, ?_⟩
      · rw [List.length_map, List.length_take]
        exact Nat.lt_of_lt_of_le (show _ < 100 by omega) (by decide)
      · show (upd G D _) D = _
        rw [upd_same, List.take_add_one, hz, List.map_append] <;> rfl
      · intro c o hc
        rw [upd_ne (ne_of_none hc nD)]
        exact z2 c o hc
    · rintro G ⟨z1, z2⟩
      rw [lx, List.take_length] at z1
      exact ⟨D, _, rfl, .inl ⟨SqL.of z1, fun p np => k p _ (same_new z2 np) (z2.free np) upd_same⟩⟩
end
end F02
namespace F02
open PySem PySem.Spec PyProof.Rows L2 MG
theorem str_ext {x y : Str} (h : x.cps.toList = y.cps.toList) : x = y := by
  obtain ⟨⟨a⟩⟩ := x
  obtain ⟨⟨b⟩⟩ := y
  simp only at h
  rw [h]
theorem empty_app (x : Str) : Str.empty ++ x = x := str_ext (by rw [app_cps] <;> rfl)
theorem app_assoc (x y z : Str) : x ++ y ++ z = x ++ (y ++ z) := str_ext (by rw [app_cps, app_cps, app_cps, app_cps, List.append_assoc])
theorem app_len (x y : Str) : (x ++ y).length = x.length + y.length := by
  show (x ++ y).cps.size = x.cps.size + y.cps.size
  rw [← Array.length_toList, app_cps, List.length_append, Array.length_toList, Array.length_toList]
/-! ### the text of a fair -/
def num (i : Int) : Str := Str.ofString (toString i)
theorem num_len {i : Int} (h0 : 0 ≤ i) (h : i < 100) : (num i).length ≤ 2 := by
  have q : ∀ j : _root_.Fin 100, (num (j.val : Int)).length ≤ 2 := by decide +kernel
  have := q ⟨i.toNat, by omega⟩
  rw [show ((⟨i.toNat, by omega⟩ : _root_.Fin 100).val : Int) = i by show ((i.toNat : Nat) : Int) = i; omega] at this
  exact this
def rowT (kind : Str) (z : Str × Int) : Str := kind ++ z.1 ++ " " ++ num z.2
def deskT : Option Int → List Str
  | none => []
  | some k => ["tables " ++ num k]
def rowsT (hs gs : Side) (t : Option Int) : List Str := hs.map (rowT "host ") ++ gs.map (rowT "guest ") ++ deskT t
def textT (hs gs : Side) (t : Option Int) : Str := Txt.join "\n" (rowsT hs gs t)
theorem rowT_len {kind : Str} {z : Str × Int} (hk : kind.length ≤ 6) (h1 : z.1.length ≤ 8) (h2 : 1 ≤ z.2) (h3 : z.2 ≤ 4) : (rowT kind z).length ≤ 17 := by
  unfold rowT
  rw [app_len, app_len, app_len]
  have := num_len (i := z.2) (by omega) (by omega)
  have : ((" " : Str)).length = 1 := by decide +kernel
  omega
/-- a comprehension over pairs of a name and a bound that makes a text of each -/
theorem lc_pairs {K : PySem.W.Frag} {a : Addr} {xs : List V} {l : Side} {te : TE} {i j : Nat} {vs : List Nat} {σ : L2.St} {H1 : Hp} {D : Addr} {Qd : Hp → Prop} (row : Str × Int → Str)
    (nD : H1 D = none) (ha : SqT K H1 a xs) (hx : ImAll K H1 xs (l.map pD)) (hl : l.length ≤ 64)
    (hw : ∀ u v, wipe (((wipe σ vs).set i u).set j v) vs = wipe σ vs)
    (hte : ∀ z ∈ l, ∀ (G : Hp) (Q' : VK), Same H1 G → Q' (.str (row z)) G → te (((wipe σ vs).set i (some (.str z.1))).set j (some (.int z.2))) G Q')
    (hd : ∀ G, G D = some (.lst ((l.map row).map V.str)) → Same H1 G → Qd G) :
    ∃ W : Nat → Nat → Hp → Prop, (∃ m, W 0 m (upd H1 D (.lst []))) ∧ ∀ n m H, W n m H →
      ((Itt K a).stop n H ∧ Qd H) ∨ ((Itt K a).go n H ∧ ∃ Nx : Hp → Prop, (∀ H', Nx H' → ∃ m', m' < m ∧ W (n + 1) m' H') ∧ ∀ x H', (Itt K a).yld n H x H' → gTup K 2 (gCons (gName i) (gCons (gName j) gNil)) x (wipe σ vs) H' fun σ2 H2 => wipe σ2 vs = wipe σ vs ∧ tYes σ2 H2 fun b H3 =>
        if b = true then te σ2 H3 fun y H4 => ∃ acc, H4 D = some (.lst acc) ∧ acc.length < sizeLine ∧ Nx (upd H4 D (.lst (acc ++ [y]))) else Nx H3) := by
  have lx : xs.length = l.length := by rw [hx.length, List.length_map]
  refine lc_tup (K := K) (a := a) (xs := xs) (fun n G => G D = some (.lst (((l.take n).map row).map V.str)) ∧ Same H1 G) ⟨upd_same, same_new (Same.refl H1) nD⟩ (fun n G _ z => (Tk.same z.2).sq ha) ?_ ?_
  · rintro n y G hy ⟨z1, z2⟩
    obtain ⟨d, hd', im⟩ := hx.get hy
    obtain ⟨z, hz, rfl⟩ : ∃ z, l[n]? = some z ∧ d = pD z := by
      rw [List.getElem?_map] at hd'
      cases e : l[n]? with
      | none => rw [e] at hd'; cases hd'
      | some u => rw [e] at hd'; exact ⟨u, rfl, (Option.some.inj hd').symm⟩
    obtain ⟨b, rfl, hb⟩ := im_pair im
    have hn : n < l.length := (List.getElem?_eq_some_iff.mp hz).1
    refine ⟨b, _, rfl, (Tk.same z2).sq hb, rfl, _, _, rfl, _, _, rfl, rfl, hw _ _, ?_⟩
    refine tyes ?_
    refine iteT ?_
    refine hte z (List.mem_of_getElem? hz) G _ z2 ⟨_, z1, ?_, ?_, ?_⟩
    · rw [List.length_map, List.length_map, List.length_take]
      exact Nat.lt_of_lt_of_le (show _ < 100 by omega) (by decide)
    · show (upd G D _) D = _
      rw [upd_same, List.take_add_one, hz, List.map_append, List.map_append] <;> rfl
    · intro c o hc
      rw [upd_ne (ne_of_none hc nD)]
      exact z2 c o hc
  · rintro G ⟨z1, z2⟩
    rw [lx, List.take_length] at z1
    exact hd G z1 z2
end F02
namespace F02
open PySem PySem.Spec PyProof.Rows L2 MG
theorem sum_le {c : Nat} : ∀ ys : List Str, (∀ y ∈ ys, y.length ≤ c) → (ys.map (·.length)).sum ≤ c * ys.length
  | [], _ => by simp
  | y :: ys, h => by
    have h1 := h y (List.mem_cons_self ..)
    have h2 := sum_le ys fun z hz => h z (List.mem_cons_of_mem _ hz)
    rw [List.map_cons, List.sum_cons, List.length_cons, Nat.mul_succ]
    omega
/-- what keeps texts short -/
structure Short (hs gs : Side) (t : Option Int) : Prop where
  h4 : hs.length ≤ 4
  g4 : gs.length ≤ 4
  ln : ∀ z ∈ hs ++ gs, z.1.length ≤ 8
  bd : ∀ z ∈ hs ++ gs, 1 ≤ z.2 ∧ z.2 ≤ 4
  tb : ∀ k, t = some k → 1 ≤ k ∧ k ≤ 12
theorem Nm.len {x : Str} (h : Nm x) : 1 ≤ x.length ∧ x.length ≤ 8 := by
  have el : x.cps.toList.length = x.length := Array.length_toList
  unfold Nm at h
  cases e : x.cps.toList with
  | nil => rw [e] at h; cases h
  | cons a r =>
    rw [e] at h el
    have h' : (lowB a && decide (r.length ≤ 7) && r.all signB) = true := h
    simp only [Bool.and_eq_true, decide_eq_true_eq] at h'
    rw [List.length_cons] at el
    omega
theorem Fairish.short {hs gs : Side} {t : Option Int} (f : Fairish hs gs t) : Short hs gs t := ⟨f.h4, f.g4, fun z hz => (f.nm z hz).len.2, f.bd, f.tb⟩
theorem deskT_len {t : Option Int} (h : ∀ k, t = some k → 1 ≤ k ∧ k ≤ 12) : (deskT t).length ≤ 1 ∧ ∀ y ∈ deskT t, y.length ≤ 20 := by
  cases t with
  | none => exact ⟨Nat.zero_le _, fun y hy => by cases hy⟩
  | some k =>
    refine ⟨Nat.le_refl _, fun y hy => ?_⟩
    have e : y = "tables " ++ num k := List.mem_singleton.mp hy
    obtain ⟨k1, k2⟩ := h k rfl
    have := num_len (i := k) (by omega) (by omega)
    have e7 : ("tables " : Str).length = 7 := by decide +kernel
    rw [e, app_len]
    omega
theorem Short.rows {hs gs : Side} {t : Option Int} (f : Short hs gs t) : (rowsT hs gs t).length ≤ 9 ∧ ∀ y ∈ rowsT hs gs t, y.length ≤ 20 := by
  obtain ⟨d1, d2⟩ := deskT_len f.tb
  have e5 : ("host " : Str).length ≤ 6 := by decide +kernel
  have e6 : ("guest " : Str).length ≤ 6 := by decide +kernel
  unfold rowsT
  refine ⟨?_, fun y hy => ?_⟩
  · rw [List.length_append, List.length_append, List.length_map, List.length_map]
    have := f.h4; have := f.g4
    omega
  · rcases List.mem_append.mp hy with hy | hy
    · rcases List.mem_append.mp hy with hy | hy
      · obtain ⟨z, hz, rfl⟩ := List.mem_map.mp hy
        have hz' := List.mem_append_left gs hz
        exact Nat.le_trans (rowT_len e5 (f.ln z hz') (f.bd z hz').1 (f.bd z hz').2) (by decide)
      · obtain ⟨z, hz, rfl⟩ := List.mem_map.mp hy
        have hz' := List.mem_append_right hs hz
        exact Nat.le_trans (rowT_len e6 (f.ln z hz') (f.bd z hz').1 (f.bd z hz').2) (by decide)
    · exact d2 y hy
theorem Short.joins {hs gs : Side} {t : Option Int} (f : Short hs gs t) : ((rowsT hs gs t).map (·.length)).sum + (rowsT hs gs t).length * ("\n" : Str).length ≤ 16777216 := by
  obtain ⟨h1, h2⟩ := f.rows
  have := sum_le _ h2
  have e : ("\n" : Str).length = 1 := by decide +kernel
  rw [e]
  omega
section
variable {P : Program} {w : World} {K : PySem.W.Frag} {mg : Str → Option Value} {base : Heap}
abbrev s_text_of : Stmt := top 22
theorem sc_text_of : FnScope ["hosts", "guests", "tables", "lines", "name", "bound"] ["hosts", "guests", "tables"] (defScope s_text_of) := ⟨rfl, rfl, rfl, by decide +kernel, rfl, by decide +kernel, by decide +kernel⟩
def sp_text_of (K : PySem.W.Frag) : Sp := fun vs H Q _ => ∃ (vh vg : V) (hs gs : Side) (t : Option Int), vs = [vh, vg, deskV t] ∧ Im K H vh (sideD hs) ∧ Im K H vg (sideD gs) ∧ Short hs gs t ∧ ∀ H', Same H H' → Q (.str (textT hs gs t)) H'
theorem ok_text_of {f : Addr} {fd : FuncData} (F : Fun K "_text_of" "_text_of" s_text_of f fd) : FnOk P w K mg base CX0 1 f fd ["hosts", "guests", "tables"] (sp_text_of K) := by
  refine F.ok sc_text_of (fun vs H Q E h => ?_) (fun cdv A outer s H vs Q E hr h => ?_)
  · obtain ⟨vh, vg, hs, gs, t, rfl, _⟩ := h
    rfl
  · obtain ⟨vh, vg, hs, gs, t, rfl, ih, ig, S, k⟩ := h
    obtain ⟨a, xs, rfl, ha, hx⟩ := im_side ih
    obtain ⟨b, ys, rfl, hb, hy⟩ := im_side ig
    refine ⟨_, (pss_cons (ps_setLc (i := 3) (own := [("name", 4), ("bound", 5)]) (g := gTup K 2 (gCons (gName 4) (gCons (gName 5) gNil))) (tt := tYes) rfl sc_text_of.nd rfl rfl (sw_true rfl rfl rfl (by decide +kernel)) (pi_tup (pv 0)) (blkOk_by (own := [("name", 4), ("bound", 5)]) (N := ["hosts", "guests", "tables", "lines", "name", "bound"]) (sc := defScope s_text_of) (by decide +kernel)) (fun _ _ _ _ _ => (pg_tup rfl (pgs_cons (pg_name (i := 4) sc_text_of.nd rfl (Or.inl rfl)) (pgs_cons (pg_name (i := 5) sc_text_of.nd rfl (Or.inl rfl)) pgs_nil)))) (fun _ _ _ _ _ => pts_nil) (fun _ _ _ _ _ => (pe_joined (PJ.cons pe_str (PJ.cons (pe_fmt (pv 4)) (PJ.cons pe_str (PJ.cons (pe_fmt (pv 5)) PJ.nil)))))))
      (pss_cons (ps_expr (pe_bm PySem.F.plainAttrs_list PySem.F.slot_list_extend PySem.F.type_list_extend mt_extend (pv 3) (pa_cons (pe_lc (own := [("name", 4), ("bound", 5)]) (g := gTup K 2 (gCons (gName 4) (gCons (gName 5) gNil))) (tt := tYes) rfl sc_text_of.nd (pi_tup (pv 1)) (blkOk_by (own := [("name", 4), ("bound", 5)]) (N := ["hosts", "guests", "tables", "lines", "name", "bound"]) (sc := defScope s_text_of) (by decide +kernel)) (fun _ _ _ _ _ => (pg_tup rfl (pgs_cons (pg_name (i := 4) sc_text_of.nd rfl (Or.inl rfl)) (pgs_cons (pg_name (i := 5) sc_text_of.nd rfl (Or.inl rfl)) pgs_nil)))) (fun _ _ _ _ _ => pts_nil) (fun _ _ _ _ _ => (pe_joined (PJ.cons pe_str (PJ.cons (pe_fmt (pv 4)) (PJ.cons pe_str (PJ.cons (pe_fmt (pv 5)) PJ.nil))))))) pa_nil)))
      (pss_cons (ps_if (pt_cmpR op_notN (pv 2) pe_non (nomark _))
        (pss_one (ps_expr (pe_bm PySem.F.plainAttrs_list PySem.F.slot_list_append PySem.F.type_list_append mt_append (pv 3) (pa_cons (pe_joined (PJ.cons pe_str (PJ.cons (pe_fmt (pv 2)) PJ.nil))) pa_nil))))
        pss_nil)
      (pss_one (ps_ret (pe_join pe_str (pv 3))))))), ?_⟩
    have row_ok : ∀ (kind : Str) (z : Str × Int), kind.length ≤ 6 → z.1.length ≤ 8 → 1 ≤ z.2 → z.2 ≤ 4 →
        z.1.length ≤ sizeLine ∧ z.2.natAbs.log2 < 1920 ∧ (Str.empty ++ kind).length ≤ sizeLine ∧ (Str.empty ++ kind ++ z.1).length ≤ sizeLine ∧ (Str.empty ++ kind ++ z.1 ++ " ").length ≤ sizeLine ∧ (Str.empty ++ kind ++ z.1 ++ " " ++ num z.2).length ≤ sizeLine := by
      intro kind z k1 k2 k3 k4
      have n2 := num_len (i := z.2) (by omega) (by omega)
      have e1 : ((" " : Str)).length = 1 := by decide +kernel
      have big : ∀ n, n ≤ 100 → n ≤ sizeLine := fun n h => Nat.le_trans h (by decide)
      refine ⟨big _ (by omega), int_small (by omega) (by omega), ?_, ?_, ?_, ?_⟩
      all_goals (rw [empty_app]; apply big; (try simp only [app_len]); omega)
    refine ⟨_, rfl, a, rfl, ⟨_, ha⟩, fun D nD => ?_⟩
    refine lc_pairs (K := K) (te := fun σ H Q => tJs [tC (V.str "host "), tFmt (tVar 4), tC (V.str " "), tFmt (tVar 5)] Str.empty σ H fun out H1 => Q (V.str out) H1) (i := 4) (j := 5) (rowT "host ") nD ha hx (Nat.le_trans S.h4 (by decide)) ?hw (fun z hz G Q' sG q' => ?_) (fun G g1 g2 => ?_)
    case hw => intros; rfl
    · have hz' := List.mem_append_left gs hz
      obtain ⟨r1, r2, r3, r4, r5, r6⟩ := row_ok "host " z (by decide +kernel) (S.ln z hz') (S.bd z hz').1 (S.bd z hz').2
      refine ⟨_, rfl, r3, _, rfl, .inl ⟨_, rfl, r1, _, rfl, r4, _, rfl, r5, _, rfl, .inr ⟨_, rfl, r2, _, rfl, r6, ?_⟩⟩⟩
      unfold rowT at q'
      rw [empty_app]
      exact q'
    · have hb2 := (Tk.same g2).sq hb
      have hy2 := hy.to (Tk.same g2) _ _
      refine ⟨_, rfl, .inl ⟨rfl, _, SqL.of g1⟩, _, rfl, b, rfl, ⟨_, hb2⟩, fun D2 nD2 => ?_⟩
      refine lc_pairs (K := K) (te := fun σ H Q => tJs [tC (V.str "guest "), tFmt (tVar 4), tC (V.str " "), tFmt (tVar 5)] Str.empty σ H fun out H1 => Q (V.str out) H1) (i := 4) (j := 5) (rowT "guest ") nD2 hb2 hy2 (Nat.le_trans S.g4 (by decide)) ?hw (fun z hz G' Q' sG q' => ?_) (fun G' g3 g4 => ?_)
      case hw => intros; rfl
      · have hz' := List.mem_append_right hs hz
        obtain ⟨r1, r2, r3, r4, r5, r6⟩ := row_ok "guest " z (by decide +kernel) (S.ln z hz') (S.bd z hz').1 (S.bd z hz').2
        refine ⟨_, rfl, r3, _, rfl, .inl ⟨_, rfl, r1, _, rfl, r4, _, rfl, r5, _, rfl, .inr ⟨_, rfl, r2, _, rfl, r6, ?_⟩⟩⟩
        unfold rowT at q'
        rw [empty_app]
        exact q'
      · have gD := g4 _ _ g1
        have HD : H D = none := nD
        have muta : ∀ (o : HO) (X : Hp), Same H X → Same H (upd X D o) := fun o X s c u e => by
          rw [upd_ne (ne_of_none e nD)]; exact s c u e
        have sh := S.rows.1
        refine ⟨D, D2, _, _, rfl, rfl, gD, g3, ?_, ?_⟩
        · rw [List.length_map, List.length_map, List.length_map, List.length_map]
          exact Nat.le_trans (show _ ≤ 100 by have := S.h4; have := S.g4; omega) (by decide)
        · have eD : (upd G' D (.lst ((hs.map (rowT "host ")).map V.str ++ (gs.map (rowT "guest ")).map V.str))) D = some (.lst ((hs.map (rowT "host ") ++ gs.map (rowT "guest ")).map V.str)) := by
            rw [upd_same, List.map_append]
          have sm := muta (.lst ((hs.map (rowT "host ")).map V.str ++ (gs.map (rowT "guest ")).map V.str)) G' (g2.trans g4)
          have jn := S.joins
          cases t with
          | none =>
            have er : rowsT hs gs none = hs.map (rowT "host ") ++ gs.map (rowT "guest ") := by
              unfold rowsT deskT
              rw [List.append_nil]
            rw [← er] at eD
            refine ⟨_, rfl, rfl, _, rfl, ?_⟩
            refine if_false_of (by simp [deskV]) ?_
            exact ⟨⟨_, rfl⟩, _, rfl, "\n", D, rowsT hs gs none, rfl, rfl, .inl (SqL.of eD), jn, k _ sm⟩
          | some n =>
            obtain ⟨n1, n2⟩ := S.tb n rfl
            have nl := num_len (i := n) (by omega) (by omega)
            have e7 : ("tables " : Str).length = 7 := by decide +kernel
            have big : ∀ n, n ≤ 100 → n ≤ sizeLine := fun n h => Nat.le_trans h (by decide)
            refine ⟨_, rfl, rfl, _, rfl, ?_⟩
            refine if_true_of (by simp [deskV]) ?_
            refine ⟨_, rfl, .inl ⟨rfl, _, SqL.of eD⟩, _, rfl, ?_, _, rfl, .inr ⟨n, rfl, int_small (by omega) (by omega), _, rfl, ?_, D, _, _, rfl, rfl, eD, ?_, ?_⟩⟩
            · rw [empty_app]; exact big _ (by omega)
            · show (Str.empty ++ "tables " ++ num n).length ≤ sizeLine
              rw [empty_app, app_len]
              exact big _ (by omega)
            · rw [List.length_map, List.length_append, List.length_map, List.length_map]
              exact Nat.lt_of_lt_of_le (show _ < 100 by have := S.h4; have := S.g4; omega) (by decide)
            · have ex : (upd (upd G' D (.lst ((hs.map (rowT "host ")).map V.str ++ (gs.map (rowT "guest ")).map V.str))) D (.lst ((hs.map (rowT "host ") ++ gs.map (rowT "guest ")).map V.str ++ [V.str (Str.empty ++ "tables " ++ num n)]))) D = some (.lst ((rowsT hs gs (some n)).map V.str)) := by
                rw [upd_same, empty_app]
                unfold rowsT deskT
                simp only [List.map_append, List.map_cons, List.map_nil]
              exact ⟨⟨_, rfl⟩, _, rfl, "\n", D, rowsT hs gs (some n), rfl, rfl, .inl (SqL.of ex), jn, k _ (muta _ _ sm)⟩
end
end F02
namespace ET
open PySem
open Sem (wp)
open AutoSeq1 (wpAny_loadPart')
theorem meets_new (l : Addr) (items : Array Value) (n : Nat) (dct : Option Addr) (sl : Array (Option Value)) :
    Meets (Builtin.«enumerate.__new__» ⟨[.type "enumerate", .ref l], []⟩) (fun _ R s =>
      s.heap.get? l = some { cls := .type "tuple", dict := dct, data := .seq items n, slots := sl } ∧
      R (.ok (.ret (.ref (s.heap.push { cls := .type "tuple_iterator", data := .fields #[.ref l, .int 0 0] }).objs.size)))
        { s with heap := (s.heap.push { cls := .type "tuple_iterator", data := .fields #[.ref l, .int 0 0] }).push { cls := .type "enumerate", data := .fields #[.none, .bool false, .ref s.heap.objs.size, rawInt 0, .none, .none] } }) := by
  refine .of_wp fun prog w A R s h => ?_
  obtain ⟨hp, g, d, tk, os⟩ := s
  obtain ⟨hl, h⟩ := h
  have hsub := sub_enumerate
  have hT : Heap.IsTuple (Shared.heap ⟨hp, g, d, tk, os⟩) l items := ⟨_, hl, rfl, n, rfl⟩
  wp_walk using wpAny_loadPart' hl
  refine wpAny_stack_any (fun st => wpAny_pure ?_)
  split
  · rename_i c _ _ _ _ _
    cases (c == Value.type "enumerate") <;> (wp_walk using wpAny_loadPart' hl, wpAny_pyIter_tuple hT; exact ⟨_, rfl, h⟩)
  · wp_walk using wpAny_loadPart' hl, wpAny_pyIter_tuple hT
    exact ⟨_, rfl, h⟩
theorem call_new {prog : Program} {w : World} {A : Around} {E : Value → Shared → Prop} {s : Shared} {l : Addr} {items : Array Value} {Q : Value → Shared → Prop} (hL : s.heap.IsTuple l items)
    (h : ∀ h', IsEnum h' (s.heap.objs.size + 1) s.heap.objs.size 0 .none → h'.IsTupleIter s.heap.objs.size l 0 →
      (∀ b o, s.heap.get? b = some o → h'.get? b = some o) → Q (.ref (s.heap.objs.size + 1)) { s with heap := h' }) :
    wpAny (model prog w) A (call (.type "enumerate") [.ref l]) Q E s := by
  obtain ⟨⟨c, dct, dt, sl⟩, hl, hc, n, hd⟩ := hL
  obtain rfl : c = .type "tuple" := hc
  obtain rfl : dt = .seq items n := hd
  refine callType_new F.called_enumerate (by decide) (F.typeCall_enumerate_1 _) (F.newCall_enumerate_1 _)
    (fun obj => F.args_object_init_2 obj _) F.entry_enumerate_new (meets_new l items n dct sl) ⟨hl, ?_⟩
  have hz : (s.heap.push { cls := .type "tuple_iterator", data := .fields #[.ref l, .int 0 0] }).objs.size = s.heap.objs.size + 1 := Heap.size_push ..
  show _ ∧ _
  rw [hz]
  have he := Heap.get?_push_size (s.heap.push { cls := .type "tuple_iterator", data := .fields #[.ref l, .int 0 0] })
    (o := { cls := .type "enumerate", data := .fields #[.none, .bool false, .ref s.heap.objs.size, rawInt 0, .none, .none] }) rfl
  rw [hz] at he
  exact ⟨⟨_, he, rfl⟩, h _ he ⟨_, Heap.get?_push_of_some _ (Heap.get?_push_size _ rfl), rfl, rfl⟩ (fun b o x => Heap.get?_push_of_some _ (Heap.get?_push_of_some _ x))⟩
end ET
namespace F02
open PySem PySem.Spec PyProof.Rows L2 MG
/-- the tuple at a as it stands at each turn, each item in a new pair -/
def IteT (K : PySem.W.Frag) (a : Addr) : It :=
  ⟨fun i H => ∃ (xs : List V) (x : V), SqT K H a xs ∧ xs[i]? = some x,
   fun i H v H' => ∃ T x, v = .ref T ∧ H T = none ∧ H' = upd H T (.tup [.int (i : Nat), x]) ∧ ∀ xs, SqT K H a xs → xs[i]? = some x,
   fun i H => ∃ xs : List V, SqT K H a xs ∧ xs.length = i⟩
theorem turn_enumT {P : Program} {w : World} {K : PySem.W.Frag} {elts : List Expr} {kk : Nat} {tpos : Pos} (a e it : Addr) :
    Turn P w K (.Tuple elts kk tpos) (IteT K a) [e, it] e (fun i h => (∃ old, IsEnum h e it ((i : Nat) : Int) old) ∧ h.IsTupleIter it a i ∧ e ≠ it) where
  mem := by simp
  obj := fun i h st b hb => by
    obtain ⟨⟨old, he⟩, ⟨o, ho, hc, hd⟩, _⟩ := st
    rcases (show b = e ∨ b = it by simpa using hb) with rfl | rfl
    · exact ⟨_, he, fun v q => nomatch q⟩
    · exact ⟨o, ho, fun v q => by rw [hd] at q; cases q⟩
  keep := fun i h h' st k => by
    obtain ⟨⟨old, he⟩, hi, hne⟩ := st
    exact ⟨⟨old, k e (by simp) _ he⟩, hi.at fun o q => k it (by simp) o q, hne⟩
  item := by
    intro X hP hw hK hc i pins s σ H E I hf st hg
    subst hP hw hK
    obtain ⟨⟨old, he⟩, hit, hne⟩ := st
    obtain ⟨xs, x, hq, hx⟩ := hg
    obtain ⟨its, rv, p, hz⟩ := I.tuple hq
    obtain ⟨u, hu, ru⟩ := rv.get hx
    have hel := Heap.lt_size he
    have hil : it < s.heap.objs.size := by obtain ⟨_, q, _⟩ := hit; exact Heap.lt_size q
    have pT : s.heap.IsTuple a its.toArray := p
    have nai : a ≠ it := fun z => by
      obtain ⟨o1, h1, c1, _⟩ := pT
      obtain ⟨o2, h2, c2, _⟩ := hit
      rw [z, h2] at h1
      cases h1
      rw [c1] at c2
      exact absurd c2 (by decide)
    have nae : e ≠ a := fun z => by
      obtain ⟨o1, h1, c1, _⟩ := pT
      rw [← z, he] at h1
      cases h1
      exact absurd (show Value.type "enumerate" = Value.type "tuple" from c1) (by decide)
    have hlt : i < its.toArray.size := by
      have := (List.getElem?_eq_some_iff.mp hu).1
      simpa using this
    refine wpAny_pyNext_enum_itemD (Draws.tuple (A := X.A.in1) (I.ok.hd hc) it a nai its.toArray) he ⟨hit, pT⟩ hlt hne (by simp [hne, nae]) (fun y h' tk hy ho st' hT hsz hk => ?_)
    have ey : y = u := by
      have h1 : its.toArray[i]? = some y := hy
      have h2 : its.toArray[i]? = some u := by simpa using hu
      rw [h1] at h2
      exact Option.some.inj h2
    subst ey
    refine ⟨_, rfl, wpAny_letOwnedTupleGo_enum (s := { s with heap := h', toks := tk + 1 }) ho (fun h'' he' sb => ?_)⟩
    have hT2 := (sb.2 _ (Nat.ne_of_gt hel)).trans hT
    have new : ObjOk X.prog X.w (upd H s.heap.objs.size (.tup [.int (i : Nat), x])) h'' s.heap.objs.size (.tup [.int (i : Nat), x]) :=
      ⟨by show 2 ≤ sizeLine; decide, [.int i tk, y], .cons ⟨_, rfl⟩ (.cons ru .nil), ⟨_, hT2, rfl, _, rfl⟩⟩
    have I1 : Inv X pins σ (upd H s.heap.objs.size (.tup [.int (i : Nat), x])) { s with heap := h'', toks := tk + 1 } :=
      I.turnedNew (ch := [e, it]) (fun b ob hb q => (sb.2 b (fun z => hb (by simp [z]))).trans (hk b ob (fun z => hb (by simp [z])) (fun z => hb (by simp [z])) q)) hf (Nat.le_refl _) new
    refine ⟨.ref s.heap.objs.size, _, I1, rfl, ⟨_, x, rfl, I.hok.fresh (Nat.le_refl _), rfl, fun ys hy => by rw [I.tuple_inj hy hq]; exact hx⟩, ⟨⟨y, ?_⟩, st'.1.at fun o q => (sb.2 it (Ne.symm hne)).trans q, hne⟩, fun b hb => ?_⟩
    · rw [show ((i + 1 : Nat) : Int) = (i : Int) + 1 by omega]
      exact he'
    · have hb' : b < s.heap.objs.size := by
        rcases (show b = e ∨ b = it by simpa using hb) with z | z
        · rw [z]; exact hel
        · rw [z]; exact hil
      rw [upd_ne (Nat.ne_of_lt hb')]
      exact (hf b hb).1
  done := by
    intro X hP hw hK hc i pins s σ H E I hf st hg
    subst hP hw hK
    obtain ⟨⟨old, he⟩, hit, hne⟩ := st
    obtain ⟨xs, hq, hx⟩ := hg
    obtain ⟨its, rv, p, hz⟩ := I.tuple hq
    obtain ⟨f0, f1, f2, f3, f4, f5⟩ := hf it (by simp)
    have hl := rv.length
    have pT : s.heap.IsTuple a its.toArray := p
    have nai : a ≠ it := fun z => by
      obtain ⟨o1, h1, c1, _⟩ := pT
      obtain ⟨o2, h2, c2, _⟩ := hit
      rw [z, h2] at h1
      cases h1
      rw [c1] at c2
      exact absurd c2 (by decide)
    have ei : i = its.toArray.size := by
      rw [← hx, hl]
      simp
    subst ei
    exact wpAny_pyNext_enum_endD (Draws.tuple (A := X.A.in1) (I.ok.hd hc) it a nai its.toArray) he ⟨hit, pT⟩ (fun h' eb => ⟨rfl, I.turned (t' := s.toks) (fun b o hb q => eb b o hb q) f0 f1 f3 f4 f5⟩)
  self := fun A i s Q E st h => by
    obtain ⟨⟨_, he⟩, _⟩ := st
    exact wpAny_pyIter_enum he h
end F02
namespace F02
open PySem PySem.Spec PyProof.Rows L2 MG
def iEnumT (K : PySem.W.Frag) (ta : TA) : TI := fun σ H R => ta σ H fun vs H1 => ∃ a xs, vs = [.ref a] ∧ SqT K H1 a xs ∧ R (IteT K a) H1
theorem pi_enumT {X : Cx} {e : Expr} {ta : TA} {p pos tpos : Pos} {elts : List Expr} {kk : Nat} (hg : Gl X "enumerate") (hm : X.mg "enumerate" = none) (ha : PA X [e] ta)
    (hs : starEach [e] X.env = [(false, eval e X.env)] := by rfl) : PI X (.Tuple elts kk tpos) (.Call (.Name "enumerate" p) [e] [] pos) (iEnumT X.K ta) := by
  constructor
  intro pins s σ H R I h
  refine Call_ (ld_blt I hg hm boot_enumerate (PyProof.Rows.callWith_type1 (thn (ha.run pos pins s σ H _ I h) (fun us s1 hh => ?_)) hs rfl))
  obtain ⟨vs, H1, I1, r1, a, xs, ex, hq, q⟩ := hh
  subst ex
  cases r1 with
  | cons r rr =>
    cases rr
    cases r
    obtain ⟨its, rv, p', hz⟩ := I1.tuple hq
    refine ET.call_new (show s1.heap.IsTuple a its.toArray from p') (fun h' he hit hk => wpAny_pyIter_enum he ?_)
    have I2 : Inv X pins σ H1 { s1 with heap := h' } := I1.kept (t' := s1.toks) hk
    refine ⟨s1.heap.objs.size + 1, [s1.heap.objs.size + 1, s1.heap.objs.size], _, _, H1, rfl, I2, turn_enumT a (s1.heap.objs.size + 1) s1.heap.objs.size, ⟨⟨.none, he⟩, hit, Nat.succ_ne_self _⟩, (fun b hb => ?_), q⟩
    have hle : s1.heap.objs.size ≤ b := by
      rcases (show b = s1.heap.objs.size + 1 ∨ b = s1.heap.objs.size by simpa using hb) with z | z
      · rw [z]; exact Nat.le_add_right _ _
      · exact Nat.le_of_eq z.symm
    exact I1.fpOk hle (I1.hok.fresh hle)
theorem walk_enumT {K : PySem.W.Frag} {a : Addr} {xs : List V} : Walk (IteT K a) xs.length (fun H => SqT K H a xs) (YPair (fun i => some (.int (i : Nat))) (fun i => xs[i]?)) where
  goes := fun i _ hi q => ⟨xs, xs[i], q, by simp [hi]⟩
  stops := fun _ q => ⟨xs, q, rfl⟩
  yields := fun i H v H' hi q y => by
    obtain ⟨T, x, h1, h2, h3, h4⟩ := y
    exact ⟨T, .int (i : Nat), x, h1, h2, h3, rfl, h4 xs q⟩
section
variable {P : Program} {w : World} {K : PySem.W.Frag} {mg : Str → Option Value} {base : Heap}
abbrev s_fault : Stmt := top 20
theorem sc_fault : FnScope ["side", "taken", "seen", "index", "member"] ["side", "taken"] (defScope s_fault) := ⟨rfl, rfl, rfl, by decide +kernel, rfl, by decide +kernel, by decide +kernel⟩
/-- a right side: nothing is wrong -/
def sp_fault (K : PySem.W.Frag) : Sp := fun vs H Q _ => ∃ (v : V) (b : Addr) (l : Side) (tk : List Str), vs = [v, .ref b] ∧ Im K H v (sideD l) ∧ SqT K H b (tk.map V.str) ∧ 1 ≤ l.length ∧ l.length ≤ 4 ∧ tk.length ≤ 8 ∧
  (tk ++ l.map (·.1)).Nodup ∧ (∀ z ∈ l, Nm z.1) ∧ (∀ z ∈ l, 1 ≤ z.2 ∧ z.2 ≤ 4) ∧ ∀ p H', Same H H' → H' p = some (.tup []) → Q (.ref p) H'
structure TxF (K : PySem.W.Frag) (mg : Str → Option Value) (f_is_member : Addr) : Prop where
  n_isinstance : mg "isinstance" = none
  n_tuple : mg "tuple" = none
  n_list : mg "list" = none
  n_enumerate : mg "enumerate" = none
  g_MOST_SIDE : ∃ t, mg "MOST_SIDE" = some (.int 4 t)
  g_is_member : mg "_is_member" = some (.ref f_is_member)
  k_is_member : PySem.W.keepIn K (.ref f_is_member) = true
theorem tru_tup {H : Hp} {a : Addr} {xs : List V} (h : SqT K H a xs) : TruV K (.ref a) H (!xs.isEmpty) := .inr (.inl ⟨xs, h, rfl⟩)
theorem ok_fault {f f_is_member : Addr} {fd fd_is_member : FuncData} (F : Fun K "_fault" "_fault" s_fault f fd) (T : TxF K mg f_is_member)
    (G_is_member : FnOk P w K mg base CX0 2 f_is_member fd_is_member ["value"] (sp_is_member K)) (b_is_member : Binds K fd_is_member ["value"] []) :
    FnOk P w K mg base CX0 3 f fd ["side", "taken"] (sp_fault K) := by
  obtain ⟨t1, g1⟩ := T.g_MOST_SIDE
  refine F.ok sc_fault (fun vs H Q E h => ?_) (fun cdv A outer s H vs Q E hr h => ?_)
  · obtain ⟨v, b, l, tk, rfl, _⟩ := h
    rfl
  · obtain ⟨v, b, l, tk, rfl, iv, hb, l1, l4, tk8, nd, nm, bd, k⟩ := h
    obtain ⟨a, xs, rfl, ha, hx⟩ := im_side iv
    have lx : xs.length = l.length := by rw [hx.length, List.length_map]
    refine ⟨_, (pss_cons (ps_if (PW.pt (pw_or (pt_not (pt_val (pe_callB call_isi (by rfl) T.n_isinstance (by decide +kernel) (pa_cons (pv 0) (pa_cons (pe_bltn (v := .ty "tuple") (by rfl) T.n_tuple (by decide +kernel) rfl) pa_nil))))) (pw_or1 (pt_not (pt_truth (pv 0) (by intro _; rfl))))))
        (pss_one (ps_ret (pe_tup (pa_cons pe_non pa_nil))))
        pss_nil)
      (pss_cons (ps_set (i := 2) sc_fault.nd rfl (Or.inl rfl) (pe_callTy call_list_of (by rfl) T.n_list (by decide +kernel) (pa_cons (pv 1) pa_nil)))
      (pss_cons (ps_for PassesOwn.never rfl (pi_enumT (by rfl) T.n_enumerate (pa_cons (pv 0) pa_nil)) (pg_tup rfl (pgs_cons (pg_name (i := 3) sc_fault.nd rfl (Or.inl rfl)) (pgs_cons (pg_name (i := 4) sc_fault.nd rfl (Or.inl rfl)) pgs_nil)))
        (pss_cons (ps_if (PW.pt (pw_or (pt_cmpR op_eq (pv 3) (pe_glob (v := .int 4) rfl g1 ⟨_, rfl⟩) (nomark _)) (pw_or (pt_not (pt_val (pe_call G_is_member hr rfl T.g_is_member T.k_is_member b_is_member .nil pass0 (pa_cons (pv 4) pa_nil)))) (pw_or1 (pt_cmpR op_in_seq (pe_ix ix_tup (pv 4) pe_int (fun _ _ => rfl)) (pv 2) rfl)))))
        (pss_one (ps_ret (pe_tup (pa_cons (pv 3) pa_nil))))
        pss_nil)
      (pss_one (ps_expr (pe_bm PySem.F.plainAttrs_list PySem.F.slot_list_append PySem.F.type_list_append mt_append (pv 2) (pa_cons (pe_ix ix_tup (pv 4) pe_int (fun _ _ => rfl)) pa_nil))))))
      (pss_one (ps_ret (pe_tup pa_nil)))))), ?_⟩
    refine seq_if (b := false) (fun Q' q' => ?_) (fun c => by cases c) (fun _ => ?_)
    · refine ⟨_, rfl, .ref a, .ty "tuple", _, _, true, rfl, .ty "tuple", ty_tup ha, kit_ty (by decide +kernel), _, rfl, ?_⟩
      refine iteF ⟨_, rfl, _, tru_tup ha, ?_⟩
      have : xs.isEmpty = false := by
        cases xs with
        | nil => simp at lx; omega
        | cons => rfl
      rw [this]
      exact q'
    · refine ⟨_, rfl, b, _, rfl, .inr hb, fun D nD => ?_⟩
      have s0 := same_new (o := .lst (tk.map V.str)) (Same.refl H) nD
      refine ⟨_, rfl, a, xs, rfl, (Tk.same s0).sq ha, ?_⟩
      have muta : ∀ (o : HO) (X : Hp), Same H X → Same H (upd X D o) := fun o X s c u e => by
        rw [upd_ne (ne_of_none e nD)]; exact s c u e
      refine for_it walk_enumT (fun i σ G => ∃ v3 v4 : Option V, σ = [some (.ref a), some (.ref b), some (.ref D), v3, v4] ∧ G D = some (.lst ((tk ++ (l.take i).map (·.1)).map V.str)) ∧ Same H G)
        ⟨none, none, rfl, by rw [upd_same] <;> simp, s0⟩ (fun i σ G _ ⟨_, _, _, _, sG⟩ => (Tk.same sG).sq ha) ?_ ?_
      · rintro i _ σ G _ hi ⟨v3, v4, rfl, gD, sG⟩ ⟨T', x, y, rfl, nT, rfl, ex, ey⟩
        have ex' : x = .int (i : Nat) := (Option.some.inj ex).symm
        subst ex'
        obtain ⟨d, hd, im⟩ := hx.get ey
        obtain ⟨z, hz, rfl⟩ : ∃ z, l[i]? = some z ∧ d = pD z := by
          rw [List.getElem?_map] at hd
          cases e : l[i]? with
          | none => rw [e] at hd; cases hd
          | some u => rw [e] at hd; exact ⟨u, rfl, (Option.some.inj hd).symm⟩
        have hil : i < l.length := (List.getElem?_eq_some_iff.mp hz).1
        have hzl : z ∈ l := List.mem_of_getElem? hz
        obtain ⟨c, rfl, hc⟩ := im_pair im
        have s1 := same_new (o := .tup [.int (i : Nat), .ref c]) sG nT
        have gD1 : (upd G T' (.tup [.int (i : Nat), .ref c])) D = some (.lst ((tk ++ (l.take i).map (·.1)).map V.str)) := (upd_ne (ne_of_none gD nT)).trans gD
        have hc1 := (Tk.same s1).sq hc
        refine ⟨T', _, rfl, SqT.of upd_same, rfl, _, _, rfl, _, _, rfl, rfl, ?_⟩
        have notin : z.1 ∉ tk ++ (l.take i).map (·.1) := by
          intro m
          have nd' := List.nodup_append.mp nd
          rcases List.mem_append.mp m with m | m
          · exact nd'.2.2 _ m _ (List.mem_map.mpr ⟨z, hzl, rfl⟩) rfl
          · have ndl := nd'.2.1
            have split : l.map (·.1) = (l.take i).map (·.1) ++ z.1 :: (l.drop (i + 1)).map (·.1) := by
              rw [← List.map_cons (f := fun z : Str × Int => z.1), ← List.map_append]
              congr 1
              have hg : l[i] = z := by
                have := List.getElem?_eq_getElem hil
                rw [hz] at this
                exact (Option.some.inj this).symm
              rw [← hg, ← List.drop_eq_getElem_cons hil, List.take_append_drop]
            rw [split] at ndl
            exact (List.nodup_append.mp ndl).2.2 _ m _ (List.mem_cons_self ..) rfl
        refine seq_ifH (b := false) (fun X => Same H X ∧ X D = some (.lst ((tk ++ (l.take i).map (·.1)).map V.str)) ∧ SqT K X c [.str z.1, .int z.2]) (fun Q' q' => ?_) (fun X _ c => by cases c) (fun X ⟨sX, gX, hcX⟩ _ => ?_)
        · refine ⟨_, rfl, rfl, _, rfl, ?_⟩
          have i4 : ¬ (V.int (i : Nat) = V.int 4) := fun e => by
            injection e with e
            omega
          refine if_false_of (decide_eq_false i4) ?_
          refine ⟨_, rfl, .ref c, z, rfl, im.to (Tk.same s1) _ _, nm z hzl, (nm z hzl).len.2, (bd z hzl).1, (bd z hzl).2, fun X sX => ⟨_, rfl, ?_⟩⟩
          have gX := sX _ _ gD1
          have hcX := (Tk.same sX).sq hc1
          refine iteF ⟨_, rfl, c, _, 0, _, rfl, rfl, hcX, rfl, _, rfl, D, _, rfl, .inl (SqL.of gX), rfl, flat_strs _, _, rfl, ?_⟩
          rw [inV_str]
          have : decide (z.1 ∈ tk ++ (l.take i).map (·.1)) = false := decide_eq_false notin
          rw [this]
          exact q' X ⟨s1.trans sX, gX, hcX⟩
        · refine ⟨_, rfl, .inl ⟨rfl, _, SqL.of gX⟩, _, rfl, c, _, 0, _, rfl, rfl, hcX, rfl, D, _, _, rfl, rfl, gX, ?_, _, _, rfl, ?_, muta _ X sX⟩
          · rw [List.length_map, List.length_append, List.length_map, List.length_take]
            exact Nat.lt_of_lt_of_le (show _ < 100 by omega) (by decide)
          · show (upd X D _) D = _
            rw [upd_same, List.take_add_one, hz]
            simp
      · rintro σ G ⟨v3, v4, rfl, gD, sG⟩
        exact ⟨Nat.zero_le _, fun p np => k p _ (same_new sG np) upd_same⟩
end
end F02
namespace F02
open PySem PySem.Spec PyProof.Rows L2 MG
def ff (vh vg vt : V) (n : Addr) (x : Str) : List (Str × V) := [("_hosts", vh), ("_guests", vg), ("_tables", vt), ("_names", .ref n), ("_text", .str x)]
theorem putF_cons (f g : Str) (y z : V) (r : List (Str × V)) : putF f y ((g, z) :: r) = if g = f then (g, y) :: r else (g, z) :: putF f y r := rfl
theorem ff_put (vh vg vt : V) (n : Addr) (x : Str) : putF "_text" (.str x) (putF "_names" (.ref n) (putF "_tables" vt (putF "_guests" vg (putF "_hosts" vh [])))) = ff vh vg vt n x := by
  have e : ∀ (f : Str) (y : V), putF f y [] = [(f, y)] := fun _ _ => rfl
  have n1 : ¬ (("_hosts" : Str) = "_guests") := by decide +kernel
  have n2 : ¬ (("_hosts" : Str) = "_tables") := by decide +kernel
  have n3 : ¬ (("_hosts" : Str) = "_names") := by decide +kernel
  have n4 : ¬ (("_hosts" : Str) = "_text") := by decide +kernel
  have n5 : ¬ (("_guests" : Str) = "_tables") := by decide +kernel
  have n6 : ¬ (("_guests" : Str) = "_names") := by decide +kernel
  have n7 : ¬ (("_guests" : Str) = "_text") := by decide +kernel
  have n8 : ¬ (("_tables" : Str) = "_names") := by decide +kernel
  have n9 : ¬ (("_tables" : Str) = "_text") := by decide +kernel
  have n0 : ¬ (("_names" : Str) = "_text") := by decide +kernel
  simp only [e, putF_cons, if_neg n1, if_neg n2, if_neg n3, if_neg n4, if_neg n5, if_neg n6, if_neg n7, if_neg n8, if_neg n9, if_neg n0]
  rfl
theorem Tk.ins {H H' : Hp} {p C dx : Addr} {fs : List (Str × V)} (s : But p H H') (hp : H p = some (.ins C dx fs)) : Tk H H' := fun a xs h => by
  have n : a ≠ p := fun e => by
    subst e
    rcases h with h | ⟨o, h⟩
    · rw [hp] at h; cases h
    · rw [hp] at h; cases h
  rcases h with h | ⟨o, h⟩
  · exact .inl (s _ _ n h)
  · exact .inr ⟨o, s _ _ n h⟩
theorem putF_len (f : Str) (v : V) : ∀ fs : List (Str × V), (putF f v fs).length ≤ fs.length + 1
  | [] => Nat.le_refl _
  | (g, x) :: r => by
    rw [putF_cons]
    split
    · exact Nat.le_succ _
    · have := putF_len f v r
      rw [List.length_cons, List.length_cons]
      omega
theorem But.same {p : Addr} {H H' : Hp} (s : Same H H') : But p H H' := fun b o _ h => s b o h
section
variable {P : Program} {w : World} {K : PySem.W.Frag} {mg : Str → Option Value} {base : Heap}
abbrev s_init : Stmt := inClass (top 25) 0
theorem sc_init : FnScope ["self", "hosts", "guests", "tables", "fault"] ["self", "hosts", "guests", "tables"] (defScope s_init) := ⟨rfl, rfl, rfl, by decide +kernel, rfl, by decide +kernel, by decide +kernel⟩
def namesV (hs gs : Side) : List V := ((hs ++ gs).map (·.1)).map V.str
/-- a right fair is made -/
def sp_init (K : PySem.W.Frag) (C : Addr) : Sp := fun vs H Q _ => ∃ (p dx : Addr) (vh vg : V) (hs gs : Side) (t : Option Int), vs = [.ref p, vh, vg, deskV t] ∧ H p = some (.ins C dx []) ∧ Im K H vh (sideD hs) ∧ Im K H vg (sideD gs) ∧ Fairish hs gs t ∧
  ∀ (n : Addr) (H' : Hp), But p H H' → H' p = some (.ins C dx (ff vh vg (deskV t) n (textT hs gs t))) → SqT K H' n (namesV hs gs) → Q .non H'
structure TxIn (K : PySem.W.Frag) (mg : Str → Option Value) (C f_fault f_names_of f_is_integer f_text_of : Addr) : Prop where
  cl : Cls K C
  nH : NoAttr K C "_hosts"
  nG : NoAttr K C "_guests"
  nT : NoAttr K C "_tables"
  nN : NoAttr K C "_names"
  nX : NoAttr K C "_text"
  g_MOST_TABLES : ∃ t, mg "MOST_TABLES" = some (.int 12 t)
  g_fault : mg "_fault" = some (.ref f_fault)
  k_fault : PySem.W.keepIn K (.ref f_fault) = true
  g_names_of : mg "_names_of" = some (.ref f_names_of)
  k_names_of : PySem.W.keepIn K (.ref f_names_of) = true
  g_is_integer : mg "is_integer" = some (.ref f_is_integer)
  k_is_integer : PySem.W.keepIn K (.ref f_is_integer) = true
  g_text_of : mg "_text_of" = some (.ref f_text_of)
  k_text_of : PySem.W.keepIn K (.ref f_text_of) = true
theorem ok_init {C f f_fault f_names_of f_is_integer f_text_of : Addr} {fd fd_fault fd_names_of fd_is_integer fd_text_of : FuncData} {dvs : List V}
    (F : FunD K "__init__" "Fair.__init__" (defArgs s_init) (defBody s_init) (defScope s_init) dvs [] f fd) (T : TxIn K mg C f_fault f_names_of f_is_integer f_text_of)
    (G_fault : FnOk P w K mg base CX0 3 f_fault fd_fault ["side", "taken"] (sp_fault K)) (b_fault : Binds K fd_fault ["side", "taken"] [])
    (G_names_of1 : FnOk P w K mg base CX0 1 f_names_of fd_names_of ["side"] (sp_names_of K)) (b_names_of : Binds K fd_names_of ["side"] [])
    (G_is_integer1 : FnOk P w K mg base CX0 1 f_is_integer fd_is_integer ["value", "least", "most"] sp_is_integer) (b_is_integer : Binds K fd_is_integer ["value", "least", "most"] [])
    (G_text_of1 : FnOk P w K mg base CX0 1 f_text_of fd_text_of ["hosts", "guests", "tables"] (sp_text_of K)) (b_text_of : Binds K fd_text_of ["hosts", "guests", "tables"] []) :
    FnOk P w K mg base CX0 4 f fd ["self", "hosts", "guests", "tables"] (sp_init K C) := by
  obtain ⟨t1, g1⟩ := T.g_MOST_TABLES
  have G_names_of := G_names_of1.mono (show 1 ≤ 3 by decide)
  have G_is_integer := G_is_integer1.mono (show 1 ≤ 3 by decide)
  have G_text_of := G_text_of1.mono (show 1 ≤ 3 by decide)
  refine F.ok sc_init (fun vs H Q E h => ?_) (fun cdv A outer s H vs Q E hr h => ?_)
  · obtain ⟨p, dx, vh, vg, hs, gs, t, rfl, _⟩ := h
    rfl
  · obtain ⟨p, dx, vh, vg, hs, gs, t, rfl, hp, ih, ig, fa, k⟩ := h
    refine ⟨_, (pss_cons (ps_set (i := 4) sc_init.nd rfl (Or.inl rfl) (pe_call G_fault hr rfl T.g_fault T.k_fault b_fault .nil pass0 (pa_cons (pv 1) (pa_cons (pe_tup pa_nil) pa_nil))))
      (pss_cons (ps_if (pt_truth (pv 4) (by intro _; rfl))
        (pss_one ps_never)
        pss_nil)
      (pss_cons (ps_set (i := 4) sc_init.nd rfl (Or.inl rfl) (pe_call G_fault hr rfl T.g_fault T.k_fault b_fault .nil pass0 (pa_cons (pv 2) (pa_cons (pe_call G_names_of hr rfl T.g_names_of T.k_names_of b_names_of .nil pass0 (pa_cons (pv 1) pa_nil)) pa_nil))))
      (pss_cons (ps_if (pt_truth (pv 4) (by intro _; rfl))
        (pss_one ps_never)
        pss_nil)
      (pss_cons (ps_if (PW.pt (pw_and (pt_cmpR op_notN (pv 3) pe_non (nomark _)) (pw_and1 (pt_not (pt_val (pe_call G_is_integer hr rfl T.g_is_integer T.k_is_integer b_is_integer .nil pass0 (pa_cons (pv 3) (pa_cons pe_int (pa_cons (pe_glob (v := .int 12) rfl g1 ⟨_, rfl⟩) pa_nil)))))))))
        (pss_one ps_never)
        pss_nil)
      (pss_cons (ps_fld (pv 0) (pv 1) rfl)
      (pss_cons (ps_fld (pv 0) (pv 2) rfl)
      (pss_cons (ps_fld (pv 0) (pv 3) rfl)
      (pss_cons (ps_fld (pv 0) (pe_op op_catT (pe_call G_names_of hr rfl T.g_names_of T.k_names_of b_names_of .nil pass0 (pa_cons (pv 1) pa_nil)) (pe_call G_names_of hr rfl T.g_names_of T.k_names_of b_names_of .nil pass0 (pa_cons (pv 2) pa_nil))) rfl)
      (pss_one (ps_fld (pv 0) (pe_call G_text_of hr rfl T.g_text_of T.k_text_of b_text_of .nil pass0 (pa_cons (pv 1) (pa_cons (pv 2) (pa_cons (pv 3) pa_nil)))) rfl))))))))))), ?_⟩
    have eN := List.nodup_append.mp (show (hs.map (·.1) ++ gs.map (·.1)).Nodup by rw [← List.map_append]; exact fa.nd)
    -- fault = _fault(hosts, ())
    refine ⟨_, rfl, Nat.zero_le _, fun e0 n0 => ⟨vh, e0, hs, [], rfl, ih.to (Tk.same (same_new (Same.refl H) n0)) _ _, SqT.of upd_same, fa.h1, fa.h4, by decide, eN.1, (fun z hz => fa.nm z (List.mem_append_left _ hz)), (fun z hz => fa.bd z (List.mem_append_left _ hz)), fun q1 H1 s1' hq1 => ?_⟩⟩
    have s1 : Same H H1 := (same_new (Same.refl H) n0).trans s1'
    refine nxt ?_
    dsimp only
    refine seq_ifN (b := false) (fun Q' q' => ⟨_, rfl, _, tru_tup (SqT.of hq1), q'⟩) (fun c => by cases c) (fun _ => ?_)
    -- fault = _fault(guests, _names_of(hosts))
    refine ⟨_, rfl, _, rfl, vh, hs, rfl, ih.to (Tk.same s1) _ _, Nat.le_trans fa.h4 (by decide), fun n1 H2 s2' _ hn1 => ?_⟩
    have s2 := s1.trans s2'
    refine ⟨vg, n1, gs, hs.map (·.1), rfl, ig.to (Tk.same s2) _ _, SqT.of (by rw [List.map_map]; exact hn1), fa.g1, fa.g4, (by rw [List.length_map]; have := fa.h4; omega), (by rw [← List.map_append]; exact fa.nd), (fun z hz => fa.nm z (List.mem_append_right _ hz)), (fun z hz => fa.bd z (List.mem_append_right _ hz)), fun q2 H3 s3' hq2 => ?_⟩
    have s3 := s2.trans s3'
    refine nxt ?_
    dsimp only
    refine seq_ifN (b := false) (fun Q' q' => ⟨_, rfl, _, tru_tup (SqT.of hq2), q'⟩) (fun c => by cases c) (fun _ => ?_)
    -- if tables is not None and not is_integer(tables, 1, MOST_TABLES)
    refine seq_ifN (b := false) (fun Q' q' => ?_) (fun c => by cases c) (fun _ => ?_)
    · refine ⟨_, rfl, rfl, _, rfl, ?_⟩
      cases t with
      | none => exact if_false_of (by simp [deskV]) q'
      | some n =>
        obtain ⟨b1, b2⟩ := fa.tb n rfl
        refine if_true_of (by simp [deskV]) ?_
        refine ⟨_, rfl, n, 1, 12, rfl, _, rfl, ?_⟩
        rw [decide_eq_true b1, decide_eq_true b2]
        exact q'
    -- the attributes
    have hp3 := s3 _ _ hp
    refine ⟨_, rfl, _, rfl, p, C, dx, [], rfl, hp3, T.cl, T.nH, (by show 0 < 1000; decide), ?_⟩
    refine ⟨_, rfl, _, rfl, p, C, dx, _, rfl, upd_same, T.cl, T.nG, (by show 1 < 1000; decide), ?_⟩
    have l1 := putF_len "_hosts" vh []
    have l2 := putF_len "_guests" vg (putF "_hosts" vh [])
    have l3 := putF_len "_tables" (deskV t) (putF "_guests" vg (putF "_hosts" vh []))
    rw [List.length_nil] at l1
    refine ⟨_, rfl, _, rfl, p, C, dx, _, rfl, upd_same, T.cl, T.nT, (by omega), ?_⟩
    have b4 : But p H (upd (upd (upd H3 p (.ins C dx (putF "_hosts" vh []))) p (.ins C dx (putF "_guests" vg (putF "_hosts" vh [])))) p (.ins C dx (putF "_tables" (deskV t) (putF "_guests" vg (putF "_hosts" vh []))))) := (((But.same s3).own).own).own
    have h4 : (upd (upd (upd H3 p (.ins C dx (putF "_hosts" vh []))) p (.ins C dx (putF "_guests" vg (putF "_hosts" vh [])))) p (.ins C dx (putF "_tables" (deskV t) (putF "_guests" vg (putF "_hosts" vh []))))) p = some (.ins C dx (putF "_tables" (deskV t) (putF "_guests" vg (putF "_hosts" vh [])))) := upd_same
    generalize hF3 : putF "_tables" (deskV t) (putF "_guests" vg (putF "_hosts" vh [])) = F3 at b4 h4 l3 ⊢
    generalize hH4 : (upd (upd (upd H3 p (.ins C dx (putF "_hosts" vh []))) p (.ins C dx (putF "_guests" vg (putF "_hosts" vh [])))) p (.ins C dx F3)) = H4 at b4 h4 ⊢
    have k4 := Tk.ins b4 hp
    refine ⟨_, rfl, vh, hs, rfl, ih.to k4 _ _, Nat.le_trans fa.h4 (by decide), fun m1 H5 s5 _ hm1 => ?_⟩
    refine ⟨_, rfl, vg, gs, rfl, ig.to (k4.trans (Tk.same s5)) _ _, Nat.le_trans fa.g4 (by decide), fun m2 H6 s6 _ hm2 => ?_⟩
    have ne1 : (hs.map fun z => V.str z.1) ≠ [] := by
      intro e
      have := congrArg List.length e
      rw [List.length_map] at this
      have := fa.h1
      simp_all
    have ne2 : (gs.map fun z => V.str z.1) ≠ [] := by
      intro e
      have := congrArg List.length e
      rw [List.length_map] at this
      have := fa.g1
      simp_all
    refine ⟨m1, m2, _, _, rfl, rfl, SqT.of (s6 _ _ hm1), SqT.of hm2, ne1, ?_, (fun e => absurd e ne2), (fun _ m3 n3 => ?_)⟩
    · rw [List.length_map, List.length_map]
      exact Nat.le_trans (show _ ≤ 8 by have := fa.h4; have := fa.g4; omega) (by decide)
    have s7 : Same H4 (upd H6 m3 (.tup ((hs.map fun z => V.str z.1) ++ (gs.map fun z => V.str z.1)))) := same_new (s5.trans s6) n3
    have h7 := s7 _ _ h4
    have nmp : m3 ≠ p := fun e => by
      have := (s5.trans s6) _ _ h4
      rw [← e, n3] at this
      cases this
    refine ⟨_, rfl, p, C, dx, F3, rfl, h7, T.cl, T.nN, (by omega), ?_⟩
    have b8 : But p H (upd (upd H6 m3 (.tup ((hs.map fun z => V.str z.1) ++ (gs.map fun z => V.str z.1)))) p (.ins C dx (putF "_names" (.ref m3) F3))) := (b4.trans (But.same s7)).own
    have h8 : (upd (upd H6 m3 (.tup ((hs.map fun z => V.str z.1) ++ (gs.map fun z => V.str z.1)))) p (.ins C dx (putF "_names" (.ref m3) F3))) p = some (.ins C dx (putF "_names" (.ref m3) F3)) := upd_same
    have h8m : (upd (upd H6 m3 (.tup ((hs.map fun z => V.str z.1) ++ (gs.map fun z => V.str z.1)))) p (.ins C dx (putF "_names" (.ref m3) F3))) m3 = some (.tup ((hs.map fun z => V.str z.1) ++ (gs.map fun z => V.str z.1))) := (upd_ne nmp).trans upd_same
    have l4 := putF_len "_names" (.ref m3) F3
    have k8 := Tk.ins b8 hp
    refine ⟨_, rfl, _, rfl, _, rfl, vh, vg, hs, gs, t, rfl, ih.to k8 _ _, ig.to k8 _ _, fa.short, fun H9 s9 => ?_⟩
    refine ⟨_, rfl, p, C, dx, _, rfl, s9 _ _ h8, T.cl, T.nX, (by omega), ?_⟩
    refine k m3 _ ((b8.trans (But.same s9)).own) ?_ (SqT.of ?_)
    · rw [upd_same, ← hF3, ff_put]
    · rw [upd_ne nmp]
      unfold namesV
      rw [s9 _ _ h8m, List.map_map, List.map_append] <;> rfl
end
end F02
namespace SP
open PySem PySem.W PySem.Calls PyProof.Rows Builtin
section
variable {prog : Program} {w : World} {A : Around} {E : Value → Shared → Prop} {s : Shared} {K : Frag} {x C L f : Addr} {h₀ : Heap} {m : Str → Option Value} {ox : Obj} {od : Option Obj} {b tb : Value}
/-- a special method that is a built-in slot, tried by a comparison -/
theorem ifBound_slot {M : Model} {name : Str} {id : String} {args : List Value} {Q : Option Value → Shared → Prop} (X : K.In s.heap) (I : InstAt s.heap x ox C od)
    (hs : findIn K (.ref C) name = some (some (.builtin id))) (hb : ∀ self, bindSpecial (.builtin id) self = pure (.builtin id, [self]))
    (h : wpAny M A (call (.builtin id) (.ref x :: args)) (fun v => Q (some v)) E s) : wpAny M A (callSpecialIfBound? (.ref x) name args) Q E s := by
  simp only [callSpecialIfBound?, bindSpecialIfBound?]
  refine wpAny_holding (wpAny_bind (wpAny_bind (wpAny_bind (I.type.here ((looks_findIn X hs).here ?_)))))
  refine wpAny_bind (wpAny_askSetting (wpAny_ite ?_))
  have fin : wpAny M A (call (.builtin id) ([.ref x] ++ args) >>= fun v => pure (some v)) Q E s :=
    wpAny_bind (wpAny_mono h (fun v s' h' => wpAny_pure h') (fun _ _ h' => h'))
  split
  · exact wpAny_bind ((Looks.of_pure (hb _)).here (wpAny_pure (by exact fin)))
  · exact wpAny_tryCatch (wpAny_bind ((Looks.of_pure (hb _)).here (wpAny_pure (by exact fin))))
/-- object.__ne__ where the class has its own __eq__ -/
theorem obj_ne {Q : Value → Shared → Prop} (hu : A.in1.units < cLine) (X : K.In s.heap) (I : InstAt s.heap x ox C od) (hm : mroIn K C (.type "object") = some true)
    (he : findIn K (.ref C) "__eq__" = some (some (.ref f))) (hf : isFn K (.ref f) = true)
    (h : wpAny (model prog w) A.in1 (call (.ref f) [.ref x, b]) (fun v s' => ∃ c, v = .bool c ∧ Q (.bool (!c)) s') E s) :
    wpAny (model prog w) A (call (.builtin "object.__ne__") [.ref x, b]) Q E s := by
  refine wpAny_call (codeAny_call_builtin PySem.F.cmp_object.ne.plain PySem.F.cmpEntry_ne
    (check_slot (i := "object.__ne__") (owner := "object") (n := "__ne__") PySem.F.cmpKind_ne PySem.F.cmpSplit_ne (I.type.andThen (looks_mroIn X hm)) (PySem.F.cmpArgs_ne _ _) ?_))
  unfold Builtin.«object.__ne__»
  refine wpAny_bind (m := slotArgs "__ne__" 1 _) (wpAny_pure ?_)
  refine wpAny_bind (m := cRoomFor _ _) (wpAny_cRoomFor hu ?_)
  refine wpAny_bind (m := callSpecialIfBound? (.ref x) (Str.ofString "__eq__") _) (ifBound_K X I he hf (wpAny_mono h (fun r s' hq => ?_) (fun _ _ y => y)))
  obtain ⟨c, rfl, q⟩ := hq
  exact wpAny_bind (m := truthy (.bool c)) (wpAny_truthy_bool (wpAny_pure q))
theorem rich_ne {Q : Value → Shared → Prop} (hu : A.in1.units < cLine) (F : Fr h₀ L s.heap m) (X₀ : K.In h₀) (I : InstAt s.heap x ox C od) (hb : Looks (model prog w) s.heap (typeOf b) tb)
    (hn : notFirst K C tb = true) (hm : mroIn K C (.type "object") = some true) (hne : findIn K (.ref C) "__ne__" = some (some (.builtin "object.__ne__")))
    (he : findIn K (.ref C) "__eq__" = some (some (.ref f))) (hf : isFn K (.ref f) = true)
    (h : wpAny (model prog w) A.in1 (call (.ref f) [.ref x, b]) (fun v s' => ∃ c, v = .bool c ∧ Q (.bool (!c)) s') E s) :
    wpAny (model prog w) A (richCompare .NotEq (.ref x) b) Q E s := by
  have X := X₀.keeps F.keep
  have hu0 : A.units < cLine := Nat.lt_of_succ_lt hu
  have one : wpAny (model prog w) A (tryCompare (.ref x) (cmpInfo .NotEq).2.1 b) (fun r s' => ∃ v, r = some v ∧ Q v s') E s := by
    unfold tryCompare
    refine wpAny_bind (ifBound_slot X I hne PySem.F.cmp_object.ne.bind (obj_ne hu X I hm he hf (wpAny_mono h (fun v s' hv => ?_) (fun _ _ e => e))))
    obtain ⟨c, rfl, q⟩ := hv
    exact ⟨c, rfl, wpAny_pure ⟨_, rfl, q⟩⟩
  unfold richCompare
  simp only [oneThing_ref]
  refine wpAny_holding (wpAny_bind (wpAny_cRoomFor hu0 ?_))
  refine wpAny_bind (I.type.here (wpAny_bind (hb.here ?_)))
  split
  · rename_i q
    have e : subIn K tb (.ref C) = some false := by
      rcases Bool.or_eq_true_iff.mp hn with e | e
      · rw [beq_iff_eq.mp e] at q; simp at q
      · exact beq_iff_eq.mp e
    refine wpAny_bind ((looks_subIn X e).here ?_)
    simp only [Bool.false_eq_true, if_false]
    refine wpAny_bind (wpAny_mono one (fun r s' z => ?_) (fun _ _ e => e))
    obtain ⟨v, rfl, hq⟩ := z
    exact wpAny_pure hq
  · refine wpAny_bind (wpAny_pure ?_)
    simp only [Bool.false_eq_true, if_false]
    refine wpAny_bind (wpAny_mono one (fun r s' z => ?_) (fun _ _ e => e))
    obtain ⟨v, rfl, hq⟩ := z
    exact wpAny_pure hq
/-- the truth of an instance by its own __len__ -/
theorem truth_len {Q : Bool → Shared → Prop} (F : Fr h₀ L s.heap m) (X₀ : K.In h₀) (I : InstAt s.heap x ox C od) (hb : findIn K (.ref C) "__bool__" = some none)
    (hs : findIn K (.ref C) "__len__" = some (some (.ref f))) (hf : isFn K (.ref f) = true)
    (h : wpAny (model prog w) A.in1 (call (.ref f) [.ref x]) (PySem.W.LenBack fun v s' => ∃ n t, v = .int n t ∧ Q (n != 0) s') E s) : wpAny (model prog w) A (truthy (.ref x)) Q E s := by
  have X := X₀.keeps F.keep
  have key : wpAny (model prog w) A (runValue (.builtin "len" ⟨[.ref x], []⟩)) (fun v s' => ∃ n t, v = .int n t ∧ Q (n != 0) s') E s := by
    refine wpAny_runValue (codeAny_builtin entry_len ?_)
    rw [Around.under_plainId plain_len _]
    refine wpAny_mono (Q := fun fin s' => ∃ r, fin = .done (.ret r) ∧ ∃ n t, r = .int n t ∧ Q (n != 0) s') ?_ (fun fin s' h' => by obtain ⟨r, rfl, hq⟩ := h'; exact hq) (fun _ _ e => e)
    unfold Builtin.«len»
    refine wpAny_bind (m := oneArg "len" _) (wpAny_pure ?_)
    refine wpAny_bind (m := callSpecial? (.ref x) (Str.ofString "__len__")) (special_fn X I hs (beq_iff_eq.mp hf) (wpAny_mono h (fun r s' hr => ?_) (fun _ _ y => y)))
    cases r <;> first | exact hr.elim | skip
    rename_i n u
    obtain ⟨⟨h0, h1⟩, n', t', e, hq⟩ := hr
    cases e
    refine wpAny_bind (wpAny_holding (wpAny_pure ?_))
    refine wpAny_bind (wpAny_letGo ?_)
    show wpAny _ _ (if n < 0 then _ else _) _ _ _
    rw [if_neg (by omega)]
    show wpAny _ _ (if n ≥ 2 ^ 63 then _ else _) _ _ _
    rw [if_neg (by omega)]
    exact wpAny_bind (wpAny_mkInt (wpAny_pure ⟨_, rfl, _, _, rfl, hq⟩))
  have hsp : ∀ {Q' : Option Value → Shared → Prop}, Q' (some (.ref f)) s → wpAny (model prog w) A (specialOf (.ref x) "__len__") Q' E s := fun q => by
    unfold specialOf
    exact wpAny_bind (I.type.here ((looks_findIn X hs).here q))
  unfold truthy
  first
    | refine wpAny_bind (DSub.special_no (name := Str.ofString "__bool__") X I hb ?_)
    | refine wpAny_bind (wpAny_pure (wpAny_bind (DSub.special_no (name := Str.ofString "__bool__") X I hb ?_)))
  first
    | refine wpAny_bind (hsp ?_)
    | refine wpAny_bind (wpAny_pure (wpAny_bind (hsp ?_)))
  first
    | exact wpAny_bind (wpAny_mono key (fun r s' h' => by obtain ⟨n, t, rfl, hq⟩ := h'; exact wpAny_pure hq) fun _ _ e => e)
    | exact wpAny_bind (wpAny_pure (wpAny_bind (wpAny_mono key (fun r s' h' => by obtain ⟨n, t, rfl, hq⟩ := h'; exact wpAny_pure hq) fun _ _ e => e)))

/-- bool(x), x an instance (or anything) whose truth is known -/
theorem call_bool {v : Value} {Q : Value → Shared → Prop} (h : wpAny (model prog w) A.in1.in1 (truthy v) (fun r s' => Q (.bool r) s') E s) :
    wpAny (model prog w) A (call (.type "bool") [v]) Q E s := by
  refine callType_codes (T := "bool") (Bi := Builtin.«object.__init__») (Q₁ := fun r s₁ => ∃ c, r = .bool c ∧ Q r s₁) PySem.F.called_bool (PySem.F.typeCall_bool_1 _) PySem.F.entry_object_init ?_ ?_
  · refine codeAny_of_tree ?_
    show wpAny _ A.in1.in1 (do checkBuiltinCall "bool.__new__" ⟨[.type "bool", v], []⟩; again (.builtin "bool.__new__" ⟨[.type "bool", v], []⟩)) _ _ s
    refine wpAny_bind (wpAny_of_eq (PySem.F.newCall_bool_1 _) (wpAny_pure ⟨plainId_quiet (by decide +kernel) _, codeAny_builtin PySem.F.entry_bool_new ?_⟩))
    rw [Around.under_plainId (by decide +kernel) _]
    unfold Builtin.«bool.__new__»
    have f1 := PySem.F.conv_sub_bool
    have key : wpAny (model prog w) A.in1.in1 (truthy v) (fun r s' => ∃ c, Value.bool r = .bool c ∧ Q (.bool r) s') E s := wpAny_mono h (fun r s' q => ⟨r, rfl, q⟩) (fun _ _ e => e)
    repeat (any_goals (first | assumption | (with_reducible refine wpAny_bind (m := truthy v) (wpAny_mono h (fun r s' q => ?_) (fun _ _ e => e))) | wp_step))
    all_goals first | exact ⟨_, rfl, _, rfl, q⟩ | exact ⟨_, rfl, q⟩ | exact ⟨_, rfl, by assumption⟩ | skip
  · rintro obj s₁ ⟨c, rfl, hq⟩
    exact ⟨PySem.typeIs_bool _ _, PySem.F.args_object_init_2 _ _, object_init_meets PySem.F.called_bool.init.lookup PySem.F.called_bool.made (by decide) prog w A.in1 _ s₁ ⟨PySem.typeIs_bool _ _, rfl, hq⟩⟩
end
end SP
namespace SP
open PySem PySem.Spec PyProof.Rows L2
section
variable {X : Cx} {CX : CXT} {k : Nat} {C f : Addr} {fd : FuncData} {ps : List Str} {sp : Sp} {E : XK}
/-- an own def called somewhere below the running body -/
theorem run_at {A' : Around} {pins : List (Addr × Obj)} {σ : L2.St} {H : Hp} {s : Shared} {Q : VK} {us : List Value} {vs : List V}
    (F : FnOk X.prog X.w X.K X.mg X.base CX k f fd ps sp) (hr : Room k A') (hfr : A'.frames = X.A.frames) (hb : Binds X.K fd ps []) (hx : Passes CX X E)
    (I : Inv X pins σ H s) (r : Vals vs us) (h : sp vs H Q E) : wpAny (model X.prog X.w) A' (call (.ref f) us) (EP X pins σ Q) X.xe s := by
  have e := I.env0
  have e0 : Env0 X.prog X.w X.K X.mg X.base A' X.stack s H := ⟨by rw [hfr]; exact e.frames, e.mod, e.bs, e.bsz, e.funs, e.frf, e.hok, e.bare⟩
  have hl := F.len _ _ _ _ h
  have hb' := hb s us I.kIn (by rw [List.append_nil, ← r.length]; exact hl)
  rw [List.append_nil] at hb'
  refine wpAny_call (codeAny_mono (F.run A' X.stack s H ⟨us, []⟩ us vs Q E hr e0 hb' r h) (fun res s' hq => ?_))
  match res, hq with
  | .error e, hq => exact hx pins σ H s e s' I hq
  | .ok (.ret u), hq => exact I.after hq
def rLenOwn (C : Addr) (sp : Sp) (E : XK) : List V → Hp → VK → Prop := fun xs H Q => ∃ a dx fs, xs = [.ref a] ∧ H a = some (.ins C dx fs) ∧ sp [.ref a] H (fun z H' => ∃ n : Int, z = .int n ∧ 0 ≤ n ∧ n < 2 ^ 63 ∧ Q (.int n) H') E
theorem call_lenOwn (F : FnOk X.prog X.w X.K X.mg X.base CX k f fd ps sp) (hr : Room (k + 1) X.A) (hb : Binds X.K fd ps []) (hx : Passes CX X E)
    (hs : PySem.W.findIn X.K (.ref C) "__len__" = some (some (.ref f))) (hf : PySem.W.isFn X.K (.ref f) = true) : CallR X (.builtin "len") (rLenOwn C sp E) := by
  intro pins s σ H xs us Q I r h
  obtain ⟨a, dx, fs, rfl, ha, h⟩ := h
  obtain rfl := Vals.ref1 r
  obtain ⟨mA, J, _⟩ := ins_get I.hok ha
  obtain ⟨od, J, _⟩ := J.look
  obtain ⟨m, hF⟩ := I.fr
  refine PySem.W.len_K hF I.ok.mod.kin J hs hf (wpAny_mono (run_at F hr.in1 rfl hb hx I (vs := [.ref a]) (us := [Value.ref a]) (.cons rfl .nil) h) (fun v s' hv => ?_) (fun _ _ e => e))
  obtain ⟨z, H', I', rz, n, rfl, h0, h1, q⟩ := hv
  obtain ⟨t, rfl⟩ := rz
  exact ⟨⟨h0, h1⟩, .int n, H', I'.tok _, ⟨_, rfl⟩, q⟩
def rBoolOwn (C : Addr) (sp : Sp) (E : XK) : List V → Hp → VK → Prop := fun xs H Q => ∃ a dx fs, xs = [.ref a] ∧ H a = some (.ins C dx fs) ∧ sp [.ref a] H (fun z H' => ∃ n : Int, z = .int n ∧ 0 ≤ n ∧ n < 2 ^ 63 ∧ Q (.bl (n != 0)) H') E
theorem call_boolOwn (F : FnOk X.prog X.w X.K X.mg X.base CX k f fd ps sp) (hr : Room (k + 3) X.A) (hb : Binds X.K fd ps []) (hx : Passes CX X E)
    (hn : PySem.W.findIn X.K (.ref C) "__bool__" = some none) (hs : PySem.W.findIn X.K (.ref C) "__len__" = some (some (.ref f))) (hf : PySem.W.isFn X.K (.ref f) = true) : CallR X (.type "bool") (rBoolOwn C sp E) := by
  intro pins s σ H xs us Q I r h
  obtain ⟨a, dx, fs, rfl, ha, h⟩ := h
  obtain rfl := Vals.ref1 r
  obtain ⟨mA, J, _⟩ := ins_get I.hok ha
  obtain ⟨od, J, _⟩ := J.look
  obtain ⟨m, hF⟩ := I.fr
  refine call_bool (truth_len hF I.ok.mod.kin J hn hs hf (wpAny_mono (run_at F hr.in1.in1.in1 rfl hb hx I (vs := [.ref a]) (us := [Value.ref a]) (.cons rfl .nil) h) (fun v s' hv => ?_) (fun _ _ e => e)))
  obtain ⟨z, H', I', rz, n, rfl, h0, h1, q⟩ := hv
  obtain ⟨t, rfl⟩ := rz
  exact ⟨⟨h0, h1⟩, n, _, rfl, .bl (n != 0), H', I'.tok _, rfl, q⟩
def rStrOwn (C : Addr) (sp : Sp) (E : XK) : List V → Hp → VK → Prop := fun xs H Q => ∃ a dx fs, xs = [.ref a] ∧ H a = some (.ins C dx fs) ∧ sp [.ref a] H (fun z H' => ∃ x : Str, z = .str x ∧ Q (.str x) H') E
theorem call_strOwn (F : FnOk X.prog X.w X.K X.mg X.base CX k f fd ps sp) (hr : Room (k + 2) X.A) (hb : Binds X.K fd ps []) (hx : Passes CX X E)
    (hs : PySem.W.findIn X.K (.ref C) "__str__" = some (some (.ref f))) (hf : PySem.W.isFn X.K (.ref f) = true) : CallR X (.type "str") (rStrOwn C sp E) := by
  intro pins s σ H xs us Q I r h
  obtain ⟨a, dx, fs, rfl, ha, h⟩ := h
  obtain rfl := Vals.ref1 r
  obtain ⟨mA, J, _⟩ := ins_get I.hok ha
  obtain ⟨od, J, _⟩ := J.look
  refine PySem.W.kso_call hr.in1.in1.units0 I.kIn J hs hf (wpAny_mono (run_at F hr.in1.in1 rfl hb hx I (vs := [.ref a]) (us := [Value.ref a]) (.cons rfl .nil) h) (fun v s' hv => ?_) (fun _ _ e => e))
  obtain ⟨z, H', I', rz, x, rfl, q⟩ := hv
  obtain ⟨t, rfl⟩ := rz
  exact ⟨.str x, H', I', ⟨_, rfl⟩, q⟩
def rInOwn (C : Addr) (sp : Sp) (E : XK) : R2 := fun x y H Q => ∃ a dx fs, y = .ref a ∧ H a = some (.ins C dx fs) ∧ sp [.ref a, x] H (fun z H' => ∃ c : Bool, z = .bl c ∧ Q (.bl c) H') E
theorem op_inOwn (F : FnOk X.prog X.w X.K X.mg X.base CX k f fd ps sp) (hr : Room k X.A) (hb : Binds X.K fd ps []) (hx : Passes CX X E)
    (hs : PySem.W.findIn X.K (.ref C) "__contains__" = some (some (.ref f))) (hf : PySem.W.isFn X.K (.ref f) = true) : OpR X (compareOp .In) (rInOwn C sp E) := by
  intro pins s σ H x y v u Q I rx ry h
  obtain ⟨a, dx, fs, rfl, ha, h⟩ := h
  cases (show u = Value.ref a from ry)
  obtain ⟨mA, J, _⟩ := ins_get I.hok ha
  obtain ⟨od, J, _⟩ := J.look
  obtain ⟨m, hF⟩ := I.fr
  refine PySem.W.in_K hF I.ok.mod.kin J hs hf (wpAny_mono (run_at F hr rfl hb hx I (vs := [.ref a, x]) (us := [Value.ref a, v]) (.cons rfl (.cons rx .nil)) h) (fun w s' hv => ?_) (fun _ _ e => e))
  obtain ⟨z, H', I', rz, c, rfl, q⟩ := hv
  cases (show w = Value.bool c from rz)
  exact wpAny_truthy_bool ⟨.bl c, H', I', rfl, q⟩
def rEqOwn (K : PySem.W.Frag) (C : Addr) (sp : Sp) (E : XK) (neg : Bool) : R2 := fun x y H Q => ∃ a dx fs t, x = .ref a ∧ H a = some (.ins C dx fs) ∧ TyX K H y t ∧ PySem.W.notFirst K C t = true ∧ sp [.ref a, y] H (fun z H' => ∃ c : Bool, z = .bl c ∧ Q (.bl (if neg then !c else c)) H') E
theorem op_eqOwn (F : FnOk X.prog X.w X.K X.mg X.base CX k f fd ps sp) (hr : Room k X.A) (hb : Binds X.K fd ps []) (hx : Passes CX X E)
    (hs : PySem.W.findIn X.K (.ref C) "__eq__" = some (some (.ref f))) (hf : PySem.W.isFn X.K (.ref f) = true) : OpR X (compareOp .Eq) (rEqOwn X.K C sp E false) := by
  intro pins s σ H x y v u Q I rx ry h
  obtain ⟨a, dx, fs, t, rfl, ha, ty, hn, h⟩ := h
  cases (show v = Value.ref a from rx)
  obtain ⟨mA, J, _⟩ := ins_get I.hok ha
  obtain ⟨od, J, _⟩ := J.look
  obtain ⟨m, hF⟩ := I.fr
  obtain ⟨Pt, Z, p, _⟩ := kit_of I ry ty
  show wpAny (model X.prog X.w) X.A (richCompare .Eq (.ref a) u) (EP X pins σ Q) X.xe s
  refine PySem.W.cmp_K (op := .Eq) hr.units0 hF I.ok.mod.kin J (Z.ty _ _ I.kIn p) hn hs hf (wpAny_mono (run_at F hr rfl hb hx I (vs := [.ref a, y]) (us := [Value.ref a, u]) (.cons rfl (.cons ry .nil)) h) (fun w s' hv => ?_) (fun _ _ e => e))
  obtain ⟨z, H', I', rz, c, rfl, q⟩ := hv
  cases (show w = Value.bool c from rz)
  exact ⟨.bl c, H', I', rfl, q⟩
theorem op_neOwn (F : FnOk X.prog X.w X.K X.mg X.base CX k f fd ps sp) (hr : Room (k + 1) X.A) (hb : Binds X.K fd ps []) (hx : Passes CX X E)
    (hne : PySem.W.findIn X.K (.ref C) "__ne__" = some (some (.builtin "object.__ne__"))) (hm : PySem.W.mroIn X.K C (.type "object") = some true)
    (hs : PySem.W.findIn X.K (.ref C) "__eq__" = some (some (.ref f))) (hf : PySem.W.isFn X.K (.ref f) = true) : OpR X (compareOp .NotEq) (rEqOwn X.K C sp E true) := by
  intro pins s σ H x y v u Q I rx ry h
  obtain ⟨a, dx, fs, t, rfl, ha, ty, hn, h⟩ := h
  cases (show v = Value.ref a from rx)
  obtain ⟨mA, J, _⟩ := ins_get I.hok ha
  obtain ⟨od, J, _⟩ := J.look
  obtain ⟨m, hF⟩ := I.fr
  obtain ⟨Pt, Z, p, _⟩ := kit_of I ry ty
  show wpAny (model X.prog X.w) X.A (richCompare .NotEq (.ref a) u) (EP X pins σ Q) X.xe s
  refine rich_ne hr.in1.units0 hF I.ok.mod.kin J (Z.ty _ _ I.kIn p) hn hm hne hs hf (wpAny_mono (run_at F hr.in1 rfl hb hx I (vs := [.ref a, y]) (us := [Value.ref a, u]) (.cons rfl (.cons ry .nil)) h) (fun w s' hv => ?_) (fun _ _ e => e))
  obtain ⟨z, H', I', rz, c, rfl, q⟩ := hv
  cases (show w = Value.bool c from rz)
  exact ⟨c, rfl, .bl (!c), H', I', rfl, q⟩
end
end SP
namespace F02
open PySem PySem.Spec PyProof.Rows L2 MG SP
theorem ff_hosts (vh vg vt : V) (n : Addr) (x : Str) : (ff vh vg vt n x).lookup ("_hosts" : Str) = some vh := by
  unfold ff; simp [List.lookup]
theorem lk_ne {f g : Str} {v : V} {r : List (Str × V)} (h : (f == g) = false) : ((g, v) :: r).lookup f = r.lookup f := by
  simp only [List.lookup, h]
theorem lk_eq {f : Str} {v : V} {r : List (Str × V)} : ((f, v) :: r).lookup f = some v := by
  simp [List.lookup]
theorem ff_guests (vh vg vt : V) (n : Addr) (x : Str) : (ff vh vg vt n x).lookup ("_guests" : Str) = some vg := by
  unfold ff
  rw [lk_ne (by decide +kernel), lk_eq]
theorem ff_tables (vh vg vt : V) (n : Addr) (x : Str) : (ff vh vg vt n x).lookup ("_tables" : Str) = some vt := by
  unfold ff
  rw [lk_ne (by decide +kernel), lk_ne (by decide +kernel), lk_eq]
theorem ff_names (vh vg vt : V) (n : Addr) (x : Str) : (ff vh vg vt n x).lookup ("_names" : Str) = some (.ref n) := by
  unfold ff
  rw [lk_ne (by decide +kernel), lk_ne (by decide +kernel), lk_ne (by decide +kernel), lk_eq]
theorem ff_text (vh vg vt : V) (n : Addr) (x : Str) : (ff vh vg vt n x).lookup ("_text" : Str) = some (.str x) := by
  unfold ff
  rw [lk_ne (by decide +kernel), lk_ne (by decide +kernel), lk_ne (by decide +kernel), lk_ne (by decide +kernel), lk_eq]
/-- a fair stands at p -/
def FairAt (K : PySem.W.Frag) (C : Addr) (H : Hp) (p : Addr) (hs gs : Side) (t : Option Int) : Prop :=
  ∃ (dx : Addr) (vh vg : V) (n : Addr), H p = some (.ins C dx (ff vh vg (deskV t) n (textT hs gs t))) ∧ Im K H vh (sideD hs) ∧ Im K H vg (sideD gs) ∧ SqT K H n (namesV hs gs)
theorem FairAt.to {K : PySem.W.Frag} {C : Addr} {H H' : Hp} {p : Addr} {hs gs : Side} {t : Option Int} (f : FairAt K C H p hs gs t) (tk : Tk H H') (hp : ∀ o, H p = some o → H' p = some o) : FairAt K C H' p hs gs t := by
  obtain ⟨dx, vh, vg, n, h1, h2, h3, h4⟩ := f
  exact ⟨dx, vh, vg, n, hp _ h1, h2.to tk _ _, h3.to tk _ _, tk.sq h4⟩
theorem FairAt.same {K : PySem.W.Frag} {C : Addr} {H H' : Hp} {p : Addr} {hs gs : Side} {t : Option Int} (f : FairAt K C H p hs gs t) (s : Same H H') : FairAt K C H' p hs gs t := f.to (Tk.same s) (fun o h => s _ _ h)
theorem FairAt.jug {K : PySem.W.Frag} {C : Addr} {H H' : Hp} {p q : Addr} {N : Nat} {hs gs : Side} {t : Option Int} (f : FairAt K C H p hs gs t) (b : But q H H') (j : Jug H q N) : FairAt K C H' p hs gs t := by
  have n : p ≠ q := fun e => by
    obtain ⟨_, _, _, _, h1, _⟩ := f
    obtain ⟨_, _, _, h2, _⟩ := j
    rw [e, h2] at h1
    cases h1
  exact f.to (Tk.jug b j) (fun o h => b _ _ n h)
/-- what the top has written of the class -/
structure TxC (K : PySem.W.Frag) (mg : Str → Option Value) (C : Addr) : Prop where
  cl : Cls K C
  nH : NoAttr K C "_hosts"
  nG : NoAttr K C "_guests"
  nT : NoAttr K C "_tables"
  nN : NoAttr K C "_names"
  nX : NoAttr K C "_text"
  g_Fair : mg "Fair" = some (.ref C)
  ha : PySem.W.findIn K (.ref C) "__class__" = some (some (.builtin "object.__class__"))
  hn : PySem.W.specialIn K (.builtin "object.__class__") "__get__" = some (some (.builtin "getset_descriptor.__get__"))
  htk : PySem.W.takesIn K (.builtin "object.__class__") = some true
  hm : PySem.W.mroIn K C (.type "object") = some true
  kC : PySem.W.kitOne K (.ref C) (.ref C) = some true
  kN : PySem.W.kitOne K (.type "NoneType") (.ref C) = some false
  kI : PySem.W.kitOne K (.type "int") (.ref C) = some false
  kS : PySem.W.kitOne K (.type "str") (.ref C) = some false
  kT : PySem.W.kitOne K (.type "tuple") (.ref C) = some false
  kL : PySem.W.kitOne K (.type "list") (.ref C) = some false
  fC : PySem.W.notFirst K C (.ref C) = true
  fN : PySem.W.notFirst K C (.type "NoneType") = true
  fI : PySem.W.notFirst K C (.type "int") = true
  fS : PySem.W.notFirst K C (.type "str") = true
  fT : PySem.W.notFirst K C (.type "tuple") = true
  fL : PySem.W.notFirst K C (.type "list") = true
  nB : PySem.W.findIn K (.ref C) "__bool__" = some none
  ne : PySem.W.findIn K (.ref C) "__ne__" = some (some (.builtin "object.__ne__"))
  n_isinstance : mg "isinstance" = none
  n_str : mg "str" = none
  n_len : mg "len" = none
theorem TxC.ty {K : PySem.W.Frag} {mg : Str → Option Value} {C : Addr} (T : TxC K mg C) {H : Hp} {p dx : Addr} {fs : List (Str × V)} (h : H p = some (.ins C dx fs)) : TyX K H (.ref p) (.ref C) :=
  .base (.ins h T.cl T.ha T.hn T.htk T.hm)
section
variable {P : Program} {w : World} {K : PySem.W.Frag} {mg : Str → Option Value} {base : Heap} {C : Addr}
/-! ### __len__, __str__, __contains__, __eq__ -/
abbrev s_len : Stmt := inClass (top 25) 7
theorem sc_len : FnScope ["self"] ["self"] (defScope s_len) := ⟨rfl, rfl, rfl, by decide +kernel, rfl, by decide +kernel, by decide +kernel⟩
def sp_len (K : PySem.W.Frag) (C : Addr) : Sp := fun vs H Q _ => ∃ (p : Addr) (hs gs : Side) (t : Option Int), vs = [.ref p] ∧ FairAt K C H p hs gs t ∧ Q (.int ((namesV hs gs).length : Int)) H
theorem ok_len {f : Addr} {fd : FuncData} (F : Fun K "__len__" "Fair.__len__" s_len f fd) (T : TxC K mg C) : FnOk P w K mg base CX0 1 f fd ["self"] (sp_len K C) := by
  refine F.ok sc_len (fun vs H Q E h => ?_) (fun cdv A outer s H vs Q E hr h => ?_)
  · obtain ⟨p, hs, gs, t, rfl, _⟩ := h
    rfl
  · obtain ⟨p, hs, gs, t, rfl, ⟨dx, vh, vg, n, h1, h2, h3, h4⟩, k⟩ := h
    exact ⟨_, (pss_one (ps_ret (pe_callB call_len_seq (by rfl) T.n_len PySem.boot_len (pa_cons (pe_fld (pv 0) rfl) pa_nil)))),
      _, rfl, p, C, dx, _, _, rfl, h1, T.cl, T.nN, ff_names _ _ _ _ _, n, _, rfl, .inr h4, k⟩
abbrev s_str : Stmt := inClass (top 25) 8
theorem sc_str : FnScope ["self"] ["self"] (defScope s_str) := ⟨rfl, rfl, rfl, by decide +kernel, rfl, by decide +kernel, by decide +kernel⟩
def sp_str (K : PySem.W.Frag) (C : Addr) : Sp := fun vs H Q _ => ∃ (p : Addr) (hs gs : Side) (t : Option Int), vs = [.ref p] ∧ FairAt K C H p hs gs t ∧ Q (.str (textT hs gs t)) H
theorem ok_str {f : Addr} {fd : FuncData} (F : Fun K "__str__" "Fair.__str__" s_str f fd) (T : TxC K mg C) : FnOk P w K mg base CX0 1 f fd ["self"] (sp_str K C) := by
  refine F.ok sc_str (fun vs H Q E h => ?_) (fun cdv A outer s H vs Q E hr h => ?_)
  · obtain ⟨p, hs, gs, t, rfl, _⟩ := h
    rfl
  · obtain ⟨p, hs, gs, t, rfl, ⟨dx, vh, vg, n, h1, h2, h3, h4⟩, k⟩ := h
    exact ⟨_, (pss_one (ps_ret (pe_callTy SkE.call_str_str (by rfl) T.n_str (by decide +kernel) (pa_cons (pe_fld (pv 0) rfl) pa_nil)))),
      _, rfl, p, C, dx, _, _, rfl, h1, T.cl, T.nX, ff_text _ _ _ _ _, _, rfl, k⟩
abbrev s_has : Stmt := inClass (top 25) 6
theorem sc_has : FnScope ["self", "value"] ["self", "value"] (defScope s_has) := ⟨rfl, rfl, rfl, by decide +kernel, rfl, by decide +kernel, by decide +kernel⟩
def sp_has (K : PySem.W.Frag) (C : Addr) : Sp := fun vs H Q _ => ∃ (p : Addr) (x : Str) (hs gs : Side) (t : Option Int), vs = [.ref p, .str x] ∧ FairAt K C H p hs gs t ∧ Q (.bl (decide (x ∈ (hs ++ gs).map (·.1)))) H
theorem ok_has {f : Addr} {fd : FuncData} (F : Fun K "__contains__" "Fair.__contains__" s_has f fd) (T : TxC K mg C) : FnOk P w K mg base CX0 1 f fd ["self", "value"] (sp_has K C) := by
  refine F.ok sc_has (fun vs H Q E h => ?_) (fun cdv A outer s H vs Q E hr h => ?_)
  · obtain ⟨p, x, hs, gs, t, rfl, _⟩ := h
    rfl
  · obtain ⟨p, x, hs, gs, t, rfl, ⟨dx, vh, vg, n, h1, h2, h3, h4⟩, k⟩ := h
    refine ⟨_, (pss_one (ps_ret (pe_and (pe_callB call_isi (by rfl) T.n_isinstance (by decide +kernel) (pa_cons (pv 1) (pa_cons (pe_bltn (v := .ty "str") (by rfl) T.n_str (by decide +kernel) rfl) pa_nil))) (pe_one (pe_cmpR op_in_seq (pv 1) (pe_fld (pv 0) rfl) rfl))))), ?_⟩
    refine ⟨_, rfl, .str x, .ty "str", _, _, true, rfl, .ty "str", .base (.str x), kit_ty (by decide +kernel), _, rfl, ?_⟩
    refine iteT ⟨_, rfl, _, rfl, p, C, dx, _, _, rfl, h1, T.cl, T.nN, ff_names _ _ _ _ _, n, _, rfl, .inr h4, rfl, flat_strs _, ?_⟩
    unfold namesV
    rw [inV_str]
    exact k
abbrev s_eq : Stmt := inClass (top 25) 9
theorem sc_eq : FnScope ["self", "other"] ["self", "other"] (defScope s_eq) := ⟨rfl, rfl, rfl, by decide +kernel, rfl, by decide +kernel, by decide +kernel⟩
def sp_eq (K : PySem.W.Frag) (C : Addr) : Sp := fun vs H Q _ => ∃ (p : Addr) (y : V) (hs gs : Side) (t : Option Int), vs = [.ref p, y] ∧ FairAt K C H p hs gs t ∧
  ((∃ (q : Addr) (hs' gs' : Side) (t' : Option Int), y = .ref q ∧ FairAt K C H q hs' gs' t' ∧ Q (.bl (decide (V.str (textT hs gs t) = V.str (textT hs' gs' t')))) H) ∨ (∃ u, TyX K H y u ∧ PySem.W.kitOne K u (.ref C) = some false ∧ Q (.bl false) H))
theorem ok_eq {f : Addr} {fd : FuncData} (F : Fun K "__eq__" "Fair.__eq__" s_eq f fd) (T : TxC K mg C) : FnOk P w K mg base CX0 1 f fd ["self", "other"] (sp_eq K C) := by
  refine F.ok sc_eq (fun vs H Q E h => ?_) (fun cdv A outer s H vs Q E hr h => ?_)
  · obtain ⟨p, y, hs, gs, t, rfl, _⟩ := h
    rfl
  · obtain ⟨p, y, hs, gs, t, rfl, ⟨dx, vh, vg, n, h1, h2, h3, h4⟩, k⟩ := h
    refine ⟨_, (pss_one (ps_ret (pe_and (pe_callB call_isi (by rfl) T.n_isinstance (by decide +kernel) (pa_cons (pv 1) (pa_cons (pe_glob (v := .ref C) rfl T.g_Fair rfl) pa_nil))) (pe_one (pe_cmpR op_eq (pe_fld (pv 0) rfl) (pe_fld (pv 1) rfl) (nomark _)))))), ?_⟩
    rcases k with ⟨q, hs', gs', t', rfl, ⟨dx', vh', vg', n', i1, i2, i3, i4⟩, k⟩ | ⟨u, ty, ku, k⟩
    · refine ⟨_, rfl, .ref q, .ref C, _, _, true, rfl, .own C, T.ty i1, T.kC, _, rfl, ?_⟩
      exact iteT ⟨_, rfl, p, C, dx, _, _, rfl, h1, T.cl, T.nX, ff_text _ _ _ _ _, _, rfl, q, C, dx', _, _, rfl, i1, T.cl, T.nX, ff_text _ _ _ _ _, rfl, k⟩
    · exact ⟨_, rfl, y, .ref C, _, _, false, rfl, .own C, ty, ku, _, rfl, iteF k⟩
end
end F02
namespace F02
open PySem PySem.Spec PyProof.Rows L2 MG SP
section
variable {P : Program} {w : World} {K : PySem.W.Frag} {mg : Str → Option Value} {base : Heap} {C : Addr}
abbrev s_hosts : Stmt := inClass (top 25) 2
abbrev s_guests : Stmt := inClass (top 25) 3
abbrev s_tables : Stmt := inClass (top 25) 4
abbrev s_names : Stmt := inClass (top 25) 5
theorem sc_hosts : FnScope ["self"] ["self"] (defScope s_hosts) := ⟨rfl, rfl, rfl, by decide +kernel, rfl, by decide +kernel, by decide +kernel⟩
theorem sc_guests : FnScope ["self"] ["self"] (defScope s_guests) := ⟨rfl, rfl, rfl, by decide +kernel, rfl, by decide +kernel, by decide +kernel⟩
theorem sc_tables : FnScope ["self"] ["self"] (defScope s_tables) := ⟨rfl, rfl, rfl, by decide +kernel, rfl, by decide +kernel, by decide +kernel⟩
theorem sc_names : FnScope ["self"] ["self"] (defScope s_names) := ⟨rfl, rfl, rfl, by decide +kernel, rfl, by decide +kernel, by decide +kernel⟩
theorem ok_hosts {f : Addr} {fd : FuncData} (F : Fun K "hosts" "Fair.hosts" s_hosts f fd) (c : Cls K C) (n : NoAttr K C "_hosts") : FnOk P w K mg base CX0 1 f fd ["self"] (getSp C "_hosts") := by
  refine F.ok sc_hosts (fun vs H Q E h => ?_) (fun cdv A outer s H vs Q E hr h => ?_)
  · obtain ⟨a, dx, fs, v, e, _⟩ := h
    rw [e]; rfl
  · obtain ⟨a, dx, fs, v, rfl, ea, l, q⟩ := h
    exact ⟨_, pss_one (ps_ret (pe_fld (pv 0) rfl)), .ref a, rfl, a, C, dx, fs, v, rfl, ea, c, n, l, q⟩
theorem ok_guests {f : Addr} {fd : FuncData} (F : Fun K "guests" "Fair.guests" s_guests f fd) (c : Cls K C) (n : NoAttr K C "_guests") : FnOk P w K mg base CX0 1 f fd ["self"] (getSp C "_guests") := by
  refine F.ok sc_guests (fun vs H Q E h => ?_) (fun cdv A outer s H vs Q E hr h => ?_)
  · obtain ⟨a, dx, fs, v, e, _⟩ := h
    rw [e]; rfl
  · obtain ⟨a, dx, fs, v, rfl, ea, l, q⟩ := h
    exact ⟨_, pss_one (ps_ret (pe_fld (pv 0) rfl)), .ref a, rfl, a, C, dx, fs, v, rfl, ea, c, n, l, q⟩
theorem ok_tables {f : Addr} {fd : FuncData} (F : Fun K "tables" "Fair.tables" s_tables f fd) (c : Cls K C) (n : NoAttr K C "_tables") : FnOk P w K mg base CX0 1 f fd ["self"] (getSp C "_tables") := by
  refine F.ok sc_tables (fun vs H Q E h => ?_) (fun cdv A outer s H vs Q E hr h => ?_)
  · obtain ⟨a, dx, fs, v, e, _⟩ := h
    rw [e]; rfl
  · obtain ⟨a, dx, fs, v, rfl, ea, l, q⟩ := h
    exact ⟨_, pss_one (ps_ret (pe_fld (pv 0) rfl)), .ref a, rfl, a, C, dx, fs, v, rfl, ea, c, n, l, q⟩
theorem ok_names {f : Addr} {fd : FuncData} (F : Fun K "names" "Fair.names" s_names f fd) (c : Cls K C) (n : NoAttr K C "_names") : FnOk P w K mg base CX0 1 f fd ["self"] (getSp C "_names") := by
  refine F.ok sc_names (fun vs H Q E h => ?_) (fun cdv A outer s H vs Q E hr h => ?_)
  · obtain ⟨a, dx, fs, v, e, _⟩ := h
    rw [e]; rfl
  · obtain ⟨a, dx, fs, v, rfl, ea, l, q⟩ := h
    exact ⟨_, pss_one (ps_ret (pe_fld (pv 0) rfl)), .ref a, rfl, a, C, dx, fs, v, rfl, ea, c, n, l, q⟩
end
end F02
namespace F02
open PySem PySem.Spec PyProof.Rows L2 MG SP
section
variable {K : PySem.W.Frag} {f : Addr} {fd : FuncData}
abbrev psI : List Str := ["self", "hosts", "guests", "tables"]
abbrev FI (K : PySem.W.Frag) (f : Addr) (fd : FuncData) : Prop := FunD K "__init__" "Fair.__init__" (defArgs s_init) (defBody s_init) (defScope s_init) [.non] [] f fd
theorem b_init4 (F : FI K f fd) : Binds K fd psI [] := by
  obtain ⟨ds, r, h⟩ := F.binds1 (ps := psI) 4 1 (by simp) rfl (fun T kV doc pm an cdv ct us its l1 l2 => by
    obtain ⟨a, b, c, d, rfl⟩ : ∃ a b c d, us = [a, b, c, d] := by
      match us, l1 with
      | [a, b, c, d], _ => exact ⟨a, b, c, d, rfl⟩
    obtain ⟨e, rfl⟩ : ∃ e, its = [e] := by
      match its, l2 with
      | [e], _ => exact ⟨e, rfl⟩
    exact ⟨_, rfl, rfl⟩)
  cases r
  exact h
theorem b_init3 (F : FI K f fd) : ∃ ds, Vals [V.non] ds ∧ Binds K fd psI ds :=
  F.binds1 (ps := psI) 3 0 (by simp) rfl (fun T kV doc pm an cdv ct us its l1 l2 => by
    obtain ⟨a, b, c, rfl⟩ : ∃ a b c, us = [a, b, c] := by
      match us, l1 with
      | [a, b, c], _ => exact ⟨a, b, c, rfl⟩
    obtain ⟨e, rfl⟩ : ∃ e, its = [e] := by
      match its, l2 with
      | [e], _ => exact ⟨e, rfl⟩
    exact ⟨_, rfl, rfl⟩)
def gK {α : Type} (us its ws : List α) : List α := match ws with
  | [a, b, c] => us ++ [c, b, a]
  | _ => us
theorem b_initK (F : FI K f fd) : ∃ its : List Value, KBn K fd psI 1 ["tables", "guests", "hosts"] (fun us ws => gK us its ws) (fun vs zs => gK vs [V.non] zs) :=
  F.kbindsD (ps := psI) 1 ["tables", "guests", "hosts"] (@gK) (by simp) (fun {vs ds zs us its ws} r1 r2 r3 => by
    cases r3 with
    | nil => exact r1
    | cons x1 r3 =>
      cases r3 with
      | nil => exact r1
      | cons x2 r3 =>
        cases r3 with
        | nil => exact r1
        | cons x3 r3 =>
          cases r3 with
          | nil => exact r1.append (.cons x3 (.cons x2 (.cons x1 .nil)))
          | cons x4 r3 => exact r1) (fun T kV doc pm an cdv ct us its ws l1 l2 l3 => by
    obtain ⟨a, rfl⟩ : ∃ a, us = [a] := by
      match us, l1 with
      | [a], _ => exact ⟨a, rfl⟩
    obtain ⟨e, rfl⟩ : ∃ e, its = [e] := by
      match its, l2 with
      | [e], _ => exact ⟨e, rfl⟩
    obtain ⟨x, y, z, rfl⟩ : ∃ x y z, ws = [x, y, z] := by
      match ws, l3 with
      | [x, y, z], _ => exact ⟨x, y, z, rfl⟩
    exact ⟨_, rfl, rfl⟩)
end
section
variable {P : Program} {w : World} {K : PySem.W.Frag} {mg : Str → Option Value} {base : Heap} {C : Addr}
theorem But.fresh {H H1 : Hp} {x dx : Addr} {o o' : HO} (hx : H x = none) (hd : H dx = none) (b : But x (upd (upd H dx o) x o') H1) : Same H H1 := fun a u e => by
  have n1 : a ≠ x := ne_of_none e hx
  have n2 : a ≠ dx := ne_of_none e hd
  exact b a u n1 ((upd_ne n1).trans ((upd_ne n2).trans e))
/-- a fair is made of right sides -/
theorem made {H : Hp} {vh vg : V} {hs gs : Side} {t : Option Int} {Q : VK} {E : XK} {x dx : Addr} (h1 : Im K H vh (sideD hs)) (h2 : Im K H vg (sideD gs)) (fi : Fairish hs gs t) (hx : H x = none) (hd : H dx = none) (hn : dx ≠ x)
    (k : ∀ H', Same H H' → FairAt K C H' x hs gs t → Q (.ref x) H') : sp_init K C [.ref x, vh, vg, deskV t] (upd (upd H dx (.own x)) x (.ins C dx [])) (fun v H3 => v = .non ∧ Q (.ref x) H3) E := by
  have s0 : Same H (upd (upd H dx (.own x)) x (.ins C dx [])) := (same_new (Same.refl H) hd).trans (same_new (Same.refl _) (by rw [upd_ne (Ne.symm hn)]; exact hx))
  refine ⟨x, dx, vh, vg, hs, gs, t, rfl, upd_same, h1.to (Tk.same s0) _ _, h2.to (Tk.same s0) _ _, fi, fun n H' b e sq => ⟨rfl, ?_⟩⟩
  have sm := But.fresh hx hd b
  exact k H' sm ⟨dx, vh, vg, n, e, h1.to (Tk.same sm) _ _, h2.to (Tk.same sm) _ _, sq⟩
end
end F02
/-! zip over the items of a tuple of tuples, one to four of them, and the results kept under one name -/
namespace ZN
open PySem
open PySem.Sem (wp)
abbrev IsZipF (h : Heap) (z TI TO : Addr) (f0 f1 : Value) : Prop :=
  h.get? z = some { cls := .type "zip", dict := none, data := .fields #[f0, f1, .bool false, .ref TI, .ref TO], slots := #[] }
abbrev IsTupV (h : Heap) (T : Addr) (vs : List Value) : Prop := h.get? T = some { cls := .type "tuple", data := .seq vs.toArray }
/-- the iterators (and their tuples) stand apart from the zip and its own -/
structure Apart (z TI TO : Addr) (l : List (Addr × Addr)) : Prop where
  TIz : TI ≠ z
  TOz : TO ≠ z
  TITO : TI ≠ TO
  iz : ∀ p ∈ l, p.1 ≠ z
  iTI : ∀ p ∈ l, p.1 ≠ TI
  iTO : ∀ p ∈ l, p.1 ≠ TO
  tz : ∀ p ∈ l, p.2 ≠ z
  tTO : ∀ p ∈ l, p.2 ≠ TO
  ti : ∀ p ∈ l, ∀ q ∈ l, p.2 ≠ q.1
  nd : (l.map (·.1)).Nodup
def Rows (h : Heap) (k : Nat) (l : List (Addr × Addr)) (xs : List Value) : Prop := l.length = xs.length ∧ ∀ (n : Nat) (p : Addr × Addr), l[n]? = some p → ∃ x items, xs[n]? = some x ∧ h.IsTuple p.2 items ∧ items[k]? = some x
abbrev refs (l : List (Addr × Addr)) : List Value := l.map fun p => Value.ref p.1
section
variable {prog : Program} {w : World} {A : Around} {E : Value → Shared → Prop} {s : Shared}
theorem wpAny_loadIfAlive {M : Model} {a : Addr} {Q : Option Obj → Shared → Prop} (h : Q (s.heap.get? a) s) : wpAny M A (loadIfAlive a) Q E s := fun Γ p hΓ => h
theorem wpAny_updateSeq_tup {T : Addr} {vs : List Value} {x : Value} {k : Nat} {Q : Unit → Shared → Prop} (hT : IsTupV s.heap T vs) (hl : vs.length ≤ 4)
    (h : ∀ h', IsTupV h' T (vs.set k x) → Heap.SameBut T s.heap h' → Q () { s with heap := h' }) :
    wpAny (model prog w) A (updateSeq T (·.setIfInBounds k x)) Q E s := by
  refine wpAny_updateSeq hT rfl (h _ ?_ (Heap.SameBut.update ..)) (by rw [List.size_toArray]; exact Nat.le_trans hl (by decide)) (by rw [Array.size_setIfInBounds, List.size_toArray]; exact Nat.le_trans hl (by decide))
  show Heap.get? _ _ = _
  rw [Heap.get?_update_self _ hT rfl]
  simp [Obj.mapSeq]
/-- how far a round of draws has come -/
structure St (z TI TO : Addr) (f0 f1 : Value) (l dn td : List (Addr × Addr)) (k : Nat) (ys : List Value) (h0 h : Heap) (d : Nat) : Prop where
  hz : IsZipF h z TI TO f0 f1
  hTI : IsTupV h TI (refs l)
  hTO : IsTupV h TO ys
  ly : ys.length = l.length
  hd : ∀ p ∈ dn, h.IsTupleIter p.1 p.2 (k + 1)
  ht : ∀ p ∈ td, h.IsTupleIter p.1 p.2 k
  sz : h.objs.size = h0.objs.size + d
  kp : ∀ c o, c ≠ z → c ≠ TO → (∀ p ∈ l, c ≠ p.1) → h0.get? c = some o → h.get? c = some o
/-- one draw -/
theorem St.draw {z TI TO : Addr} {f0 f1 : Value} {l dn td : List (Addr × Addr)} {p : Addr × Addr} {k : Nat} {ys : List Value} {h0 : Heap} {x : Value} {items : Array Value} {Q : Value → Shared → Prop} (D : Apart z TI TO l) (e : l = dn ++ p :: td)
    (S : St z TI TO f0 f1 l dn (p :: td) k ys h0 s.heap 0) (ht : h0.IsTuple p.2 items) (hx : items[k]? = some x)
    (hQ : ∀ h', St z TI TO f0 f1 l (dn ++ [p]) td k ys h0 h' 0 → Q x { s with heap := h' }) : wpAny (model prog w) A (Builtin.SmallTypes.nextOf (.ref p.1)) Q E s := by
  have mp : p ∈ l := by rw [e]; simp
  have nd := D.nd
  rw [e, List.map_append, List.map_cons] at nd
  have nd2 := List.nodup_append.mp nd
  have nd3 := List.nodup_cons.mp nd2.2.1
  obtain ⟨o, ho, r⟩ := ht
  have ht' : s.heap.IsTuple p.2 items := ⟨o, S.kp _ _ (D.tz p mp) (D.tTO p mp) (fun q hq => D.ti p mp q hq) ho, r⟩
  refine RZ.nextOf_tuple_item (S.ht p (List.mem_cons_self ..)) ht' hx fun h' hi hs => hQ h' ?_
  refine ⟨hs.extBut _ _ (D.iz p mp).symm S.hz, hs.extBut _ _ (D.iTI p mp).symm S.hTI, hs.extBut _ _ (D.iTO p mp).symm S.hTO, S.ly, fun q hq => ?_, fun q hq => ?_, by rw [hs.1, S.sz], fun c o c1 c2 c3 hc => hs.extBut _ _ (c3 p mp) (S.kp c o c1 c2 c3 hc)⟩
  · rcases List.mem_append.mp hq with hq | hq
    · refine (S.hd q hq).extBut hs.extBut fun x => ?_
      exact nd2.2.2 q.1 (List.mem_map_of_mem hq) p.1 (List.mem_cons_self ..) x
    · have : q = p := by simpa using hq
      subst this
      exact hi
  · refine (S.ht q (List.mem_cons_of_mem _ hq)).extBut hs.extBut fun x => ?_
    exact nd3.1 (x ▸ List.mem_map_of_mem hq)
/-- the zip's own field set -/
theorem St.set {z TI TO : Addr} {f0 f1 g0 g1 : Value} {l dn td : List (Addr × Addr)} {k d : Nat} {ys : List Value} {h0 h h' : Heap} (D : Apart z TI TO l) (hl : l = dn ++ td) (S : St z TI TO f0 f1 l dn td k ys h0 h d)
    (hz : IsZipF h' z TI TO g0 g1) (hs : Heap.SameBut z h h') : St z TI TO g0 g1 l dn td k ys h0 h' d := by
  refine ⟨hz, hs.extBut _ _ D.TIz S.hTI, hs.extBut _ _ D.TOz S.hTO, S.ly, fun q hq => (S.hd q hq).extBut hs.extBut (D.iz q (by rw [hl]; simp [hq])), fun q hq => (S.ht q hq).extBut hs.extBut (D.iz q (by rw [hl]; simp [hq])), by rw [hs.1, S.sz], fun c o c1 c2 c3 hc => hs.extBut _ _ c1 (S.kp c o c1 c2 c3 hc)⟩
theorem St.tup {z TI TO : Addr} {f0 f1 : Value} {l dn td : List (Addr × Addr)} {k d : Nat} {ys zs : List Value} {h0 h h' : Heap} (D : Apart z TI TO l) (hl : l = dn ++ td) (S : St z TI TO f0 f1 l dn td k ys h0 h d)
    (hT : IsTupV h' TO zs) (lz : zs.length = ys.length) (hs : Heap.SameBut TO h h') : St z TI TO f0 f1 l dn td k zs h0 h' d := by
  refine ⟨hs.extBut _ _ D.TOz.symm S.hz, hs.extBut _ _ D.TITO S.hTI, hT, by rw [lz, S.ly], fun q hq => (S.hd q hq).extBut hs.extBut (D.iTO q (by rw [hl]; simp [hq])), fun q hq => (S.ht q hq).extBut hs.extBut (D.iTO q (by rw [hl]; simp [hq])), by rw [hs.1, S.sz], fun c o c1 c2 c3 hc => hs.extBut _ _ c2 (S.kp c o c1 c2 c3 hc)⟩
theorem free_any {z TI TO : Addr} {f0 : Value} {b1 : Bool} {l : List (Addr × Addr)} {k : Nat} {ys : List Value} {h0 : Heap} (D : Apart z TI TO l) (hf : f0 = .none ∨ ∃ a : Nat, f0 = rawInt a)
    (S : St z TI TO f0 (.bool b1) l [] l k ys h0 s.heap 0) :
    wpAny (model prog w) A (Builtin.SmallTypes.ownedTupleIsFree (.ref z)) (fun _ s' => ∃ h' b2, s' = { s with heap := h' } ∧ St z TI TO f0 (.bool b2) l [] l k ys h0 h' 0) E s := by
  unfold Builtin.SmallTypes.ownedTupleIsFree
  rcases hf with rfl | ⟨a, rfl⟩
  · exact wpAny_bind (wpAny_field S.hz rfl (x := .none) rfl (wpAny_pure ⟨s.heap, b1, rfl, S⟩))
  · refine wpAny_bind (wpAny_field S.hz rfl (x := rawInt a) rfl ?_)
    show wpAny _ _ (loadIfAlive _ >>= _) _ _ _
    refine wpAny_bind (wpAny_loadIfAlive ?_)
    cases h : (s.heap.get? (Int.toNat a)) with
    | none => exact wpAny_pure ⟨s.heap, b1, rfl, S⟩
    | some o =>
      show wpAny _ _ (field (.ref z) 1 >>= _) _ _ _
      refine wpAny_bind (wpAny_field S.hz rfl (x := .bool b1) rfl ?_)
      cases b1 with
      | true => exact wpAny_pure ⟨s.heap, true, rfl, S⟩
      | false =>
        show wpAny _ _ (setField (.ref z) 1 (.bool true) >>= _) _ _ _
        exact wpAny_bind (wpAny_setField_rec S.hz (by simp) fun h' hz' hs' => wpAny_pure ⟨h', true, rfl, S.set D rfl hz' hs'⟩)
theorem St.push {z TI TO : Addr} {f0 f1 : Value} {l dn td : List (Addr × Addr)} {k : Nat} {ys : List Value} {h0 h : Heap} (o : Obj) (S : St z TI TO f0 f1 l dn td k ys h0 h 0) : St z TI TO f0 f1 l dn td k ys h0 (h.push o) 1 :=
  ⟨Heap.get?_push_of_some _ S.hz, Heap.get?_push_of_some _ S.hTI, Heap.get?_push_of_some _ S.hTO, S.ly, fun q hq => (S.hd q hq).at fun o e => Heap.get?_push_of_some _ e, fun q hq => (S.ht q hq).at fun o e => Heap.get?_push_of_some _ e,
    by rw [Heap.size_push, S.sz], fun c o c1 c2 c3 hc => Heap.get?_push_of_some _ (S.kp c o c1 c2 c3 hc)⟩
theorem set_take {α : Type} {xs ys : List α} {n : Nat} {x : α} (hx : xs[n]? = some x) (hy : n < ys.length) : (xs.take n ++ ys.drop n).set n x = xs.take (n + 1) ++ ys.drop (n + 1) := by
  have hn : n < xs.length := (List.getElem?_eq_some_iff.mp hx).1
  have l1 : (xs.take n).length = n := by rw [List.length_take]; omega
  rw [List.take_add_one, hx, List.drop_eq_getElem_cons hy]
  have : ∀ (as bs : List α) (b : α), as.length = n → (as ++ b :: bs).set n x = as ++ [x] ++ bs := by
    intro as bs b h
    rw [← h, List.set_append_right _ _ (Nat.le_refl _), Nat.sub_self, List.set_cons_zero, List.append_assoc]
    rfl
  exact this _ _ _ l1
theorem zipN_item {z TI TO : Addr} {f0 : Value} {b1 : Bool} {l : List (Addr × Addr)} {k : Nat} {ys xs : List Value} {Q : Value → Shared → Prop} (D : Apart z TI TO l) (l4 : l.length ≤ 4) (ne : l ≠ []) (hf : f0 = .none ∨ ∃ a : Nat, f0 = rawInt a)
    (S : St z TI TO f0 (.bool b1) l [] l k ys s.heap s.heap 0) (R : Rows s.heap k l xs)
    (hQ : ∀ h' f0' b2 zs, (f0' = .none ∨ ∃ a : Nat, f0' = rawInt a) → St z TI TO f0' (.bool b2) l l [] k zs s.heap h' 1 → IsTupV h' s.heap.objs.size xs → Q (.ref s.heap.objs.size) { s with heap := h' }) :
    wpAny (model prog w) A (Builtin.«zip.__next__» ⟨[.ref z], []⟩) (fun fin s' => ∃ v, fin = .done (.ret v) ∧ Q v s') E s := by
  show wpAny _ _ (field (.ref z) 2 >>= _) _ _ _
  refine wpAny_bind (wpAny_field S.hz rfl (x := .bool false) rfl ?_)
  show wpAny _ _ (field (.ref z) 3 >>= _) _ _ _
  refine wpAny_bind (wpAny_field S.hz rfl (x := .ref TI) rfl ?_)
  refine wpAny_bind (wpAny_seqItems S.hTI rfl ?_)
  have hne : (refs l).toArray.isEmpty = false := by
    cases l with
    | nil => exact absurd rfl ne
    | cons p l => rfl
  dsimp only
  rw [if_neg (by rw [hne]; exact Bool.false_ne_true)]
  refine wpAny_bind (wpAny_mono (free_any D hf S) (fun b s' hb => ?_) fun _ _ x => x)
  obtain ⟨h1, b2, rfl, S1⟩ := hb
  cases b with
  | true =>
    rw [if_pos rfl]
    refine wpAny_bind (wpAny_rule ?_)
    refine wpAny_bind (wpAny_field S1.hz rfl (x := .ref TO) rfl ?_)
    dsimp only
    refine wpAny_bind (wpAny_setField_rec S1.hz (by simp) fun h2 hz2 hs2 => ?_)
    have S2 : St z TI TO .ellipsis (.bool b2) l [] l k ys s.heap h2 0 := S1.set D rfl hz2 hs2
    refine wpAny_bind (wpAny_forIn_list _ (fun rest b s' => b = (none, ()) ∧ ∃ h' dn td, s' = { s with heap := h' } ∧ l = dn ++ td ∧ rest = (refs td).zipIdx dn.length ∧ St z TI TO .ellipsis (.bool b2) l dn td k (xs.take dn.length ++ ys.drop dn.length) s.heap h' 0) _ ?turn ?fin _ _ ⟨rfl, h2, [], l, rfl, rfl, rfl, S2⟩)
    case turn =>
      rintro x rest b s' ⟨rfl, h', dn, td, rfl, el, er, S'⟩
      cases td with
      | nil => cases er
      | cons p td =>
        obtain ⟨rfl, rfl⟩ : x = (.ref p.1, dn.length) ∧ rest = (refs td).zipIdx (dn.length + 1) := by
          simp only [refs, List.map_cons, List.zipIdx_cons] at er
          exact List.cons.inj er
        obtain ⟨x, items, hx, ht, hi⟩ := R.2 dn.length p (by rw [el]; simp)
        have hn : dn.length < ys.length := by rw [S.ly, el, List.length_append, List.length_cons]; omega
        have ed : dn ++ p :: td = (dn ++ [p]) ++ td := by simp
        refine wpAny_bind (wpAny_onRaise ?_)
        show wpAny _ _ (Builtin.SmallTypes.nextOf (.ref p.1) >>= _) _ _ _
        refine wpAny_bind (St.draw D el S' ht hi fun h3 S3 => wpAny_pure ?_)
        dsimp only
        refine wpAny_bind (wpAny_seqItems S3.hTO rfl ?_)
        dsimp only
        refine wpAny_bind (wpAny_updateSeq_tup S3.hTO (by rw [S3.ly]; exact l4) fun h4 hT4 hs4 => ?_)
        rw [set_take hx hn] at hT4
        refine wpAny_bind (wpAny_letGo (wpAny_pure ?_))
        have l5 := (List.getElem?_eq_some_iff.mp hx).1
        refine ⟨rfl, h4, dn ++ [p], td, rfl, by rw [el, ed], by rw [List.length_append]; rfl, ?_⟩
        have e1 : (dn ++ [p]).length = dn.length + 1 := by simp
        rw [e1]
        exact S3.tup D (by rw [el, ed]) hT4 (by simp only [List.length_append, List.length_take, List.length_drop]; omega) hs4
    case fin =>
      rintro b s' ⟨rfl, h', dn, td, rfl, el, er, S'⟩
      have e0 : td = [] := by
        cases td with
        | nil => rfl
        | cons p td => cases er
      subst e0
      rw [List.append_nil] at el
      subst el
      have ex : xs.take l.length ++ ys.drop l.length = xs := by
        rw [R.1, List.take_length, ← R.1, ← S.ly, List.drop_length, List.append_nil]
      rw [ex] at S'
      show wpAny _ _ (seqItems? (.ref TO) >>= _) _ _ _
      refine wpAny_bind (wpAny_seqItems S'.hTO rfl ?_)
      dsimp only
      refine wpAny_bind (wpAny_newTuple ?_ (Nat.le_trans (Nat.le_of_eq R.1.symm) (Nat.le_trans l4 (by decide))))
      have S5 := S'.push { cls := .type "tuple", data := .seq xs.toArray }
      have hzl : z < h'.objs.size := Heap.lt_size S'.hz
      show wpAny _ _ (Builtin.SmallTypes.ownedTupleHandOut (.ref z) (.ref h'.objs.size) >>= _) _ _ _
      refine wpAny_bind ?_
      unfold Builtin.SmallTypes.ownedTupleHandOut
      refine wpAny_bind (wpAny_setField_rec S5.hz (by simp) fun h6 hz6 hs6 => ?_)
      have S6 := S5.set D (by simp) hz6 hs6
      refine wpAny_setField_rec S6.hz (by simp) fun h7 hz7 hs7 => ?_
      have S7 := S6.set D (by simp) hz7 hs7
      refine wpAny_pure ⟨_, rfl, ?_⟩
      have esz : h'.objs.size = s.heap.objs.size := by rw [S'.sz]; rfl
      rw [esz]
      refine hQ h7 _ false xs (.inr ⟨_, rfl⟩) S7 ?_
      have nz : s.heap.objs.size ≠ z := by rw [← esz]; exact Nat.ne_of_gt hzl
      refine hs7.extBut _ _ nz (hs6.extBut _ _ nz ?_)
      rw [← esz]
      exact Heap.get?_push_size _ rfl
  | false =>
    rw [if_neg Bool.false_ne_true]
    refine wpAny_bind (PySem.MeetsSeq2.wpAny_forIn_array _ (fun rest b s' => ∃ h' dn td, b = (none, (xs.take dn.length).toArray) ∧ s' = { s with heap := h' } ∧ l = dn ++ td ∧ rest = refs td ∧ St z TI TO f0 (.bool b2) l dn td k ys s.heap h' 0) _ ?turn2 ?fin2 _ _ ⟨h1, [], l, rfl, rfl, rfl, rfl, S1⟩)
    case turn2 =>
      rintro x rest b s' ⟨h', dn, td, rfl, rfl, el, er, S'⟩
      cases td with
      | nil => cases er
      | cons p td =>
        obtain ⟨rfl, rfl⟩ : x = .ref p.1 ∧ rest = refs td := by
          simp only [refs, List.map_cons] at er
          exact List.cons.inj er
        obtain ⟨x, items, hx, ht, hi⟩ := R.2 dn.length p (by rw [el]; simp)
        have ed : dn ++ p :: td = (dn ++ [p]) ++ td := by simp
        refine wpAny_bind (wpAny_holding ?_)
        show wpAny _ _ (Builtin.SmallTypes.nextOf (.ref p.1) >>= _) _ _ _
        refine wpAny_bind (St.draw D el S' ht hi fun h3 S3 => wpAny_pure ?_)
        refine wpAny_pure ⟨h3, dn ++ [p], td, ?_, rfl, by rw [el, ed], rfl, S3⟩
        have e1 : (dn ++ [p]).length = dn.length + 1 := by simp
        rw [e1, List.take_add_one, hx]
        simp
    case fin2 =>
      rintro b s' ⟨h', dn, td, rfl, rfl, el, er, S'⟩
      have e0 : td = [] := by
        cases td with
        | nil => rfl
        | cons p td => cases er
      subst e0
      rw [List.append_nil] at el
      subst el
      have ex : xs.take l.length = xs := by rw [R.1, List.take_length]
      rw [ex]
      show wpAny _ _ (newTuple xs >>= _) _ _ _
      refine wpAny_bind (wpAny_newTuple ?_ (Nat.le_trans (Nat.le_of_eq R.1.symm) (Nat.le_trans l4 (by decide))))
      have S5 := S'.push { cls := .type "tuple", data := .seq xs.toArray }
      have esz : h'.objs.size = s.heap.objs.size := by rw [S'.sz]; rfl
      refine wpAny_pure ⟨_, rfl, ?_⟩
      show Q (.ref h'.objs.size) _
      rw [esz]
      refine hQ _ _ b2 ys hf S5 ?_
      rw [← esz]
      exact Heap.get?_push_size _ rfl
theorem zipN_end {z TI TO : Addr} {f0 : Value} {b1 : Bool} {p : Addr × Addr} {l : List (Addr × Addr)} {k : Nat} {ys : List Value} {items : Array Value} {Q : PySem.Fin → Shared → Prop} (hh : A.handled = none) (D : Apart z TI TO (p :: l)) (hf : f0 = .none ∨ ∃ a : Nat, f0 = rawInt a)
    (S : St z TI TO f0 (.bool b1) (p :: l) [] (p :: l) k ys s.heap s.heap 0) (ht : s.heap.IsTuple p.2 items) (hx : items[k]? = none)
    (hE : ∀ h' e, (∀ c o, c ≠ z → c ≠ TO → (∀ q ∈ p :: l, c ≠ q.1) → s.heap.get? c = some o → h'.get? c = some o) → (∃ o, h'.get? e = some o ∧ o.cls = .type "StopIteration") → E (.ref e) { s with heap := h' }) :
    wpAny (model prog w) A (Builtin.«zip.__next__» ⟨[.ref z], []⟩) Q E s := by
  show wpAny _ _ (field (.ref z) 2 >>= _) _ _ _
  refine wpAny_bind (wpAny_field S.hz rfl (x := .bool false) rfl ?_)
  show wpAny _ _ (field (.ref z) 3 >>= _) _ _ _
  refine wpAny_bind (wpAny_field S.hz rfl (x := .ref TI) rfl ?_)
  refine wpAny_bind (wpAny_seqItems S.hTI rfl ?_)
  have hne : (refs (p :: l)).toArray.isEmpty = false := rfl
  dsimp only
  rw [if_neg (by rw [hne]; exact Bool.false_ne_true)]
  refine wpAny_bind (wpAny_mono (free_any D hf S) (fun b s' hb => ?_) fun _ _ x => x)
  obtain ⟨h1, b2, rfl, S1⟩ := hb
  have mp : p ∈ p :: l := List.mem_cons_self ..
  obtain ⟨o, ho, r⟩ := ht
  have tup : ∀ {f0 f1 h' d}, St z TI TO f0 f1 (p :: l) [] (p :: l) k ys s.heap h' d → h'.IsTuple p.2 items := fun S' => ⟨o, S'.kp _ _ (D.tz p mp) (D.tTO p mp) (fun q hq => D.ti p mp q hq) ho, r⟩
  cases b with
  | true =>
    rw [if_pos rfl]
    refine wpAny_bind (wpAny_rule ?_)
    refine wpAny_bind (wpAny_field S1.hz rfl (x := .ref TO) rfl ?_)
    dsimp only
    refine wpAny_bind (wpAny_setField_rec S1.hz (by simp) fun h2 hz2 hs2 => ?_)
    have S2 : St z TI TO .ellipsis (.bool b2) (p :: l) [] (p :: l) k ys s.heap h2 0 := S1.set D rfl hz2 hs2
    refine wpAny_bind (wpAny_forIn_list _ (fun rest b s' => s' = { s with heap := h2 } ∧ rest = (refs (p :: l)).zipIdx 0) _ ?turn ?fin _ _ ⟨rfl, rfl⟩)
    case fin =>
      rintro b s' ⟨rfl, er⟩
      cases er
    case turn =>
      rintro x rest b s' ⟨rfl, er⟩
      obtain ⟨rfl, rfl⟩ : x = (.ref p.1, 0) ∧ rest = (refs l).zipIdx 1 := by
        simp only [refs, List.map_cons, List.zipIdx_cons] at er
        exact List.cons.inj er
      refine wpAny_bind (wpAny_onRaise ?_)
      show wpAny _ _ (Builtin.SmallTypes.nextOf (.ref p.1) >>= _) _ _ _
      refine wpAny_bind (RZ.nextOf_tuple_end hh (S2.ht p mp) (tup S2) hx fun h3 e hs3 he => ?_)
      obtain ⟨oe, hoe, hce⟩ := he
      have hz3 := hs3 _ _ (D.iz p mp).symm S2.hz
      have hez : e ≠ z := fun x => by subst x; rw [hz3] at hoe; cases hoe; simp at hce
      refine wpAny_setField_rec hz3 (by simp) fun h4 _ hs4 => hE h4 e (fun c o c1 c2 c3 x => hs4.extBut _ _ c1 (hs3 _ _ (c3 p mp) (S2.kp c o c1 c2 c3 x))) ⟨oe, hs4.extBut _ _ hez hoe, hce⟩
  | false =>
    rw [if_neg Bool.false_ne_true]
    refine wpAny_bind (PySem.MeetsSeq2.wpAny_forIn_array _ (fun rest b s' => s' = { s with heap := h1 } ∧ rest = refs (p :: l)) _ ?turn2 ?fin2 _ _ ⟨rfl, rfl⟩)
    case fin2 =>
      rintro b s' ⟨rfl, er⟩
      cases er
    case turn2 =>
      rintro x rest b s' ⟨rfl, er⟩
      obtain ⟨rfl, rfl⟩ : x = .ref p.1 ∧ rest = refs l := by
        simp only [refs, List.map_cons] at er
        exact List.cons.inj er
      refine wpAny_bind (wpAny_holding ?_)
      show wpAny _ _ (Builtin.SmallTypes.nextOf (.ref p.1) >>= _) _ _ _
      exact wpAny_bind (RZ.nextOf_tuple_end hh (S1.ht p mp) (tup S1) hx fun h3 e hs3 he => hE h3 e (fun c o c1 c2 c3 x => hs3 _ _ (c3 p mp) (S1.kp c o c1 c2 c3 x)) he)
theorem pyNext_zipN_item {z TI TO : Addr} {f0 : Value} {b1 : Bool} {l : List (Addr × Addr)} {k : Nat} {ys xs : List Value} {Q : Option Value → Shared → Prop} (D : Apart z TI TO l) (l4 : l.length ≤ 4) (ne : l ≠ []) (hf : f0 = .none ∨ ∃ a : Nat, f0 = rawInt a)
    (S : St z TI TO f0 (.bool b1) l [] l k ys s.heap s.heap 0) (R : Rows s.heap k l xs)
    (hQ : ∀ h' f0' b2 zs, (f0' = .none ∨ ∃ a : Nat, f0' = rawInt a) → St z TI TO f0' (.bool b2) l l [] k zs s.heap h' 1 → IsTupV h' s.heap.objs.size xs → Q (some (.ref s.heap.objs.size)) { s with heap := h' }) :
    wpAny (model prog w) A (pyNext (.ref z)) Q E s := by
  have hT : s.TypeIs (.ref z) "zip" := ⟨_, S.hz, rfl⟩
  unfold pyNext
  exact wpAny_bind (wpAny_attempt (wpAny_callSpecial?_slot (name := Str.ofString "__next__") hT F.slot_zip_next
    (wpAny_call_entry F.slot_zip_next hT F.entry_zip_next
      (zipN_item D l4 ne hf S R fun h' a1 a2 a3 a4 a5 a6 => wpAny_pure (hQ h' a1 a2 a3 a4 a5 a6)) (F.args_zip_next_1 _))))
theorem pyNext_zipN_end {z TI TO : Addr} {f0 : Value} {b1 : Bool} {p : Addr × Addr} {l : List (Addr × Addr)} {k : Nat} {ys : List Value} {items : Array Value} {Q : Option Value → Shared → Prop} (hh : A.handled = none) (D : Apart z TI TO (p :: l)) (hf : f0 = .none ∨ ∃ a : Nat, f0 = rawInt a)
    (S : St z TI TO f0 (.bool b1) (p :: l) [] (p :: l) k ys s.heap s.heap 0) (ht : s.heap.IsTuple p.2 items) (hx : items[k]? = none)
    (hQ : ∀ h', (∀ c o, c ≠ z → c ≠ TO → (∀ q ∈ p :: l, c ≠ q.1) → s.heap.get? c = some o → h'.get? c = some o) → Q none { s with heap := h' }) : wpAny (model prog w) A (pyNext (.ref z)) Q E s := by
  have hT : s.TypeIs (.ref z) "zip" := ⟨_, S.hz, rfl⟩
  unfold pyNext
  refine wpAny_bind (wpAny_attempt (wpAny_callSpecial?_slot (name := Str.ofString "__next__") hT F.slot_zip_next
    (wpAny_call_entry F.slot_zip_next hT F.entry_zip_next (zipN_end hh D hf S ht hx fun h' e hk he => ?_) (F.args_zip_next_1 _))))
  obtain ⟨o, ho, hc⟩ := he
  refine wpAny_bind (wpAny_isInstance (T := "StopIteration") (b := true) ⟨o, ho, hc⟩ isSubtype_stop ?_)
  exact wpAny_pure (hQ _ hk)
theorem wpAny_pyIter_zipN {z TI TO : Addr} {f0 f1 : Value} {Q : Value → Shared → Prop} (hz : IsZipF s.heap z TI TO f0 f1) (h : Q (.ref z) s) : wpAny (model prog w) A (pyIter (.ref z)) Q E s := by
  have hT : s.TypeIs (.ref z) "zip" := ⟨_, hz, rfl⟩
  refine wpAny_pyIter_slot hT F.slot_zip_iter (wpAny_call_entry F.slot_zip_iter hT F.entry_zip_iter ?_ (F.args_zip_iter_1 _))
  show wpAny _ _ (ret (.ref z)) _ _ s
  exact wpAny_pure ⟨_, rfl, "zip", _, hT, F.slot_zip_next.lookup, h⟩
end
/-! ### the call -/
def mk : Nat → List Addr → List (Addr × Addr)
  | _, [] => []
  | n, a :: as => (n, a) :: mk (n + 1) as
theorem mk_append (b : Addr) : ∀ (n : Nat) (as : List Addr), mk n (as ++ [b]) = mk n as ++ [(n + as.length, b)]
  | n, [] => rfl
  | n, a :: as => by
    show (n, a) :: mk (n + 1) (as ++ [b]) = (n, a) :: (mk (n + 1) as ++ [_])
    rw [mk_append b (n + 1) as, List.length_cons]
    have : n + 1 + as.length = n + (as.length + 1) := by omega
    rw [this]
theorem mk_length : ∀ (n : Nat) (as : List Addr), (mk n as).length = as.length
  | _, [] => rfl
  | n, a :: as => congrArg Nat.succ (mk_length (n + 1) as)
theorem mk_mem : ∀ {n : Nat} {as : List Addr} {p : Addr × Addr}, p ∈ mk n as → n ≤ p.1 ∧ p.1 < n + as.length ∧ p.2 ∈ as
  | _, [], _, h => by cases h
  | n, a :: as, p, h => by
    rcases List.mem_cons.mp h with rfl | h
    · exact ⟨Nat.le_refl _, by rw [List.length_cons]; exact Nat.lt_add_of_pos_right (Nat.succ_pos _), List.mem_cons_self ..⟩
    · obtain ⟨h1, h2, h3⟩ := mk_mem h
      refine ⟨Nat.le_of_succ_le h1, ?_, List.mem_cons_of_mem _ h3⟩
      rw [List.length_cons]
      exact Nat.lt_of_lt_of_eq h2 (by omega)
theorem mk_nodup : ∀ (n : Nat) (as : List Addr), ((mk n as).map (·.1)).Nodup
  | _, [] => List.nodup_nil
  | n, a :: as => by
    refine List.nodup_cons.mpr ⟨fun h => ?_, mk_nodup (n + 1) as⟩
    obtain ⟨p, hp, e⟩ := List.mem_map.mp h
    have := (mk_mem hp).1
    rw [e] at this
    exact absurd this (Nat.not_succ_le_self _)
theorem mk_apart {n : Nat} {as : List Addr} (h : ∀ a ∈ as, a < n) : Apart (n + as.length + 2) (n + as.length) (n + as.length + 1) (mk n as) := by
  have m : ∀ p ∈ mk n as, n ≤ p.1 ∧ p.1 < n + as.length ∧ p.2 < n := fun p hp => ⟨(mk_mem hp).1, (mk_mem hp).2.1, h _ (mk_mem hp).2.2⟩
  refine ⟨by show ¬ (n + as.length = n + as.length + 2); omega, by show ¬ (n + as.length + 1 = n + as.length + 2); omega, by show ¬ (n + as.length = n + as.length + 1); omega, fun p hp => ?_, fun p hp => ?_, fun p hp => ?_, fun p hp => ?_, fun p hp => ?_, fun p hp q hq => ?_, mk_nodup n as⟩
  · exact Nat.ne_of_lt (Nat.lt_of_lt_of_le (m p hp).2.1 (by omega))
  · exact Nat.ne_of_lt (m p hp).2.1
  · exact Nat.ne_of_lt (Nat.lt_of_lt_of_le (m p hp).2.1 (by omega))
  · exact Nat.ne_of_lt (Nat.lt_of_lt_of_le (m p hp).2.2 (by omega))
  · exact Nat.ne_of_lt (Nat.lt_of_lt_of_le (m p hp).2.2 (by omega))
  · exact Nat.ne_of_lt (Nat.lt_of_lt_of_le (m p hp).2.2 (m q hq).1)
theorem newClass_zip (vs : List Value) : Builtin.SmallTypes.newClass "zip" ⟨.type "zip" :: vs, []⟩ = pure (.type "zip", vs) := by
  have hs := sub_zip
  unfold Builtin.SmallTypes.newClass
  dsimp only
  simp only [show isType (Value.type "zip") = (pure true) from rfl, hs]
  rfl
/-- what stands after a call of zip -/
structure Made (n : Nat) (as : List Addr) (h0 h : Heap) : Prop where
  st : St (n + as.length + 2) (n + as.length) (n + as.length + 1) .none (.bool false) (mk n as) [] (mk n as) 0 ((mk n as).map fun _ => Value.none) h h 0
  kp : ∀ c o, h0.get? c = some o → h.get? c = some o
  sz : h.objs.size = n + as.length + 3
theorem meets_zipN_new (as : List Addr) (l4 : as.length ≤ 4) :
    Meets (Builtin.«zip.__new__» ⟨.type "zip" :: as.map .ref, []⟩) (fun _ R s => (∀ a ∈ as, ∃ items, s.heap.IsTuple a items) ∧ ∀ h', Made s.heap.objs.size as s.heap h' →
      R (.ok (.ret (.ref (s.heap.objs.size + as.length + 2)))) { s with heap := h' }) :=
  .of_wp fun prog w A R s h => by
    obtain ⟨ht, h⟩ := h
    have l5 : ∀ n ≤ 4, n ≤ sizeLine := fun n hn => Nat.le_trans hn (by decide)
    show wpAny _ _ (Builtin.SmallTypes.newClass "zip" _ >>= _) _ _ _
    rw [newClass_zip]
    refine wpAny_bind (wpAny_pure ?_)
    dsimp only
    rw [if_neg (by decide)]
    show wpAny _ _ (Builtin.SmallTypes.iterAll _ >>= _) _ _ _
    refine wpAny_bind ?_
    unfold Builtin.SmallTypes.iterAll
    refine wpAny_bind (wpAny_forIn_list _ (fun rest b s' => ∃ h' dn td, as = dn ++ td ∧ rest = td.map .ref ∧ b = (refs (mk s.heap.objs.size dn)).toArray ∧ s' = { s with heap := h' } ∧ h'.objs.size = s.heap.objs.size + dn.length ∧
      (∀ c o, s.heap.get? c = some o → h'.get? c = some o) ∧ ∀ p ∈ mk s.heap.objs.size dn, h'.IsTupleIter p.1 p.2 0) _ ?turn ?fin _ _ ⟨s.heap, [], as, rfl, rfl, rfl, rfl, rfl, fun _ _ e => e, fun _ h => nomatch h⟩)
    case turn =>
      rintro x rest b s' ⟨h', dn, td, el, er, rfl, rfl, hz, kp, it⟩
      cases td with
      | nil => cases er
      | cons a td =>
        obtain ⟨rfl, rfl⟩ : x = .ref a ∧ rest = td.map .ref := List.cons.inj er
        obtain ⟨items, o, ho, r⟩ := ht a (by rw [el]; simp)
        refine wpAny_bind (wpAny_holding (wpAny_pyIter_tuple ⟨o, kp _ _ ho, r⟩ (wpAny_pure ?_)))
        refine ⟨_, dn ++ [a], td, by rw [el]; simp, rfl, ?_, rfl, ?_, fun c o e => Heap.get?_push_of_some _ (kp c o e), fun p hp => ?_⟩
        · rw [mk_append]
          show Array.push _ (Value.ref h'.objs.size) = _
          rw [hz]
          simp [refs]
        · rw [Heap.size_push, hz, List.length_append]
          rfl
        · rw [mk_append] at hp
          rcases List.mem_append.mp hp with hp | hp
          · exact (it p hp).at fun o e => Heap.get?_push_of_some _ e
          · have : p = (s.heap.objs.size + dn.length, a) := by simpa using hp
            subst this
            rw [← hz]
            exact ⟨_, Heap.get?_push_size _ rfl, rfl, rfl⟩
    case fin =>
      rintro b s' ⟨h', dn, td, el, er, rfl, rfl, hz, kp, it⟩
      have e0 : td = [] := by
        cases td with
        | nil => rfl
        | cons p td => cases er
      subst e0
      rw [List.append_nil] at el
      subst el
      have ll : (mk s.heap.objs.size as).length = as.length := mk_length _ _
      refine wpAny_pure ?_
      show wpAny _ _ (newTuple (refs (mk s.heap.objs.size as)) >>= _) _ _ _
      refine wpAny_bind (wpAny_newTuple ?_ (by rw [List.length_map, ll]; exact l5 _ l4))
      show wpAny _ _ (newTuple ((refs (mk s.heap.objs.size as)).map fun _ => Value.none) >>= _) _ _ _
      refine wpAny_bind (wpAny_newTuple ?_ (by rw [List.length_map, List.length_map, ll]; exact l5 _ l4))
      show wpAny _ _ (Builtin.SmallTypes.newRecord (.type "zip") _ >>= _) _ _ _
      refine wpAny_bind ?_
      unfold Builtin.SmallTypes.newRecord
      dsimp only
      refine wpAny_newObj_type (wpAny_pure ⟨_, rfl, ?_⟩) (show 5 ≤ sizeLine + 2 from Nat.le_trans (show 5 ≤ sizeLine by decide) (Nat.le_add_right _ _))
      obtain ⟨hA, eA⟩ : ∃ x, x = h'.push { cls := .type "tuple", data := .seq (refs (mk s.heap.objs.size as)).toArray } := ⟨_, rfl⟩
      obtain ⟨hB, eB⟩ : ∃ x, x = hA.push { cls := .type "tuple", data := .seq (List.map (fun _ => Value.none) (refs (mk s.heap.objs.size as))).toArray } := ⟨_, rfl⟩
      have sA : hA.objs.size = s.heap.objs.size + as.length + 1 := by rw [eA, Heap.size_push, hz]
      have sB : hB.objs.size = s.heap.objs.size + as.length + 2 := by rw [eB, Heap.size_push, sA]
      rw [← eA, ← eB, sB, sA, hz]
      have gA : hA.get? (s.heap.objs.size + as.length) = some { cls := .type "tuple", data := .seq (refs (mk s.heap.objs.size as)).toArray } := by rw [eA, ← hz]; exact Heap.get?_push_size _ rfl
      have gB : hB.get? (s.heap.objs.size + as.length + 1) = some { cls := .type "tuple", data := .seq (List.map (fun _ => Value.none) (refs (mk s.heap.objs.size as))).toArray } := by rw [eB, ← sA]; exact Heap.get?_push_size _ rfl
      refine h _ ⟨⟨?_, Heap.get?_push_of_some _ (by rw [eB]; exact Heap.get?_push_of_some _ gA), Heap.get?_push_of_some _ ?_, by rw [List.length_map], (fun _ h => nomatch h), fun p hp => ?_, rfl, fun _ _ _ _ _ e => e⟩, fun c o e => ?_, ?_⟩
      · show Heap.get? _ _ = _
        rw [← sB]
        exact Heap.get?_push_size _ rfl
      · refine gB.trans ?_
        rw [List.map_map]
        rfl
      · refine (it p hp).at fun o e => ?_
        refine Heap.get?_push_of_some _ ?_
        rw [eB, eA]
        exact Heap.get?_push_of_some _ (Heap.get?_push_of_some _ e)
      · refine Heap.get?_push_of_some _ ?_
        rw [eB, eA]
        exact Heap.get?_push_of_some _ (Heap.get?_push_of_some _ (kp c o e))
      · rw [Heap.size_push, sB]
section
variable {prog : Program} {w : World} {A : Around} {E : Value → Shared → Prop} {s : Shared}
theorem typeCall_zipN : ∀ vs : List Value, vs ≠ [] → vs.length ≤ 4 → checkTypeCall "zip" ⟨vs, []⟩ = pure ()
  | [], h, _ => absurd rfl h
  | [_], _, _ => by kernel_rfl
  | [_, _], _, _ => by kernel_rfl
  | [_, _, _], _, _ => by kernel_rfl
  | [_, _, _, _], _, _ => by kernel_rfl
  | _ :: _ :: _ :: _ :: _ :: _, _, h => absurd h (by simp)
theorem newCall_zipN : ∀ vs : List Value, vs ≠ [] → vs.length ≤ 4 → checkBuiltinCall "zip.__new__" ⟨.type "zip" :: vs, []⟩ = pure ()
  | [], h, _ => absurd rfl h
  | [_], _, _ => by kernel_rfl
  | [_, _], _, _ => by kernel_rfl
  | [_, _, _], _, _ => by kernel_rfl
  | [_, _, _, _], _, _ => by kernel_rfl
  | _ :: _ :: _ :: _ :: _ :: _, _, h => absurd h (by simp)
theorem args_initN (obj : Value) : ∀ vs : List Value, vs ≠ [] → vs.length ≤ 4 → argsOk "object.__init__" ⟨obj :: vs, []⟩
  | [], h, _ => absurd rfl h
  | [_], _, _ => by unfold argsOk; rw [signature?_of (id := "object.__init__") (n := ['_', '_', 't', 'i', 'n', 'i', '_', '_']) (o := ['t', 'c', 'e', 'j', 'b', 'o']) (by kernel_rfl) F.owner_object]; kernel_rfl
  | [_, _], _, _ => by unfold argsOk; rw [signature?_of (id := "object.__init__") (n := ['_', '_', 't', 'i', 'n', 'i', '_', '_']) (o := ['t', 'c', 'e', 'j', 'b', 'o']) (by kernel_rfl) F.owner_object]; kernel_rfl
  | [_, _, _], _, _ => by unfold argsOk; rw [signature?_of (id := "object.__init__") (n := ['_', '_', 't', 'i', 'n', 'i', '_', '_']) (o := ['t', 'c', 'e', 'j', 'b', 'o']) (by kernel_rfl) F.owner_object]; kernel_rfl
  | [_, _, _, _], _, _ => by unfold argsOk; rw [signature?_of (id := "object.__init__") (n := ['_', '_', 't', 'i', 'n', 'i', '_', '_']) (o := ['t', 'c', 'e', 'j', 'b', 'o']) (by kernel_rfl) F.owner_object]; kernel_rfl
  | _ :: _ :: _ :: _ :: _ :: _, _, h => absurd h (by simp)
theorem call_zipN {as : List Addr} {Q : Value → Shared → Prop} (ne : as ≠ []) (l4 : as.length ≤ 4) (ht : ∀ a ∈ as, ∃ items, s.heap.IsTuple a items)
    (h : ∀ h', Made s.heap.objs.size as s.heap h' → Q (.ref (s.heap.objs.size + as.length + 2)) { s with heap := h' }) :
    wpAny (model prog w) A (call (.type "zip") (as.map .ref)) Q E s := by
  have ne' : as.map Value.ref ≠ [] := fun e => ne (List.map_eq_nil_iff.mp e)
  have l4' : (as.map Value.ref).length ≤ 4 := by rw [List.length_map]; exact l4
  refine callType_new F.called_zip (by decide) (typeCall_zipN _ ne' l4') (newCall_zipN _ ne' l4') (fun obj => args_initN obj _ ne' l4') F.entry_zip_new (meets_zipN_new as l4) ⟨ht, fun h' M => ?_⟩
  exact ⟨⟨_, M.st.hz, rfl⟩, h h' M⟩
end
end ZN
/-! x in zip(*rows), the results under one name, at the hand layer -/
namespace ZS
open PySem PySem.Spec PyProof.Rows L2 ZN
/-- the column at i of the tuples at these addresses -/
def ColAt (K : PySem.W.Frag) (H : Hp) (i : Nat) : List Addr → List V → Prop
  | [], [] => True
  | a :: as, x :: col => (∃ xs, SqT K H a xs ∧ xs[i]? = some x) ∧ ColAt K H i as col
  | _, _ => False
def ItN (K : PySem.W.Frag) (as : List Addr) : It :=
  ⟨fun i H => ∃ col, ColAt K H i as col, fun i H v H' => ∃ T col, v = .ref T ∧ H T = none ∧ H' = upd H T (.tup col) ∧ ∀ c, ColAt K H i as c → c = col,
    fun i H => ∃ a rest xs, as = a :: rest ∧ SqT K H a xs ∧ xs.length ≤ i⟩
/-- a column of tuples is one of their items -/
theorem col_inj {X : Cx} {pins : List (Addr × Obj)} {σ : L2.St} {H : Hp} {s : Shared} (I : Inv X pins σ H s) {j : Nat} : ∀ {as : List Addr} {c d : List V}, ColAt X.K H j as c → ColAt X.K H j as d → c = d
  | [], [], [], _, _ => rfl
  | a :: as, x :: c, y :: d, h1, h2 => by
    obtain ⟨⟨xs, hx, ex⟩, h1⟩ := h1
    obtain ⟨⟨ys, hy, ey⟩, h2⟩ := h2
    have e := I.tuple_inj hx hy
    subst e
    rw [ex] at ey
    cases ey
    rw [col_inj I h1 h2]
  | [], _ :: _, _, h, _ => h.elim
  | [], [], _ :: _, _, h => h.elim
  | _ :: _, [], _, h, _ => h.elim
  | _ :: _, _ :: _, [], _, h => h.elim
theorem Rows.nil {h : Heap} {k : Nat} : Rows h k [] [] := ⟨rfl, fun n p e => by simp at e⟩
theorem Rows.cons {h : Heap} {k : Nat} {p : Addr × Addr} {x : Value} {l : List (Addr × Addr)} {xs : List Value} (h1 : ∃ items, h.IsTuple p.2 items ∧ items[k]? = some x) (r : Rows h k l xs) : Rows h k (p :: l) (x :: xs) := by
  refine ⟨congrArg Nat.succ r.1, fun n q e => ?_⟩
  cases n with
  | zero =>
    simp at e
    subst e
    obtain ⟨items, h2, h3⟩ := h1
    exact ⟨x, items, by simp, h2, h3⟩
  | succ n =>
    obtain ⟨y, items, h2, h3, h4⟩ := r.2 n q (by simpa using e)
    exact ⟨y, items, by simpa using h2, h3, h4⟩
theorem rows_of {X : Cx} {pins : List (Addr × Obj)} {σ : L2.St} {H : Hp} {s : Shared} (I : Inv X pins σ H s) {i : Nat} : ∀ {n : Nat} {as : List Addr} {col : List V}, ColAt X.K H i as col → ∃ us, Rows s.heap i (mk n as) us ∧ Vals col us
  | _, [], [], _ => ⟨[], Rows.nil, .nil⟩
  | n, a :: as, x :: col, h => by
    obtain ⟨⟨xs, hq, hx⟩, h2⟩ := h
    obtain ⟨us, r, v⟩ := rows_of (n := n + 1) I h2
    obtain ⟨its, rv, p, _⟩ := I.tuple hq
    obtain ⟨u, hu, ru⟩ := rv.get hx
    exact ⟨u :: us, Rows.cons ⟨its.toArray, p, by simpa using hu⟩ r, .cons ru v⟩
  | _, [], _ :: _, h => h.elim
  | _, _ :: _, [], h => h.elim
abbrev fpN (n : Nat) (as : List Addr) : List Addr := (n + as.length + 2) :: (n + as.length) :: (n + as.length + 1) :: (mk n as).map (·.1)
def tnN (n : Nat) (as : List Addr) (i : Nat) (h : Heap) : Prop := ∃ (f0 : Value) (b : Bool) (ys : List Value), (f0 = .none ∨ ∃ a : Nat, f0 = rawInt a) ∧ St (n + as.length + 2) (n + as.length) (n + as.length + 1) f0 (.bool b) (mk n as) [] (mk n as) i ys h h 0
theorem turnN {P : Program} {w : World} {K : PySem.W.Frag} {x : Str} {tpos : Pos} {n : Nat} {as : List Addr} (ne : as ≠ []) (l4 : as.length ≤ 4) (lt : ∀ a ∈ as, a < n) :
    Turn P w K (.Name x tpos) (ItN K as) (fpN n as) (n + as.length + 2) (tnN n as) where
  mem := List.mem_cons_self ..
  obj := fun i h st c hc => by
    obtain ⟨f0, b, ys, _, S⟩ := st
    rcases List.mem_cons.mp hc with rfl | hc
    · exact ⟨_, S.hz, fun v q => nomatch q⟩
    rcases List.mem_cons.mp hc with rfl | hc
    · exact ⟨_, S.hTI, fun v q => nomatch q⟩
    rcases List.mem_cons.mp hc with rfl | hc
    · exact ⟨_, S.hTO, fun v q => nomatch q⟩
    obtain ⟨p, hp, rfl⟩ := List.mem_map.mp hc
    obtain ⟨o, e, _, d⟩ := S.ht p hp
    exact ⟨o, e, fun v q => by rw [d] at q; cases q⟩
  keep := fun i h h' st k => by
    obtain ⟨f0, b, ys, hf, S⟩ := st
    refine ⟨f0, b, ys, hf, k _ (by simp) _ S.hz, k _ (by simp) _ S.hTI, k _ (by simp) _ S.hTO, S.ly, (fun _ h => nomatch h), fun q hq => (S.ht q hq).at fun o e => k q.1 ?_ o e, rfl, fun _ _ _ _ _ e => e⟩
    exact List.mem_cons_of_mem _ (List.mem_cons_of_mem _ (List.mem_cons_of_mem _ (List.mem_map_of_mem hq)))
  item := by
    intro X hP hw hK hc i pins s σ H E I hf st hg
    subst hP hw hK
    obtain ⟨f0, b, ys, hf0, S⟩ := st
    obtain ⟨col, hcol⟩ := hg
    obtain ⟨us, R, ru⟩ := rows_of (n := n) I hcol
    have ll : (mk n as).length = as.length := mk_length n as
    have lu : us.length ≤ 4 := by rw [← R.1, ll]; exact l4
    refine pyNext_zipN_item (mk_apart lt) (by rw [ll]; exact l4) (fun e => ne (by rw [← List.length_eq_zero_iff, ← ll, e]; rfl)) hf0 S R fun h' f0' b2 zs hf' S' hT => ?_
    refine ⟨_, rfl, wpAny_pure ?_⟩
    have new : ObjOk X.prog X.w (upd H s.heap.objs.size (.tup col)) h' s.heap.objs.size (.tup col) :=
      ⟨by show col.length ≤ sizeLine; rw [ru.length]; exact Nat.le_trans lu (by decide), us, ru, ⟨_, hT, rfl, _, rfl⟩⟩
    have I1 : Inv X pins σ (upd H s.heap.objs.size (.tup col)) { s with heap := h' } :=
      I.turnedNew (t' := s.toks) (ch := fpN n as) (fun c o hb q => S'.kp c o (fun q' => hb (by simp [q'])) (fun q' => hb (by simp [q'])) (fun p hp q' => hb (q' ▸ List.mem_cons_of_mem _ (List.mem_cons_of_mem _ (List.mem_cons_of_mem _ (List.mem_map_of_mem hp))))) q) hf (Nat.le_refl _) new
    refine ⟨.ref s.heap.objs.size, _, I1, rfl, ⟨_, col, rfl, I.hok.fresh (Nat.le_refl _), rfl, fun c h => col_inj I h hcol⟩, ⟨f0', b2, zs, hf', S'.hz, S'.hTI, S'.hTO, S'.ly, (fun _ h => nomatch h), S'.hd, rfl, fun _ _ _ _ _ e => e⟩, fun c hcm => ?_⟩
    have hlt : c < s.heap.objs.size := by
      rcases List.mem_cons.mp hcm with rfl | hc
      · exact Heap.lt_size S.hz
      rcases List.mem_cons.mp hc with rfl | hc
      · exact Heap.lt_size S.hTI
      rcases List.mem_cons.mp hc with rfl | hc
      · exact Heap.lt_size S.hTO
      obtain ⟨p, hp, rfl⟩ := List.mem_map.mp hc
      obtain ⟨o, e, _, d⟩ := S.ht p hp
      exact Heap.lt_size e
    rw [upd_ne (Nat.ne_of_lt hlt)]
    exact (hf c hcm).1
  done := by
    intro X hP hw hK hc i pins s σ H E I hf st hg
    subst hP hw hK
    obtain ⟨f0, b, ys, hf0, S⟩ := st
    obtain ⟨a, rest, xs, rfl, hq, hl⟩ := hg
    obtain ⟨its, rv, p, _⟩ := I.tuple hq
    have l1 := rv.length
    refine pyNext_zipN_end (p := (n, a)) (l := mk (n + 1) rest) (I.ok.hd hc) (mk_apart lt) hf0 S p (by simp; omega) fun h' hk => ⟨rfl, ?_⟩
    exact I.turnedL (t' := s.toks) (ch := fpN n (a :: rest)) (fun c o hb q => hk c o (fun q' => hb (by rw [q']; simp)) (fun q' => hb (by rw [q']; simp))
      (fun p hp q' => hb (q' ▸ List.mem_cons_of_mem _ (List.mem_cons_of_mem _ (List.mem_cons_of_mem _ (List.mem_map_of_mem hp))))) q) hf
  self := fun A i s Q E st h => by
    obtain ⟨f0, b, ys, _, S⟩ := st
    exact wpAny_pyIter_zipN S.hz h
def iZipS (K : PySem.W.Frag) (te : TE) : TI := fun σ H R => te σ H fun x H1 => ∃ (a : Addr) (as : List Addr), x = .ref a ∧ SqT K H1 a (as.map V.ref) ∧ as ≠ [] ∧ as.length ≤ 4 ∧ (∀ b ∈ as, ∃ xs, SqT K H1 b xs) ∧ R (ItN K as) H1
theorem vals_refs : ∀ {as : List Addr} {us : List Value}, Vals (as.map V.ref) us → us = as.map Value.ref
  | [], _, .nil => rfl
  | a :: as, _, .cons h r => by
    obtain rfl := vals_refs r
    have h' : _ = Value.ref a := h
    subst h'
    rfl
theorem pi_zipS {X : Cx} {e : Expr} {te : TE} {p pos tpos sp_ : Pos} {x : Str} (hg : Gl X "zip") (hm : X.mg "zip" = none) (he : PE X e te)
    (hst : starEach [.Starred e sp_] X.env = [(true, eval e X.env)] := by rfl) :
    PI X (.Name x tpos) (.Call (.Name "zip" p) [.Starred e sp_] [] pos) (iZipS X.K te) := by
  refine ⟨fun pins s σ H R I h => ?_⟩
  refine Call_ (ld_blt I hg hm PyProof.Rows.boot_zip ?_)
  rw [hst]
  refine PySem.W.ks_call (P := fun _ => True) rfl (fun h _ => ⟨.machine, .inr (.inl rfl), PySem.W.Looks.of_pure rfl⟩) (PySem.W.ks_lone (thn (he.run pins s σ H _ I h) fun v s1 ⟨y, H1, I1, ry, a, as, ey, hq, ne, l4, hr, q⟩ => ?_))
  subst ey
  obtain rfl : v = Value.ref a := ry
  refine StX.star_any I1 (.inl hq) fun us s2 I2 rv => ⟨trivial, ?_⟩
  obtain rfl := vals_refs rv
  have ht : ∀ b ∈ as, ∃ items, s2.heap.IsTuple b items := fun b hb => by
    obtain ⟨xs, h1⟩ := hr b hb
    obtain ⟨its, _, pl, _⟩ := I2.tuple h1
    exact ⟨its.toArray, pl⟩
  have lt : ∀ b ∈ as, b < s2.heap.objs.size := fun b hb => by
    obtain ⟨items, o, ho, _⟩ := ht b hb
    exact Heap.lt_size ho
  refine call_zipN ne l4 ht fun h' M => wpAny_pyIter_zipN M.st.hz ?_
  have I3 : Inv X pins σ H1 { s2 with heap := h' } := I2.kept (t' := s2.toks) M.kp
  refine ⟨_, fpN s2.heap.objs.size as, tnN s2.heap.objs.size as, ItN X.K as, H1, rfl, I3, turnN ne l4 lt, ⟨_, _, _, .inl rfl, M.st⟩, fun b hb => ?_, q⟩
  have hle : s2.heap.objs.size ≤ b := by
    rcases List.mem_cons.mp hb with rfl | hb
    · exact Nat.le_trans (Nat.le_add_right _ _) (Nat.le_add_right _ _)
    rcases List.mem_cons.mp hb with rfl | hb
    · exact Nat.le_add_right _ _
    rcases List.mem_cons.mp hb with rfl | hb
    · exact Nat.le_trans (Nat.le_add_right _ _) (Nat.le_add_right _ _)
    obtain ⟨p, hp, rfl⟩ := List.mem_map.mp hb
    exact (mk_mem hp).1
  exact I2.fpOk hle (I2.hok.fresh hle)
end ZS
/-! sum of a tuple of ints; a walk over zip of rows -/
namespace LT
open PySem PySem.Spec PyProof.Rows L2
section
variable {prog : Program} {w : World} {A : Around} {E : Value → Shared → Prop} {s : Shared}
theorem sumT_raw {t : Addr} {vs : List Value} {ns : List Int} {Q : Value → Shared → Prop} (hh : A.handled = none) (hl : s.heap.IsTuple t vs.toArray) (hi : IntsAre vs ns)
    (h : ∀ h' tk t', (∀ b o, s.heap.get? b = some o → h'.get? b = some o) → Q (.int ns.sum t') { s with heap := h', toks := tk }) :
    wpAny (model prog w) A (call (.builtin "sum") [.ref t]) Q E s := by
  obtain ⟨xs, hx⟩ := hi.allInts.items
  have hn : numsOf vs.toArray.toList = ns := by rw [show vs.toArray.toList = vs from rfl, hi.numsOf]
  rw [hx] at hl hn
  rw [nums_intItems] at hn
  refine PySem.W.ktm_sumG hh hl fun h' tk t' hk => ?_
  have := h h' tk t' hk
  rw [preSum_eq, List.take_of_length_le (by simp), hn]
  exact this
end
section
variable {X : Cx}
def rSumT (K : PySem.W.Frag) : List V → Hp → VK → Prop := fun vs H Q => ∃ (a : Addr) (ns : List Int), vs = [V.ref a] ∧ SqT K H a (ns.map V.int) ∧ Q (.int ns.sum) H
theorem cr_sumT (hc : X.calm = true) : CallR X (.builtin "sum") (rSumT X.K) := by
  intro pins s σ H vs us Q I r h
  obtain ⟨a, ns, rfl, hs, q⟩ := h
  obtain ⟨its, rv, hl, _⟩ := I.tuple hs
  rw [Vals.ref1 r]
  exact sumT_raw (I.ok.hd hc) hl rv.ints fun h' tk t' hk => ⟨.int _, H, I.kept hk, ⟨_, rfl⟩, q⟩
end
end LT
namespace F02
open PySem PySem.Spec PyProof.Rows L2 MG SP LT
theorem FunD.okN {P : Program} {w : World} {K : PySem.W.Frag} {mg : Str → Option Value} {base : Heap} {x qual : Str} {params : Arguments} {body : List Stmt} {scope : Scope} {dvs : List V} {kws : List (Str × V)} {f : Addr} {fd : FuncData} {N ps : List Str} {k : Nat} {sp : Sp}
    (F : FunD K x qual params body scope dvs kws f fd) (S : FnScope N ps scope) (len : ∀ vs H Q E, sp vs H Q E → vs.length = ps.length)
    (hbody : ∀ (cdv : Value) (A : Around) (outer : List Env) (s : Shared) (H : Hp) (vs : List V) (Q : VK) (E : XK), Room k (A.deeper (envOfC qual scope s.heap.objs.size f cdv)) → sp vs H Q E →
      ∃ t, PSs (cxOf CX0 P w K mg base N qual scope f cdv A outer s H E).nox body t ∧ t { nx := fun _ H' => Q .non H', rt := Q } (start N vs) H) : FnOk P w K mg base CX0 (k + 1) f fd ps sp :=
  F.ok S len fun cdv A outer s H vs Q E hr hsp => by
    obtain ⟨t, h, q⟩ := hbody cdv A outer s H vs Q E hr hsp
    exact ⟨t, h.nox, q⟩
/-! ### tables of meetings -/
abbrev Grid := List (List Int)
def rowD (r : List Int) : PyData := .tuple (r.map PyData.int)
def gridD (g : Grid) : PyData := .tuple (g.map rowD)
structure Gridish (g : Grid) (m n : Nat) : Prop where
  rows : g.length = m
  cols : ∀ r ∈ g, r.length = n
  least : ∀ r ∈ g, ∀ x ∈ r, 0 ≤ x
  most : ∀ r ∈ g, ∀ x ∈ r, x ≤ 1000000000000000000000000000000
section
variable {K : PySem.W.Frag} {H H' : Hp}
theorem im_ints {H : Hp} : ∀ {xs : List V} {ns : List Int}, ImAll K H xs (ns.map PyData.int) → xs = ns.map V.int
  | _, [], .nil => rfl
  | _, n :: ns, .cons h r => by
    cases h
    rw [im_ints r]
    rfl
theorem im_row {v : V} {r : List Int} (h : Im K H v (rowD r)) : ∃ a, v = .ref a ∧ SqT K H a (r.map V.int) := by
  cases h with
  | tup h1 h2 =>
    rw [im_ints h2] at h1
    exact ⟨_, rfl, h1⟩
theorem im_of_ints {H : Hp} : ∀ ns : List Int, ImAll K H (ns.map V.int) (ns.map PyData.int)
  | [] => .nil
  | n :: ns => .cons (.int n) (im_of_ints ns)
theorem im_of_row {a : Addr} {r : List Int} (h : SqT K H a (r.map V.int)) : Im K H (.ref a) (rowD r) := .tup h (im_of_ints r)
/-- the rows of a table, at their addresses -/
def RowsAt (K : PySem.W.Frag) (H : Hp) : List Addr → Grid → Prop
  | [], [] => True
  | a :: as, r :: g => SqT K H a (r.map V.int) ∧ RowsAt K H as g
  | _, _ => False
theorem im_rows : ∀ {vs : List V} {g : Grid}, ImAll K H vs (g.map rowD) → ∃ as, vs = as.map V.ref ∧ RowsAt K H as g
  | _, [], .nil => ⟨[], rfl, trivial⟩
  | _, r :: g, .cons h t => by
    obtain ⟨a, rfl, ha⟩ := im_row h
    obtain ⟨as, rfl, has⟩ := im_rows t
    exact ⟨a :: as, rfl, ha, has⟩
theorem im_grid {v : V} {g : Grid} (h : Im K H v (gridD g)) : ∃ a as, v = .ref a ∧ SqT K H a (as.map V.ref) ∧ RowsAt K H as g := by
  cases h with
  | tup h1 h2 =>
    obtain ⟨as, rfl, h3⟩ := im_rows h2
    exact ⟨_, as, rfl, h1, h3⟩
theorem RowsAt.to (t : Tk H H') : ∀ {as : List Addr} {g : Grid}, RowsAt K H as g → RowsAt K H' as g
  | [], [], _ => trivial
  | _ :: _, _ :: _, h => ⟨t.sq h.1, RowsAt.to t h.2⟩
  | [], _ :: _, h => h.elim
  | _ :: _, [], h => h.elim
theorem RowsAt.length : ∀ {as : List Addr} {g : Grid}, RowsAt K H as g → as.length = g.length
  | [], [], _ => rfl
  | _ :: _, _ :: _, h => congrArg Nat.succ (RowsAt.length h.2)
  | [], _ :: _, h => h.elim
  | _ :: _, [], h => h.elim
theorem RowsAt.mem : ∀ {as : List Addr} {g : Grid}, RowsAt K H as g → ∀ b ∈ as, ∃ xs, SqT K H b xs
  | [], [], _, _, hb => nomatch hb
  | a :: _, r :: _, h, b, hb => by
    rcases List.mem_cons.mp hb with rfl | hb
    · exact ⟨_, h.1⟩
    · exact RowsAt.mem h.2 b hb
  | [], _ :: _, h, _, _ => h.elim
  | _ :: _, [], h, _, _ => h.elim
theorem RowsAt.get : ∀ {as : List Addr} {g : Grid} {i : Nat} {r : List Int}, RowsAt K H as g → g[i]? = some r → ∃ a, as[i]? = some a ∧ SqT K H a (r.map V.int)
  | a :: _, r :: _, 0, _, h, e => by simp at e; subst e; exact ⟨a, rfl, h.1⟩
  | _ :: _, _ :: _, i + 1, _, h, e => RowsAt.get (i := i) h.2 (by simpa using e)
  | [], [], _, _, _, e => by simp at e
  | [], _ :: _, _, _, h, _ => h.elim
  | _ :: _, [], _, _, h, _ => h.elim
/-- what is told of a column -/
def colL (g : Grid) (j : Nat) : List Int := g.map fun r => r.getD j 0
theorem col_at {j n : Nat} (hj : j < n) : ∀ {as : List Addr} {g : Grid}, RowsAt K H as g → (∀ r ∈ g, r.length = n) → ZS.ColAt K H j as ((colL g j).map V.int)
  | [], [], _, _ => trivial
  | a :: as, r :: g, h, hc => by
    refine ⟨⟨_, h.1, ?_⟩, col_at hj h.2 fun x hx => hc x (List.mem_cons_of_mem _ hx)⟩
    have hl := hc r (List.mem_cons_self ..)
    show _ = some (V.int (r.getD j 0))
    rw [List.getElem?_map, List.getD_eq_getElem?_getD, List.getElem?_eq_getElem (by omega)]
    rfl
  | [], _ :: _, h, _ => h.elim
  | _ :: _, [], h, _ => h.elim
end
end F02
namespace F02
open PySem PySem.Spec PyProof.Rows L2 MG SP LT
section
variable {P : Program} {w : World} {K : PySem.W.Frag} {mg : Str → Option Value} {base : Heap}
/-! ### ceiling -/
abbrev s_ceiling : Stmt := top 31
theorem sc_ceiling : FnScope ["number", "by"] ["number", "by"] (defScope s_ceiling) := ⟨rfl, rfl, rfl, by decide +kernel, rfl, by decide +kernel, by decide +kernel⟩
def sp_ceiling : Sp := fun vs H Q _ => ∃ a b : Int, vs = [.int a, .int b] ∧ 0 < b ∧ b ≤ 100000000000000000000000000000000 ∧ Q (.int (-((-a) / b))) H
theorem ok_ceiling {f : Addr} {fd : FuncData} (F : Fun K "ceiling" "ceiling" s_ceiling f fd) : FnOk P w K mg base CX0 1 f fd ["number", "by"] sp_ceiling := by
  refine F.ok sc_ceiling (fun vs H Q E h => ?_) (fun cdv A outer s H vs Q E hr h => ?_)
  · obtain ⟨a, b, rfl, _⟩ := h
    rfl
  · obtain ⟨a, b, rfl, b0, b1, k⟩ := h
    refine ⟨_, (pss_one (ps_ret (pe_un un_neg (pe_op op_fdivW (pe_un un_neg (pv 0)) (pv 1))))), ?_⟩
    exact ⟨_, rfl, a, rfl, _, rfl, _, _, rfl, rfl, wide_div (b := 128) b0 (wide_le (by omega) b1 (by decide +kernel)) (by decide) (by decide), _, rfl, k⟩
/-! ### _is_row -/
abbrev s_is_row : Stmt := top 27
theorem sc_is_row : FnScope ["value", "guests", "most", "number"] ["value", "guests", "most"] (defScope s_is_row) := ⟨rfl, rfl, rfl, by decide +kernel, rfl, by decide +kernel, by decide +kernel⟩
def sp_is_row (K : PySem.W.Frag) : Sp := fun vs H Q _ => ∃ (v : V) (r : List Int) (m : Int), vs = [v, .int (r.length : Nat), .int m] ∧ Im K H v (rowD r) ∧ r.length ≤ 8 ∧ (∀ x ∈ r, 0 ≤ x ∧ x ≤ m) ∧ ∀ H', Same H H' → Q (.bl true) H'
structure TxRo (K : PySem.W.Frag) (mg : Str → Option Value) (f_is_integer : Addr) : Prop where
  n_isinstance : mg "isinstance" = none
  n_tuple : mg "tuple" = none
  n_len : mg "len" = none
  n_all : mg "all" = none
  g_is_integer : mg "is_integer" = some (.ref f_is_integer)
  k_is_integer : PySem.W.keepIn K (.ref f_is_integer) = true
theorem ok_is_row {f f_is_integer : Addr} {fd fd_is_integer : FuncData} (F : Fun K "_is_row" "_is_row" s_is_row f fd) (T : TxRo K mg f_is_integer)
    (G_is_integer : FnOk P w K mg base CX0 1 f_is_integer fd_is_integer ["value", "least", "most"] sp_is_integer) (b_is_integer : Binds K fd_is_integer ["value", "least", "most"] []) :
    FnOk P w K mg base CX0 2 f fd ["value", "guests", "most"] (sp_is_row K) := by
  refine F.ok sc_is_row (fun vs H Q E h => ?_) (fun cdv A outer s H vs Q E hr h => ?_)
  · obtain ⟨v, r, m, rfl, _⟩ := h
    rfl
  · obtain ⟨v, r, m, rfl, hv, hl, hb, k⟩ := h
    obtain ⟨a, rfl, ha⟩ := im_row hv
    refine ⟨_, (pss_cons (ps_if (PW.pt (pw_or (pt_not (pt_val (pe_callB call_isi (by rfl) T.n_isinstance (by decide +kernel) (pa_cons (pv 0) (pa_cons (pe_bltn (v := .ty "tuple") (by rfl) T.n_tuple (by decide +kernel) rfl) pa_nil))))) (pw_or1 (pt_cmpR op_ne (pe_callB call_len_seq (by rfl) T.n_len PySem.boot_len (pa_cons (pv 0) pa_nil)) (pv 1) (nomark _)))))
        (pss_one (ps_ret pe_bl))
        pss_nil)
      (pss_one (ps_ret (pe_callB (cr_all rfl) (by rfl) T.n_all (by decide +kernel) (pa_cons (pe_lc (own := [("number", 3)]) (g := gName 3) (tt := tYes) rfl sc_is_row.nd (pi_tup (pv 0)) (blkOk_by (own := [("number", 3)]) (N := ["value", "guests", "most", "number"]) (sc := defScope s_is_row) (by decide +kernel)) (fun _ _ _ _ _ => (pg_name (i := 3) sc_is_row.nd rfl (Or.inl rfl))) (fun _ _ _ _ _ => pts_nil) (fun _ _ _ _ _ => (pe_call G_is_integer hr rfl T.g_is_integer T.k_is_integer b_is_integer .nil pass0 (pa_cons (pv 3) (pa_cons pe_int (pa_cons (pv 2) pa_nil)))))) pa_nil))))), ?_⟩
    refine seq_if (b := false) (fun Q' q' => ?_) (fun c => by cases c) (fun _ => ?_)
    · refine ⟨_, rfl, .ref a, .ty "tuple", _, _, true, rfl, .ty "tuple", ty_tup ha, kit_ty (by decide +kernel), _, rfl, ?_⟩
      refine iteF ⟨_, rfl, a, _, rfl, .inr ha, _, rfl, rfl, _, rfl, ?_⟩
      rw [List.length_map, decide_eq_true rfl]
      exact q'
    · refine ⟨_, rfl, a, rfl, ⟨_, ha⟩, fun D nD => ?_⟩
      refine lc_tup (K := K) (a := a) (xs := r.map V.int) (fun j G => G D = some (.lst (List.replicate j (V.bl true))) ∧ Same H G) ⟨upd_same, same_new (Same.refl H) nD⟩ (fun j G _ z => (Tk.same z.2).sq ha) ?_ ?_
      · rintro j y G hy ⟨z1, z2⟩
        obtain ⟨x, hx, rfl⟩ : ∃ x, r[j]? = some x ∧ y = .int x := by
          rw [List.getElem?_map] at hy
          cases e : r[j]? with
          | none => rw [e] at hy; cases hy
          | some u => rw [e] at hy; exact ⟨u, rfl, (Option.some.inj hy).symm⟩
        have hj : j < r.length := (List.getElem?_eq_some_iff.mp hx).1
        have hb' := hb x (List.mem_of_getElem? hx)
        refine ⟨rfl, ?_⟩
        refine tyes ?_
        refine iteT ?_
        refine ⟨_, rfl, _, rfl, x, 0, m, rfl, ?_⟩
        rw [decide_eq_true hb'.1, decide_eq_true hb'.2]
        refine ⟨_, z1, ?_, ?_, ?_⟩
        · rw [List.length_replicate]
          exact Nat.lt_of_lt_of_le (show _ < 100 by omega) (by decide)
        · show (upd G D _) D = _
          rw [upd_same, List.replicate_succ']
          rfl
        · intro c o hc
          rw [upd_ne (ne_of_none hc nD)]
          exact z2 c o hc
      · rintro G ⟨z1, z2⟩
        refine ⟨D, List.replicate r.length true, rfl, SqL.of ?_, ?_⟩
        · rw [z1, List.length_map, List.map_replicate]
        · have e : (List.replicate r.length true).all id = true := by
            rw [List.all_eq_true]
            intro x hx
            rw [(List.mem_replicate.mp hx).2]
            rfl
          rw [e]
          exact k G z2
/-! ### table_fault -/
abbrev s_table_fault : Stmt := top 28
theorem sc_table_fault : FnScope ["value", "hosts", "guests", "most", "index", "row"] ["value", "hosts", "guests", "most"] (defScope s_table_fault) := ⟨rfl, rfl, rfl, by decide +kernel, rfl, by decide +kernel, by decide +kernel⟩
abbrev FIT (K : PySem.W.Frag) (f : Addr) (fd : FuncData) : Prop := FunD K "table_fault" "table_fault" (defArgs s_table_fault) (defBody s_table_fault) (defScope s_table_fault) [.non] [] f fd
theorem b_table_fault4 {K : PySem.W.Frag} {f : Addr} {fd : FuncData} (F : FIT K f fd) : Binds K fd ["value", "hosts", "guests", "most"] [] := by
  obtain ⟨ds, r, h⟩ := F.binds1 (ps := ["value", "hosts", "guests", "most"]) 4 1 (by simp) rfl (fun T kV doc pm an cdv ct us its l1 l2 => by
    obtain ⟨a, b, c, d, rfl⟩ : ∃ a b c d, us = [a, b, c, d] := by
      match us, l1 with
      | [a, b, c, d], _ => exact ⟨a, b, c, d, rfl⟩
    obtain ⟨e, rfl⟩ : ∃ e, its = [e] := by
      match its, l2 with
      | [e], _ => exact ⟨e, rfl⟩
    exact ⟨_, rfl, rfl⟩)
  cases r
  exact h
/-- a right table: nothing is wrong -/
def sp_table_fault (K : PySem.W.Frag) : Sp := fun vs H Q _ => ∃ (v : V) (g : Grid) (n : Nat) (mo : Int), vs = [v, .int (g.length : Nat), .int (n : Nat), .int mo] ∧ Im K H v (gridD g) ∧ g.length ≤ 4 ∧ n ≤ 4 ∧ (∀ r ∈ g, r.length = n) ∧ (∀ r ∈ g, ∀ x ∈ r, 0 ≤ x ∧ x ≤ mo) ∧
  ∀ p H', Same H H' → H' p = some (.tup []) → Q (.ref p) H'
structure TxTf (K : PySem.W.Frag) (mg : Str → Option Value) (f_is_row : Addr) : Prop where
  n_isinstance : mg "isinstance" = none
  n_tuple : mg "tuple" = none
  n_len : mg "len" = none
  n_enumerate : mg "enumerate" = none
  g_is_row : mg "_is_row" = some (.ref f_is_row)
  k_is_row : PySem.W.keepIn K (.ref f_is_row) = true
theorem ok_table_fault {f f_is_row : Addr} {fd fd_is_row : FuncData} (F : FIT K f fd) (T : TxTf K mg f_is_row)
    (G_is_row : FnOk P w K mg base CX0 2 f_is_row fd_is_row ["value", "guests", "most"] (sp_is_row K)) (b_is_row : Binds K fd_is_row ["value", "guests", "most"] []) :
    FnOk P w K mg base CX0 3 f fd ["value", "hosts", "guests", "most"] (sp_table_fault K) := by
  refine FunD.okN F sc_table_fault (fun vs H Q E h => ?_) (fun cdv A outer s H vs Q E hr h => ?_)
  · obtain ⟨v, g, n, mo, rfl, _⟩ := h
    rfl
  · obtain ⟨v, g, n, mo, rfl, iv, g4, n4, hc, hb, k⟩ := h
    obtain ⟨a, as, rfl, ha, hr'⟩ := im_grid iv
    have la : as.length = g.length := hr'.length
    refine ⟨_, (pss_cons (ps_if (PW.pt (pw_or (pt_not (pt_val (pe_callB call_isi (by rfl) T.n_isinstance (by decide +kernel) (pa_cons (pv 0) (pa_cons (pe_bltn (v := .ty "tuple") (by rfl) T.n_tuple (by decide +kernel) rfl) pa_nil))))) (pw_or1 (pt_cmpR op_ne (pe_callB call_len_seq (by rfl) T.n_len PySem.boot_len (pa_cons (pv 0) pa_nil)) (pv 1) (nomark _)))))
        (pss_one (ps_ret (pe_tup (pa_cons pe_non pa_nil))))
        pss_nil)
      (pss_cons (ps_for PassesOwn.never rfl (pi_enumT (by rfl) T.n_enumerate (pa_cons (pv 0) pa_nil)) (pg_tup rfl (pgs_cons (pg_name (i := 4) sc_table_fault.nd rfl (Or.inl rfl)) (pgs_cons (pg_name (i := 5) sc_table_fault.nd rfl (Or.inl rfl)) pgs_nil)))
        (pss_one (ps_if (pt_not (pt_val (pe_call G_is_row hr rfl T.g_is_row T.k_is_row b_is_row .nil pass0 (pa_cons (pv 5) (pa_cons (pv 2) (pa_cons (pv 3) pa_nil))))))
        (pss_one (ps_ret (pe_tup (pa_cons (pv 4) pa_nil))))
        pss_nil)))
      (pss_one (ps_ret (pe_tup pa_nil))))), ?_⟩
    refine seq_if (b := false) (fun Q' q' => ?_) (fun c => by cases c) (fun _ => ?_)
    · refine ⟨_, rfl, .ref a, .ty "tuple", _, _, true, rfl, .ty "tuple", ty_tup ha, kit_ty (by decide +kernel), _, rfl, ?_⟩
      refine iteF ⟨_, rfl, a, _, rfl, .inr ha, _, rfl, rfl, _, rfl, ?_⟩
      rw [List.length_map, la, decide_eq_true rfl]
      exact q'
    · refine ⟨_, rfl, a, _, rfl, ha, ?_⟩
      refine for_it walk_enumT (fun i σ G => ∃ v4 v5 : Option V, σ = [some (.ref a), some (.int (g.length : Nat)), some (.int (n : Nat)), some (.int mo), v4, v5] ∧ Same H G)
        ⟨none, none, rfl, Same.refl H⟩ (fun i σ G _ ⟨_, _, _, sG⟩ => (Tk.same sG).sq ha) ?_ ?_
      · rintro i _ σ G _ hi ⟨v4, v5, rfl, sG⟩ ⟨T', x, y, rfl, nT, rfl, ex, ey⟩
        have ex' : x = .int (i : Nat) := (Option.some.inj ex).symm
        subst ex'
        have hig : i < g.length := by rw [List.length_map, la] at hi; exact hi
        obtain ⟨b, hb', hsb⟩ := hr'.get (List.getElem?_eq_getElem hig)
        obtain rfl : y = .ref b := by
          have ey' : (as.map V.ref)[i]? = some y := ey
          rw [List.getElem?_map, hb'] at ey'
          exact (Option.some.inj ey').symm
        have mem : g[i] ∈ g := List.getElem_mem hig
        have s1 := same_new (o := .tup [.int (i : Nat), .ref b]) sG nT
        refine ⟨T', _, rfl, SqT.of upd_same, rfl, _, _, rfl, _, _, rfl, rfl, ?_⟩
        refine ⟨_, rfl, _, rfl, _, rfl, .ref b, g[i], mo, by rw [hc _ mem]; rfl, im_of_row ((Tk.same s1).sq hsb), by rw [hc _ mem]; omega, hb _ mem, fun X sX => ⟨_, rfl, iteF ⟨_, _, rfl, s1.trans sX⟩⟩⟩
      · rintro σ G ⟨v4, v5, rfl, sG⟩
        exact ⟨Nat.zero_le _, fun p np => k p _ (same_new sG np) upd_same⟩
end
end F02
namespace F02
open PySem PySem.Spec PyProof.Rows L2 MG SP LT
/-! ### lines -/
def colsL (g : Grid) (n : Nat) : List Int := (List.range n).map fun j => (colL g j).sum
def sumsL (g : Grid) : List Int := g.map List.sum
def linesL (g : Grid) (n : Nat) : List Int := sumsL g ++ g.flatten ++ colsL g n ++ [(sumsL g).sum]
theorem flat_len {n : Nat} : ∀ {g : Grid}, (∀ r ∈ g, r.length = n) → g.flatten.length = g.length * n
  | [], _ => by simp
  | r :: g, h => by
    rw [List.flatten_cons, List.length_append, h r (List.mem_cons_self ..), flat_len fun x hx => h x (List.mem_cons_of_mem _ hx), List.length_cons, Nat.add_mul, Nat.one_mul, Nat.add_comm]
theorem walk_zipS {K : PySem.W.Frag} {as : List Addr} {g : Grid} {n : Nat} (ne : as ≠ []) (hc : ∀ r ∈ g, r.length = n) :
    Walk (ZS.ItN K as) n (fun H => RowsAt K H as g) (fun i H v H' => ∃ T, v = .ref T ∧ H T = none ∧ H' = upd H T (.tup ((colL g i).map V.int))) where
  goes := fun i H hi q => ⟨_, col_at hi q hc⟩
  stops := fun H q => by
    cases as with
    | nil => exact absurd rfl ne
    | cons a as =>
      cases g with
      | nil => exact q.elim
      | cons r g => exact ⟨a, as, _, rfl, q.1, by rw [List.length_map, hc r (List.mem_cons_self ..)]; exact Nat.le_refl _⟩
  yields := fun i H v H' hi q y => by
    obtain ⟨T, col, h1, h2, h3, h4⟩ := y
    have := h4 _ (col_at hi q hc)
    subst this
    exact ⟨T, h1, h2, h3⟩
theorem row_at {K : PySem.W.Frag} {H : Hp} {as : List Addr} {g : Grid} {j : Nat} {y : V} (h : RowsAt K H as g) (hy : (as.map V.ref)[j]? = some y) : ∃ r b, g[j]? = some r ∧ y = .ref b ∧ SqT K H b (r.map V.int) := by
  have hj : j < g.length := by
    have := (List.getElem?_eq_some_iff.mp hy).1
    rw [List.length_map, h.length] at this
    exact this
  obtain ⟨b, eb, hb⟩ := h.get (List.getElem?_eq_getElem hj)
  rw [List.getElem?_map, eb] at hy
  exact ⟨_, b, List.getElem?_eq_getElem hj, (Option.some.inj hy).symm, hb⟩
section
variable {P : Program} {w : World} {K : PySem.W.Frag} {mg : Str → Option Value} {base : Heap}
abbrev s_lines_of : Stmt := top 29
theorem sc_lines_of : FnScope ["table", "rows", "numbers", "columns", "row", "number", "column"] ["table"] (defScope s_lines_of) := ⟨rfl, rfl, rfl, by decide +kernel, rfl, by decide +kernel, by decide +kernel⟩
def sp_lines_of (K : PySem.W.Frag) : Sp := fun vs H Q _ => ∃ (v : V) (g : Grid) (n : Nat), vs = [v] ∧ Im K H v (gridD g) ∧ g ≠ [] ∧ g.length ≤ 4 ∧ n ≤ 4 ∧ (∀ r ∈ g, r.length = n) ∧
  ∀ p H', H p = none → Same H H' → H' p = some (.lst ((linesL g n).map V.int)) → Q (.ref p) H'
structure TxLi (mg : Str → Option Value) : Prop where
  n_sum : mg "sum" = none
  n_zip : mg "zip" = none
theorem ok_lines_of {f : Addr} {fd : FuncData} (F : Fun K "lines_of" "lines_of" s_lines_of f fd) (T : TxLi mg) : FnOk P w K mg base CX0 1 f fd ["table"] (sp_lines_of K) := by
  refine F.ok sc_lines_of (fun vs H Q E h => ?_) (fun cdv A outer s H vs Q E hr h => ?_)
  · obtain ⟨v, g, n, rfl, _⟩ := h
    rfl
  · obtain ⟨v, g, n, rfl, iv, gne, g4, n4, hc, k⟩ := h
    obtain ⟨a, as, rfl, ha, hr'⟩ := im_grid iv
    have la : as.length = g.length := hr'.length
    have ane : as ≠ [] := fun e => gne (by rw [← List.length_eq_zero_iff, ← la, e]; rfl)
    refine ⟨_, (pss_cons (ps_setLc (i := 1) (own := [("row", 4)]) (g := gName 4) (tt := tYes) rfl sc_lines_of.nd rfl rfl (sw_true rfl rfl rfl (by decide +kernel)) (pi_tup (pv 0)) (blkOk_by (own := [("row", 4)]) (N := ["table", "rows", "numbers", "columns", "row", "number", "column"]) (sc := defScope s_lines_of) (by decide +kernel)) (fun _ _ _ _ _ => (pg_name (i := 4) sc_lines_of.nd rfl (Or.inl rfl))) (fun _ _ _ _ _ => pts_nil) (fun _ _ _ _ _ => (pe_callB (id := "sum") (r := rSumT K) (cr_sumT rfl) (by rfl) T.n_sum (by decide +kernel) (pa_cons (pv 4) pa_nil))))
      (pss_cons (ps_setLc2 (i := 2) (own := [("row", 4), ("number", 5)]) (vs1 := [5]) (g := gName 4) (g1 := gName 5) (wi1 := iTup K (tVar 4)) (te := tVar 5) (tt := tYes) (tt1 := tYes) rfl sc_lines_of.nd rfl rfl (sw_true rfl rfl rfl (by decide +kernel)) (pi_tup (pv 0)) (blkOk_by (own := [("row", 4), ("number", 5)]) (N := ["table", "rows", "numbers", "columns", "row", "number", "column"]) (sc := defScope s_lines_of) (by decide +kernel)) (by simp) (fun _ _ _ _ _ => (pg_name (i := 4) sc_lines_of.nd rfl (Or.inl rfl))) (fun _ _ _ _ _ => pts_nil) (fun _ _ _ _ _ => pi_tup (pv 4)) (fun _ _ _ _ _ => (pg_name (i := 5) sc_lines_of.nd rfl (Or.inl rfl))) (fun _ _ _ _ _ => pts_nil) (fun _ _ _ _ _ => (pv 5)))
      (pss_cons (ps_setLc (i := 3) (own := [("column", 6)]) (g := gName 6) (tt := tYes) rfl sc_lines_of.nd rfl rfl (sw_true rfl rfl rfl (by decide +kernel)) (ZS.pi_zipS (by rfl) T.n_zip (pv 0)) (blkOk_by (own := [("column", 6)]) (N := ["table", "rows", "numbers", "columns", "row", "number", "column"]) (sc := defScope s_lines_of) (by decide +kernel)) (fun _ _ _ _ _ => (pg_name (i := 6) sc_lines_of.nd rfl (Or.inl rfl))) (fun _ _ _ _ _ => pts_nil) (fun _ _ _ _ _ => (pe_callB (id := "sum") (r := rSumT K) (cr_sumT rfl) (by rfl) T.n_sum (by decide +kernel) (pa_cons (pv 6) pa_nil))))
      (pss_one (ps_ret (pe_op op_cat (pe_op op_cat (pe_op op_cat (pv 1) (pv 2)) (pv 3)) (pe_lst (pa_cons (pe_callB (cr_sum rfl) (by rfl) T.n_sum (by decide +kernel) (pa_cons (pv 1) pa_nil)) pa_nil)))))))), ?_⟩
    refine ⟨_, rfl, a, rfl, ⟨_, ha⟩, fun D1 nD1 => ?_⟩
    refine lc_tup (K := K) (a := a) (xs := as.map V.ref) (fun j G => G D1 = some (.lst ((sumsL (g.take j)).map V.int)) ∧ Same H G) ⟨upd_same, same_new (Same.refl H) nD1⟩ (fun j G _ z => (Tk.same z.2).sq ha) ?_ ?_
    · rintro j y G hy ⟨z1, z2⟩
      obtain ⟨r, b, hr1, rfl, hb⟩ := row_at hr' hy
      have hj : j < g.length := (List.getElem?_eq_some_iff.mp hr1).1
      refine ⟨rfl, tyes (iteT ⟨_, rfl, b, r, rfl, (Tk.same z2).sq hb, _, z1, ?_, ?_, ?_⟩)⟩
      · rw [List.length_map, sumsL, List.length_map, List.length_take]
        exact Nat.lt_of_lt_of_le (show _ < 100 by omega) (by decide)
      · show (upd G D1 _) D1 = _
        have e1 : g.take (j + 1) = g.take j ++ [r] := by rw [List.take_add_one, hr1]; rfl
        rw [upd_same, e1, sumsL, sumsL, List.map_append, List.map_append]
        rfl
      · intro c o hc'
        rw [upd_ne (ne_of_none hc' nD1)]
        exact z2 c o hc'
    · rintro G ⟨z1, s1⟩
      rw [List.length_map, la, List.take_length] at z1
      refine ⟨_, rfl, a, rfl, ⟨_, (Tk.same s1).sq ha⟩, fun D2 nD2 => ?_⟩
      have ha1 := (Tk.same s1).sq ha
      refine ⟨fun i m X => m = as.length - i ∧ i ≤ as.length ∧ X D2 = some (.lst ((g.take i).flatten.map V.int)) ∧ Same G X, ⟨_, rfl, Nat.zero_le _, upd_same, same_new (Same.refl G) nD2⟩, ?_⟩
      rintro i m X ⟨rfl, hi, zX, sX⟩
      have haX := (Tk.same sX).sq ha1
      by_cases hlt : i < as.length
      · have hig : i < g.length := by omega
        have er : g[i]? = some g[i] := List.getElem?_eq_getElem hig
        have mem : g[i] ∈ g := List.getElem_mem hig
        obtain ⟨b, eb, hb⟩ := hr'.get er
        have eab : (as.map V.ref)[i]? = some (.ref b) := by rw [List.getElem?_map, eb]; rfl
        have hbX := (Tk.same sX).sq ((Tk.same s1).sq hb)
        refine .inr ⟨⟨_, _, haX, eab⟩, fun X' => X' D2 = some (.lst ((g.take (i + 1)).flatten.map V.int)) ∧ Same G X', fun X' ⟨p, q⟩ => ⟨as.length - (i + 1), by omega, rfl, hlt, p, q⟩, ?_⟩
        rintro x X' ⟨rfl, hx⟩
        obtain rfl : x = .ref b := by
          have := hx _ haX
          rw [eab] at this
          exact (Option.some.inj this).symm
        refine ⟨rfl, tyes (iteT ⟨_, rfl, b, rfl, ⟨_, hbX⟩, ?_⟩)⟩
        refine ⟨fun j m Y => m = n - j ∧ j ≤ n ∧ Y D2 = some (.lst (((g.take i).flatten ++ g[i].take j).map V.int)) ∧ Same G Y, ⟨_, rfl, Nat.zero_le _, by rw [List.take_zero, List.append_nil]; exact zX, sX⟩, ?_⟩
        rintro j m Y ⟨rfl, hj, zY, sY⟩
        have hbY := (Tk.same sY).sq ((Tk.same s1).sq hb)
        have lr := hc _ mem
        have fl : (g.take i).flatten.length ≤ 16 := by
          rw [flat_len (n := n) fun r hr => hc r (List.mem_of_mem_take hr), List.length_take]
          exact Nat.le_trans (Nat.mul_le_mul (show _ ≤ 4 by omega) n4) (by decide)
        by_cases hj2 : j < n
        · have ej : g[i][j]? = some g[i][j] := List.getElem?_eq_getElem (by omega)
          have ejv : (g[i].map V.int)[j]? = some (.int g[i][j]) := by rw [List.getElem?_map, ej]; rfl
          refine .inr ⟨⟨_, _, hbY, ejv⟩, fun Y' => Y' D2 = some (.lst (((g.take i).flatten ++ g[i].take (j + 1)).map V.int)) ∧ Same G Y', fun Y' ⟨p, q⟩ => ⟨n - (j + 1), by omega, rfl, hj2, p, q⟩, ?_⟩
          rintro x Y' ⟨rfl, hx⟩
          obtain rfl : x = .int g[i][j] := by
            have := hx _ hbY
            rw [ejv] at this
            exact (Option.some.inj this).symm
          refine ⟨rfl, tyes (iteT ⟨_, rfl, _, zY, ?_, ?_, ?_⟩)⟩
          · rw [List.length_map, List.length_append, List.length_take]
            exact Nat.lt_of_lt_of_le (show _ < 100 by omega) (by decide)
          · show (upd _ D2 _) D2 = _
            have e1 : g[i].take (j + 1) = g[i].take j ++ [g[i][j]] := by rw [List.take_add_one, ej]; rfl
            rw [upd_same, e1, ← List.append_assoc, List.map_append (l₂ := [_])]
            rfl
          · intro c o hc'
            rw [upd_ne (ne_of_none hc' nD2)]
            exact sY c o hc'
        · refine .inl ⟨⟨_, hbY, by rw [List.length_map, lr]; omega⟩, ?_, sY⟩
          have e1 : g[i].take j = g[i] := List.take_of_length_le (by omega)
          have e2 : g.take (i + 1) = g.take i ++ [g[i]] := by rw [List.take_add_one, er]; rfl
          rw [zY, e1, e2, List.flatten_append]
          simp
      · refine .inl ⟨⟨_, haX, by rw [List.length_map]; omega⟩, ?_⟩
        rw [List.take_of_length_le (by omega)] at zX
        have rX : RowsAt K X as g := hr'.to (Tk.same (s1.trans sX))
        refine ⟨_, rfl, a, as, rfl, haX, ane, by omega, rX.mem, fun D3 nD3 => ?_⟩
        refine lc_it (walk_zipS ane hc) (fun j Y => Y D3 = some (.lst (((colsL g n).take j).map V.int)) ∧ Same X Y) ⟨upd_same, same_new (Same.refl X) nD3⟩ (fun _ Y _ z => rX.to (Tk.same z.2)) ?_ ?_
        · rintro j _ Y _ hj ⟨zY, sY⟩ ⟨T', rfl, nT, rfl⟩
          have zY' : (upd Y T' (.tup ((colL g j).map V.int))) D3 = some (.lst (((colsL g n).take j).map V.int)) := (upd_ne (ne_of_none zY nT)).trans zY
          have sY' := same_new (o := .tup ((colL g j).map V.int)) sY nT
          refine ⟨rfl, tyes (iteT ⟨_, rfl, T', colL g j, rfl, SqT.of upd_same, _, zY', ?_, ?_, ?_⟩)⟩
          · rw [List.length_map, List.length_take]
            exact Nat.lt_of_lt_of_le (show _ < 100 by omega) (by decide)
          · show (upd _ D3 _) D3 = _
            have e0 : (colsL g n)[j]? = some (colL g j).sum := by
              rw [colsL, List.getElem?_map, List.getElem?_range hj]
              rfl
            have e1 : (colsL g n).take (j + 1) = (colsL g n).take j ++ [(colL g j).sum] := by rw [List.take_add_one, e0]; rfl
            rw [upd_same, e1, List.map_append]
            rfl
          · intro c o hc'
            rw [upd_ne (ne_of_none hc' nD3)]
            exact sY' c o hc'
        · rintro Y ⟨zY, sY⟩
          have lc : (colsL g n).length = n := by rw [colsL, List.length_map, List.length_range]
          rw [List.take_of_length_le (by omega)] at zY
          have fl : g.flatten.length ≤ 16 := by
            rw [flat_len hc]
            exact Nat.le_trans (Nat.mul_le_mul g4 n4) (by decide)
          have ls : (sumsL g).length ≤ 4 := by rw [sumsL, List.length_map]; exact g4
          have q1 : Y D1 = some (.lst ((sumsL g).map V.int)) := sY _ _ (sX _ _ z1)
          have q2 : Y D2 = some (.lst (g.flatten.map V.int)) := sY _ _ zX
          have big : ∀ m, m ≤ 100 → m ≤ sizeLine := fun m h => Nat.le_trans h (by decide)
          have sA : Same H Y := (s1.trans sX).trans sY
          refine ⟨_, rfl, _, rfl, D1, D2, _, _, rfl, rfl, q1, q2, big _ (by rw [List.length_map, List.length_map]; omega), fun p1 np1 => ?_⟩
          have t1 := same_new (o := .lst ((sumsL g).map V.int ++ g.flatten.map V.int)) sA np1
          refine ⟨_, rfl, p1, D3, _, _, rfl, rfl, upd_same, (upd_ne (ne_of_none zY np1)).trans zY, big _ (by rw [List.length_append, List.length_map, List.length_map, List.length_map]; omega), fun p2 np2 => ?_⟩
          have t2 := same_new (o := .lst (((sumsL g).map V.int ++ g.flatten.map V.int) ++ (colsL g n).map V.int)) t1 np2
          have q1' : upd (upd Y p1 (.lst ((sumsL g).map V.int ++ g.flatten.map V.int))) p2 (.lst (((sumsL g).map V.int ++ g.flatten.map V.int) ++ (colsL g n).map V.int)) D1 = some (.lst ((sumsL g).map V.int)) := by
            have e1 := (upd_ne (o := .lst ((sumsL g).map V.int ++ g.flatten.map V.int)) (ne_of_none q1 np1)).trans q1
            exact (upd_ne (ne_of_none e1 np2)).trans e1
          refine ⟨_, rfl, D1, sumsL g, rfl, SqL.of q1', big _ (by simp), fun p3 np3 => ?_⟩
          have t3 := same_new (o := .lst [.int (sumsL g).sum]) t2 np3
          refine ⟨p2, p3, _, _, rfl, rfl, (upd_ne (ne_of_none upd_same np3)).trans upd_same, upd_same, big _ ?_, fun p4 np4 => k p4 _ (t3.free np4) (same_new t3 np4) ?_⟩
          · simp only [List.length_append, List.length_map, List.length_cons, List.length_nil]
            omega
          · rw [upd_same, linesL]
            simp
end
end F02
namespace F02
open PySem PySem.Spec PyProof.Rows L2 MG SP LT
def limL (hs gs : Side) (t : Option Int) : List (Option Int) := hs.map (fun z => some z.2) ++ List.replicate (hs.length * gs.length) none ++ gs.map (fun z => some z.2) ++ [t]
/-- what the top has of the properties that are asked -/
structure TxG (K : PySem.W.Frag) (C p_hosts p_guests p_tables f_hosts f_guests f_tables : Addr) : Prop where
  p_hosts : PropOf K C "hosts" p_hosts f_hosts
  p_guests : PropOf K C "guests" p_guests f_guests
  p_tables : PropOf K C "tables" p_tables f_tables
structure GG3 (P : Program) (w : World) (K : PySem.W.Frag) (mg : Str → Option Value) (base : Heap) (C f_hosts f_guests f_tables : Addr) (d_hosts d_guests d_tables : FuncData) : Prop where
  hosts : FnOk P w K mg base CX0 1 f_hosts d_hosts ["self"] (getSp C "_hosts")
  guests : FnOk P w K mg base CX0 1 f_guests d_guests ["self"] (getSp C "_guests")
  tables : FnOk P w K mg base CX0 1 f_tables d_tables ["self"] (getSp C "_tables")
  b_hosts : Binds K d_hosts ["self"] []
  b_guests : Binds K d_guests ["self"] []
  b_tables : Binds K d_tables ["self"] []
theorem pair_at {K : PySem.W.Frag} {H : Hp} {xs : List V} {l : Side} {j : Nat} {y : V} (hx : ImAll K H xs (l.map pD)) (hy : xs[j]? = some y) : ∃ z b, l[j]? = some z ∧ y = .ref b ∧ SqT K H b [.str z.1, .int z.2] := by
  obtain ⟨d, hd, im⟩ := hx.get hy
  obtain ⟨z, hz, rfl⟩ : ∃ z, l[j]? = some z ∧ d = pD z := by
    rw [List.getElem?_map] at hd
    cases e : l[j]? with
    | none => rw [e] at hd; cases hd
    | some u => rw [e] at hd; exact ⟨u, rfl, (Option.some.inj hd).symm⟩
  obtain ⟨b, rfl, hb⟩ := im_pair im
  exact ⟨z, b, hz, rfl, hb⟩
theorem acc_next {H X : Hp} {D : Addr} {α : Type} {l : List α} {f : α → V} {j : Nat} {z : α} (nD : H D = none) (l4 : l.length ≤ 64) (z1 : X D = some (.lst ((l.take j).map f))) (s : Same H X) (ez : l[j]? = some z) :
    ∃ acc, X D = some (.lst acc) ∧ acc.length < sizeLine ∧ (upd X D (.lst (acc ++ [f z]))) D = some (.lst ((l.take (j + 1)).map f)) ∧ Same H (upd X D (.lst (acc ++ [f z]))) := by
  have hj : j < l.length := (List.getElem?_eq_some_iff.mp ez).1
  refine ⟨_, z1, ?_, ?_, fun c o hc => ?_⟩
  · rw [List.length_map, List.length_take]
    exact Nat.lt_of_lt_of_le (show _ < 100 by omega) (by decide)
  · have e1 : l.take (j + 1) = l.take j ++ [z] := by rw [List.take_add_one, ez]; rfl
    rw [upd_same, e1, List.map_append]
    rfl
  · rw [upd_ne (ne_of_none hc nD)]
    exact s c o hc
section
variable {P : Program} {w : World} {K : PySem.W.Frag} {mg : Str → Option Value} {base : Heap} {C p_hosts p_guests p_tables f_hosts f_guests f_tables : Addr} {d_hosts d_guests d_tables : FuncData}
abbrev s_limits_of : Stmt := top 30
theorem sc_limits_of : FnScope ["fair", "hosts", "guests", "_", "bound"] ["fair"] (defScope s_limits_of) := ⟨rfl, rfl, rfl, by decide +kernel, rfl, by decide +kernel, by decide +kernel⟩
def sp_limits_of (K : PySem.W.Frag) (C : Addr) : Sp := fun vs H Q _ => ∃ (p : Addr) (hs gs : Side) (t : Option Int), vs = [.ref p] ∧ FairAt K C H p hs gs t ∧ hs.length ≤ 4 ∧ gs.length ≤ 4 ∧
  ∀ q H', H q = none → Same H H' → H' q = some (.lst ((limL hs gs t).map deskV)) → Q (.ref q) H'
theorem ok_limits_of {f : Addr} {fd : FuncData} (F : Fun K "limits_of" "limits_of" s_limits_of f fd) (T : TxC K mg C) (D : TxG K C p_hosts p_guests p_tables f_hosts f_guests f_tables) (G : GG3 P w K mg base C f_hosts f_guests f_tables d_hosts d_guests d_tables) : FnOk P w K mg base CX0 3 f fd ["fair"] (sp_limits_of K C) := by
  have G_hosts := G.hosts
  have G_guests := G.guests
  have G_tables := G.tables
  refine F.ok sc_limits_of (fun vs H Q E h => ?_) (fun cdv A outer s H vs Q E hr h => ?_)
  · obtain ⟨p, hs, gs, t, rfl, _⟩ := h
    rfl
  · obtain ⟨p, hs, gs, t, rfl, fa, h4, g4, k⟩ := h
    obtain ⟨dx, vh, vg, n, f1, f2, f3, f4⟩ := id fa
    obtain ⟨a, xs, rfl, ha, hx⟩ := im_side f2
    obtain ⟨b, ys, rfl, hb, hy⟩ := im_side f3
    refine ⟨_, (pss_cons (ps_setLc (i := 1) (own := [("_", 3), ("bound", 4)]) (g := gTup K 2 (gCons (gName 3) (gCons (gName 4) gNil))) (te := tVar 4) (tt := tYes) rfl sc_limits_of.nd rfl rfl (sw_true rfl rfl rfl (by decide +kernel)) (pi_tup (pe_prop (pv 0) T.cl D.p_hosts G_hosts hr G.b_hosts .nil pass0 rfl)) (blkOk_by (own := [("_", 3), ("bound", 4)]) (N := ["fair", "hosts", "guests", "_", "bound"]) (sc := defScope s_limits_of) (by decide +kernel)) (fun _ _ _ _ _ => (pg_tup rfl (pgs_cons (pg_name (i := 3) sc_limits_of.nd rfl (Or.inl rfl)) (pgs_cons (pg_name (i := 4) sc_limits_of.nd rfl (Or.inl rfl)) pgs_nil)))) (fun _ _ _ _ _ => pts_nil) (fun _ _ _ _ _ => (pv 4)))
      (pss_cons (ps_setLc (i := 2) (own := [("_", 3), ("bound", 4)]) (g := gTup K 2 (gCons (gName 3) (gCons (gName 4) gNil))) (te := tVar 4) (tt := tYes) rfl sc_limits_of.nd rfl rfl (sw_true rfl rfl rfl (by decide +kernel)) (pi_tup (pe_prop (pv 0) T.cl D.p_guests G_guests hr G.b_guests .nil pass0 rfl)) (blkOk_by (own := [("_", 3), ("bound", 4)]) (N := ["fair", "hosts", "guests", "_", "bound"]) (sc := defScope s_limits_of) (by decide +kernel)) (fun _ _ _ _ _ => (pg_tup rfl (pgs_cons (pg_name (i := 3) sc_limits_of.nd rfl (Or.inl rfl)) (pgs_cons (pg_name (i := 4) sc_limits_of.nd rfl (Or.inl rfl)) pgs_nil)))) (fun _ _ _ _ _ => pts_nil) (fun _ _ _ _ _ => (pv 4)))
      (pss_one (ps_ret (pe_op op_cat (pe_op op_cat (pe_op op_cat (pv 1) (pe_op op_rep (pe_lst (pa_cons pe_non pa_nil)) (pe_op op_mul (pe_callB call_len_seq (by rfl) T.n_len PySem.boot_len (pa_cons (pv 1) pa_nil)) (pe_callB call_len_seq (by rfl) T.n_len PySem.boot_len (pa_cons (pv 2) pa_nil))))) (pv 2)) (pe_lst (pa_cons (pe_prop (pv 0) T.cl D.p_tables G_tables hr G.b_tables .nil pass0 rfl) pa_nil))))))), ?_⟩
    have lx : xs.length = hs.length := by rw [hx.length, List.length_map]
    have ly : ys.length = gs.length := by rw [hy.length, List.length_map]
    refine ⟨_, rfl, p, dx, _, rfl, f1, ⟨p, dx, _, _, rfl, f1, ff_hosts _ _ _ _ _, a, rfl, ⟨_, ha⟩, fun D1 nD1 => ?_⟩⟩
    refine lc_tup (K := K) (a := a) (xs := xs) (fun j X => X D1 = some (.lst ((hs.take j).map fun z => V.int z.2)) ∧ Same H X) ⟨upd_same, same_new (Same.refl H) nD1⟩ (fun j X _ z => (Tk.same z.2).sq ha) ?_ ?_
    · rintro j y X hy' ⟨z1, z2⟩
      obtain ⟨z, c, ez, rfl, hc⟩ := pair_at hx hy'
      exact ⟨c, _, rfl, (Tk.same z2).sq hc, rfl, _, _, rfl, _, _, rfl, rfl, rfl, tyes (iteT ⟨_, rfl, acc_next nD1 (by omega) z1 z2 ez⟩)⟩
    · rintro X ⟨z1, s1⟩
      rw [lx, List.take_length] at z1
      have f1X := s1 _ _ f1
      refine ⟨_, rfl, p, dx, _, rfl, f1X, ⟨p, dx, _, _, rfl, f1X, ff_guests _ _ _ _ _, b, rfl, ⟨_, (Tk.same s1).sq hb⟩, fun D2 nD2 => ?_⟩⟩
      refine lc_tup (K := K) (a := b) (xs := ys) (fun j Y => Y D2 = some (.lst ((gs.take j).map fun z => V.int z.2)) ∧ Same X Y) ⟨upd_same, same_new (Same.refl X) nD2⟩ (fun j Y _ z => (Tk.same (s1.trans z.2)).sq hb) ?_ ?_
      · rintro j y Y hy' ⟨z1, z2⟩
        obtain ⟨z, c, ez, rfl, hc⟩ := pair_at hy hy'
        exact ⟨c, _, rfl, (Tk.same (s1.trans z2)).sq hc, rfl, _, _, rfl, _, _, rfl, rfl, rfl, tyes (iteT ⟨_, rfl, acc_next nD2 (by omega) z1 z2 ez⟩)⟩
      · rintro Y ⟨z2, s2⟩
        rw [ly, List.take_length] at z2
        have q1 := s2 _ _ z1
        have sA := s1.trans s2
        have big : ∀ m, m ≤ 100 → m ≤ sizeLine := fun m h => Nat.le_trans h (by decide)
        have pr : hs.length * gs.length ≤ 16 := Nat.le_trans (Nat.mul_le_mul h4 g4) (by decide)
        refine ⟨_, rfl, big _ (by simp), fun p0 np0 => ?_⟩
        have t0 := same_new (o := .lst [V.non]) sA np0
        have q1' := (upd_ne (o := .lst [V.non]) (ne_of_none q1 np0)).trans q1
        have q2' := (upd_ne (o := .lst [V.non]) (ne_of_none z2 np0)).trans z2
        refine ⟨_, rfl, D1, _, rfl, .inl (SqL.of q1'), _, rfl, D2, _, rfl, .inl (SqL.of q2'), _, _, rfl, rfl, ?_, ?_⟩
        · rw [List.length_map, List.length_map]
          exact .inl ⟨by omega, by omega⟩
        rw [List.length_map, List.length_map]
        have em : (((hs.length : Nat) : Int) * ((gs.length : Nat) : Int)).toNat = hs.length * gs.length := by
          rw [← Int.natCast_mul]
          exact Int.toNat_natCast _
        refine ⟨p0, _, _, rfl, rfl, upd_same, by omega, by omega, ?_, fun pa npa => ?_⟩
        · rw [em]
          exact big _ (by show 1 * _ ≤ 100; omega)
        rw [em, show (List.replicate (hs.length * gs.length) [V.non]).flatten = List.replicate (hs.length * gs.length) V.non by simp]
        have ta := same_new (o := .lst (List.replicate (hs.length * gs.length) V.non)) t0 npa
        have q1a := (upd_ne (o := .lst (List.replicate (hs.length * gs.length) V.non)) (ne_of_none q1' npa)).trans q1'
        have q2a := (upd_ne (o := .lst (List.replicate (hs.length * gs.length) V.non)) (ne_of_none q2' npa)).trans q2'
        refine ⟨D1, pa, _, _, rfl, rfl, q1a, upd_same, big _ (by rw [List.length_map, List.length_replicate]; omega), fun pb npb => ?_⟩
        have tb := same_new (o := .lst (hs.map (fun z => V.int z.2) ++ List.replicate (hs.length * gs.length) V.non)) ta npb
        have q2b := (upd_ne (o := .lst (hs.map (fun z => V.int z.2) ++ List.replicate (hs.length * gs.length) V.non)) (ne_of_none q2a npb)).trans q2a
        refine ⟨_, rfl, pb, D2, _, _, rfl, rfl, upd_same, q2b, big _ (by rw [List.length_append, List.length_map, List.length_replicate, List.length_map]; omega), fun pc npc => ?_⟩
        have tc := same_new (o := .lst (hs.map (fun z => V.int z.2) ++ List.replicate (hs.length * gs.length) V.non ++ gs.map (fun z => V.int z.2))) tb npc
        have f1c := tc _ _ f1
        refine ⟨_, rfl, p, dx, _, rfl, f1c, ⟨p, dx, _, _, rfl, f1c, ff_tables _ _ _ _ _, big _ (by simp), fun pd npd => ?_⟩⟩
        have td := same_new (o := .lst [deskV t]) tc npd
        refine ⟨pc, pd, _, _, rfl, rfl, (upd_ne (ne_of_none upd_same npd)).trans upd_same, upd_same, big _ ?_, fun pe npe => k pe _ (td.free npe) (same_new td npe) ?_⟩
        · simp only [List.length_append, List.length_map, List.length_cons, List.length_nil, List.length_replicate]
          omega
        · rw [upd_same, limL]
          simp only [List.map_append, List.map_map, List.map_replicate, List.map_cons, List.map_nil]
          rfl
end
end F02
namespace F02
open PySem PySem.Spec PyProof.Rows L2 MG SP LT
section
variable {P : Program} {w : World} {K : PySem.W.Frag} {mg : Str → Option Value} {base : Heap} {C p_hosts p_guests p_tables f_hosts f_guests f_tables : Addr} {d_hosts d_guests d_tables : FuncData}
/-! ### check_fair, check_meetings -/
abbrev s_check_fair : Stmt := top 33
theorem sc_check_fair : FnScope ["fair"] ["fair"] (defScope s_check_fair) := ⟨rfl, rfl, rfl, by decide +kernel, rfl, by decide +kernel, by decide +kernel⟩
def sp_check_fair (K : PySem.W.Frag) (C : Addr) : Sp := fun vs H Q _ => ∃ (p : Addr) (hs gs : Side) (t : Option Int), vs = [.ref p] ∧ FairAt K C H p hs gs t ∧ Q .non H
theorem ok_check_fair {f : Addr} {fd : FuncData} (F : Fun K "check_fair" "check_fair" s_check_fair f fd) (T : TxC K mg C) : FnOk P w K mg base CX0 1 f fd ["fair"] (sp_check_fair K C) := by
  refine F.ok sc_check_fair (fun vs H Q E h => ?_) (fun cdv A outer s H vs Q E hr h => ?_)
  · obtain ⟨p, hs, gs, t, rfl, _⟩ := h
    rfl
  · obtain ⟨p, hs, gs, t, rfl, ⟨dx, vh, vg, n, f1, f2, f3, f4⟩, k⟩ := h
    refine ⟨_, (pss_one (ps_if (pt_not (pt_val (pe_callB call_isi (by rfl) T.n_isinstance (by decide +kernel) (pa_cons (pv 0) (pa_cons (pe_glob (v := .ref C) rfl T.g_Fair rfl) pa_nil)))))
        (pss_one ps_never)
        pss_nil)), ?_⟩
    exact ⟨_, rfl, .ref p, .ref C, _, _, true, rfl, .own C, T.ty f1, T.kC, _, rfl, iteF k⟩
abbrev s_check_meetings : Stmt := top 34
theorem sc_check_meetings : FnScope ["fair", "meetings", "fault"] ["fair", "meetings"] (defScope s_check_meetings) := ⟨rfl, rfl, rfl, by decide +kernel, rfl, by decide +kernel, by decide +kernel⟩
def sp_check_meetings (K : PySem.W.Frag) (C : Addr) : Sp := fun vs H Q _ => ∃ (p : Addr) (v : V) (hs gs : Side) (t : Option Int) (g : Grid), vs = [.ref p, v] ∧ FairAt K C H p hs gs t ∧ Fairish hs gs t ∧ Im K H v (gridD g) ∧ Gridish g hs.length gs.length ∧ ∀ H', Same H H' → Q .non H'
structure TxCm (K : PySem.W.Frag) (mg : Str → Option Value) (f_table_fault : Addr) : Prop where
  g_MOST_MEETINGS : ∃ t, mg "MOST_MEETINGS" = some (.int 1000000000000000000000000000000 t)
  g_table_fault : mg "table_fault" = some (.ref f_table_fault)
  k_table_fault : PySem.W.keepIn K (.ref f_table_fault) = true
theorem ok_check_meetings {f f_table_fault : Addr} {fd fd_table_fault : FuncData} (F : Fun K "check_meetings" "check_meetings" s_check_meetings f fd) (T : TxC K mg C) (D : TxG K C p_hosts p_guests p_tables f_hosts f_guests f_tables) (G : GG3 P w K mg base C f_hosts f_guests f_tables d_hosts d_guests d_tables)
    (U : TxCm K mg f_table_fault) (G_table_fault : FnOk P w K mg base CX0 3 f_table_fault fd_table_fault ["value", "hosts", "guests", "most"] (sp_table_fault K)) (b_table_fault : Binds K fd_table_fault ["value", "hosts", "guests", "most"] []) :
    FnOk P w K mg base CX0 4 f fd ["fair", "meetings"] (sp_check_meetings K C) := by
  obtain ⟨t1, g1⟩ := U.g_MOST_MEETINGS
  have G_hosts := G.hosts.mono (show 1 ≤ 2 by decide)
  have G_guests := G.guests.mono (show 1 ≤ 2 by decide)
  refine F.ok sc_check_meetings (fun vs H Q E h => ?_) (fun cdv A outer s H vs Q E hr h => ?_)
  · obtain ⟨p, v, hs, gs, t, g, rfl, _⟩ := h
    rfl
  · obtain ⟨p, v, hs, gs, t, g, rfl, fa, fi, iv, gi, k⟩ := h
    obtain ⟨dx, vh, vg, n, f1, f2, f3, f4⟩ := id fa
    obtain ⟨a, xs, rfl, ha, hx⟩ := im_side f2
    obtain ⟨b, ys, rfl, hb, hy⟩ := im_side f3
    have lx : xs.length = hs.length := by rw [hx.length, List.length_map]
    have ly : ys.length = gs.length := by rw [hy.length, List.length_map]
    refine ⟨_, (pss_cons (ps_set (i := 2) sc_check_meetings.nd rfl (Or.inl rfl) (pe_call G_table_fault hr rfl U.g_table_fault U.k_table_fault b_table_fault .nil pass0 (pa_cons (pv 1) (pa_cons (pe_callB call_len_seq (by rfl) T.n_len PySem.boot_len (pa_cons (pe_prop (pv 0) T.cl D.p_hosts G_hosts hr G.b_hosts .nil pass0 rfl) pa_nil)) (pa_cons (pe_callB call_len_seq (by rfl) T.n_len PySem.boot_len (pa_cons (pe_prop (pv 0) T.cl D.p_guests G_guests hr G.b_guests .nil pass0 rfl) pa_nil)) (pa_cons (pe_glob (v := .int 1000000000000000000000000000000) rfl g1 ⟨_, rfl⟩) pa_nil))))))
      (pss_one (ps_if (pt_truth (pv 2) (by intro _; rfl))
        (pss_one ps_never)
        pss_nil))), ?_⟩
    refine ⟨_, rfl, _, rfl, p, dx, _, rfl, f1, ⟨p, dx, _, _, rfl, f1, ff_hosts _ _ _ _ _, ?_⟩⟩
    refine ⟨a, _, rfl, .inr ha, _, rfl, p, dx, _, rfl, f1, ⟨p, dx, _, _, rfl, f1, ff_guests _ _ _ _ _, ?_⟩⟩
    refine ⟨b, _, rfl, .inr hb, ?_⟩
    refine ⟨v, g, gs.length, 1000000000000000000000000000000, by rw [lx, ly, gi.rows]; rfl, iv, by rw [gi.rows]; exact fi.h4, fi.g4, gi.cols, fun r hr x hx => ⟨gi.least r hr x hx, gi.most r hr x hx⟩, fun q X sX hq => ?_⟩
    exact ⟨_, rfl, _, tru_tup (SqT.of hq), iteF (k X sX)⟩
/-! ### _needs, least_rounds, load -/
def need (l : Int) (o : Option Int) : Int := match o with
  | none => 0
  | some b => -((-l) / b)
def needsL (hs gs : Side) (t : Option Int) (g : Grid) : List Int := List.zipWith need (linesL g gs.length) (limL hs gs t)
theorem lines_len {g : Grid} {m n : Nat} (gi : Gridish g m n) : (linesL g n).length = m + m * n + n + 1 := by
  simp only [linesL, sumsL, colsL, List.length_append, List.length_map, List.length_range, List.length_cons, List.length_nil]
  rw [flat_len gi.cols, gi.rows]
theorem lim_len (hs gs : Side) (t : Option Int) : (limL hs gs t).length = hs.length + hs.length * gs.length + gs.length + 1 := by
  simp only [limL, List.length_append, List.length_map, List.length_replicate, List.length_cons, List.length_nil]
theorem lim_small {hs gs : Side} {t : Option Int} (fi : Fairish hs gs t) : ∀ b, some b ∈ limL hs gs t → 0 < b ∧ b < 1073741824 := by
  intro b hb
  rw [limL] at hb
  rcases List.mem_append.mp hb with hb | hb
  · rcases List.mem_append.mp hb with hb | hb
    · rcases List.mem_append.mp hb with hb | hb
      · obtain ⟨z, hz, e⟩ := List.mem_map.mp hb
        have := fi.bd z (List.mem_append_left _ hz)
        cases e
        omega
      · have := (List.mem_replicate.mp hb).2
        cases this
    · obtain ⟨z, hz, e⟩ := List.mem_map.mp hb
      have := fi.bd z (List.mem_append_right _ hz)
      cases e
      omega
  · have e : some b = t := by simpa using hb
    have := fi.tb b e.symm
    omega
abbrev s_needs : Stmt := top 37
theorem sc_needs : FnScope ["fair", "meetings", "needs", "line", "limit"] ["fair", "meetings"] (defScope s_needs) := ⟨rfl, rfl, rfl, by decide +kernel, rfl, by decide +kernel, by decide +kernel⟩
def sp_needs (K : PySem.W.Frag) (C : Addr) : Sp := fun vs H Q _ => ∃ (p : Addr) (v : V) (hs gs : Side) (t : Option Int) (g : Grid), vs = [.ref p, v] ∧ FairAt K C H p hs gs t ∧ Fairish hs gs t ∧ Im K H v (gridD g) ∧ Gridish g hs.length gs.length ∧
  ∀ q H', H q = none → Same H H' → H' q = some (.lst ((needsL hs gs t g).map V.int)) → Q (.ref q) H'
structure TxNe (K : PySem.W.Frag) (mg : Str → Option Value) (f_lines_of f_limits_of f_ceiling : Addr) : Prop where
  n_zip : mg "zip" = none
  g_lines_of : mg "lines_of" = some (.ref f_lines_of)
  k_lines_of : PySem.W.keepIn K (.ref f_lines_of) = true
  g_limits_of : mg "limits_of" = some (.ref f_limits_of)
  k_limits_of : PySem.W.keepIn K (.ref f_limits_of) = true
  g_ceiling : mg "ceiling" = some (.ref f_ceiling)
  k_ceiling : PySem.W.keepIn K (.ref f_ceiling) = true
theorem ok_needs {f f_lines_of f_limits_of f_ceiling : Addr} {fd fd_lines_of fd_limits_of fd_ceiling : FuncData} (F : Fun K "_needs" "_needs" s_needs f fd) (T : TxNe K mg f_lines_of f_limits_of f_ceiling)
    (G_lines_of1 : FnOk P w K mg base CX0 1 f_lines_of fd_lines_of ["table"] (sp_lines_of K)) (b_lines_of : Binds K fd_lines_of ["table"] [])
    (G_limits_of : FnOk P w K mg base CX0 3 f_limits_of fd_limits_of ["fair"] (sp_limits_of K C)) (b_limits_of : Binds K fd_limits_of ["fair"] [])
    (G_ceiling1 : FnOk P w K mg base CX0 1 f_ceiling fd_ceiling ["number", "by"] sp_ceiling) (b_ceiling : Binds K fd_ceiling ["number", "by"] []) :
    FnOk P w K mg base CX0 4 f fd ["fair", "meetings"] (sp_needs K C) := by
  have G_lines_of := G_lines_of1.mono (show 1 ≤ 3 by decide)
  have G_ceiling := G_ceiling1.mono (show 1 ≤ 3 by decide)
  refine F.ok sc_needs (fun vs H Q E h => ?_) (fun cdv A outer s H vs Q E hr h => ?_)
  · obtain ⟨p, v, hs, gs, t, g, rfl, _⟩ := h
    rfl
  · obtain ⟨p, v, hs, gs, t, g, rfl, fa, fi, iv, gi, k⟩ := h
    have ll : (linesL g gs.length).length = (limL hs gs t).length := by rw [lines_len gi, lim_len]
    have l24 : (linesL g gs.length).length ≤ 25 := by
      rw [lines_len gi]
      have := Nat.mul_le_mul fi.h4 fi.g4
      have := fi.h4
      have := fi.g4
      omega
    refine ⟨_, (pss_cons (ps_set (i := 2) sc_needs.nd rfl (Or.inl rfl) (pe_lst pa_nil))
      (pss_cons (ps_for PassesOwn.never rfl (pi_zip (by rfl) T.n_zip (pa_cons (pe_call G_lines_of hr rfl T.g_lines_of T.k_lines_of b_lines_of .nil pass0 (pa_cons (pv 1) pa_nil)) (pa_cons (pe_call G_limits_of hr rfl T.g_limits_of T.k_limits_of b_limits_of .nil pass0 (pa_cons (pv 0) pa_nil)) pa_nil))) (pg_tup rfl (pgs_cons (pg_name (i := 3) sc_needs.nd rfl (Or.inl rfl)) (pgs_cons (pg_name (i := 4) sc_needs.nd rfl (Or.inl rfl)) pgs_nil)))
        (pss_one (ps_expr (pe_bm PySem.F.plainAttrs_list PySem.F.slot_list_append PySem.F.type_list_append mt_append (pv 2) (pa_cons (pe_ifExp (pt_cmpR op_isN (pv 4) pe_non (nomark _)) pe_int (pe_call G_ceiling hr rfl T.g_ceiling T.k_ceiling b_ceiling .nil pass0 (pa_cons (pv 3) (pa_cons (pv 4) pa_nil)))) pa_nil)))))
      (pss_one (ps_ret (pv 2))))), ?_⟩
    refine ⟨Nat.zero_le _, fun D0 nD0 => ?_⟩
    have s0 := same_new (o := .lst []) (Same.refl H) nD0
    refine ⟨_, rfl, v, g, gs.length, rfl, iv.to (Tk.same s0) _ _, fun e => ?_, by rw [gi.rows]; exact fi.h4, fi.g4, gi.cols, fun a X na sX hX => ?_⟩
    · have := gi.rows
      have := fi.h1
      rw [e] at *
      simp at *
      omega
    refine ⟨_, rfl, p, hs, gs, t, rfl, fa.same (s0.trans sX), fi.h4, fi.g4, fun b Y nb sY hY => ?_⟩
    have sA := (s0.trans sX).trans sY
    have hYa := sY _ _ hX
    have hYD := sY _ _ (sX _ _ upd_same)
    have nab : a ≠ D0 := fun e => by rw [e, upd_same] at na; cases na
    have nbD : b ≠ D0 := fun e => by
      have := sX _ _ (upd_same (H := H) (a := D0) (o := .lst []))
      rw [← e, nb] at this
      cases this
    have hn : (linesL g gs.length).length = min ((linesL g gs.length).map V.int).length ((limL hs gs t).map deskV).length := by rw [List.length_map, List.length_map, ← ll, Nat.min_self]
    refine ⟨a, b, (linesL g gs.length).map V.int, (limL hs gs t).map deskV, rfl, SqL.of hYa, SqL.of hY, ?_⟩
    refine for_it (walk_zip hn) (fun i σ G => ∃ v3 v4 : Option V, σ = [some (.ref p), some v, some (.ref D0), v3, v4] ∧ G D0 = some (.lst (((needsL hs gs t g).take i).map V.int)) ∧ G a = some (.lst ((linesL g gs.length).map V.int)) ∧ G b = some (.lst ((limL hs gs t).map deskV)) ∧ Same H G)
      ⟨none, none, rfl, hYD, hYa, hY, sA⟩ (fun i σ G _ ⟨_, _, _, _, z3, z4, _⟩ => ⟨SqL.of z3, SqL.of z4⟩) ?_ ?_
    · rintro i _ σ G _ hi ⟨v3, v4, rfl, z2, z3, z4, sG⟩ ⟨T', x, y, rfl, nT, rfl, ex, ey⟩
      obtain ⟨l, el, rfl⟩ : ∃ l, (linesL g gs.length)[i]? = some l ∧ x = .int l := by
        have ex' : ((linesL g gs.length).map V.int)[i]? = some x := ex
        rw [List.getElem?_map] at ex'
        cases e : (linesL g gs.length)[i]? with
        | none => rw [e] at ex'; cases ex'
        | some u => rw [e] at ex'; exact ⟨u, rfl, (Option.some.inj ex').symm⟩
      obtain ⟨o, eo, rfl⟩ : ∃ o, (limL hs gs t)[i]? = some o ∧ y = deskV o := by
        have ey' : ((limL hs gs t).map deskV)[i]? = some y := ey
        rw [List.getElem?_map] at ey'
        cases e : (limL hs gs t)[i]? with
        | none => rw [e] at ey'; cases ey'
        | some u => rw [e] at ey'; exact ⟨u, rfl, (Option.some.inj ey').symm⟩
      have en : (needsL hs gs t g)[i]? = some (need l o) := by rw [needsL, List.getElem?_zipWith, el, eo]
      have s1 := same_new (o := .tup [.int l, deskV o]) sG nT
      have z2' := (upd_ne (o := .tup [.int l, deskV o]) (ne_of_none z2 nT)).trans z2
      have z3' := (upd_ne (o := .tup [.int l, deskV o]) (ne_of_none z3 nT)).trans z3
      have z4' := (upd_ne (o := .tup [.int l, deskV o]) (ne_of_none z4 nT)).trans z4
      have e1 : (needsL hs gs t g).take (i + 1) = (needsL hs gs t g).take i ++ [need l o] := by rw [List.take_add_one, en]; rfl
      refine ⟨T', _, rfl, SqT.of upd_same, rfl, _, _, rfl, _, _, rfl, rfl, ?_⟩
      refine ⟨_, rfl, .inl ⟨rfl, _, SqL.of z2'⟩, ?_⟩
      have lz : (((needsL hs gs t g).take i).map V.int).length < sizeLine := by
        rw [List.length_map, List.length_take]
        exact Nat.lt_of_lt_of_le (show _ < 100 by omega) (by decide)
      have nA : a ≠ D0 := nab
      have nB : b ≠ D0 := nbD
      have last : ∀ σ', σ' = [some (.ref p), some v, some (.ref D0), some (.int l), some (deskV o)] → ∃ v3 v4 : Option V, σ' = [some (.ref p), some v, some (.ref D0), v3, v4] ∧ (upd (upd G T' (.tup [.int l, deskV o])) D0 (.lst ((((needsL hs gs t g).take i).map V.int) ++ [.int (need l o)]))) D0 = some (.lst (((needsL hs gs t g).take (i + 1)).map V.int)) ∧
          (upd (upd G T' (.tup [.int l, deskV o])) D0 (.lst ((((needsL hs gs t g).take i).map V.int) ++ [.int (need l o)]))) a = some (.lst ((linesL g gs.length).map V.int)) ∧
          (upd (upd G T' (.tup [.int l, deskV o])) D0 (.lst ((((needsL hs gs t g).take i).map V.int) ++ [.int (need l o)]))) b = some (.lst ((limL hs gs t).map deskV)) ∧
          Same H (upd (upd G T' (.tup [.int l, deskV o])) D0 (.lst ((((needsL hs gs t g).take i).map V.int) ++ [.int (need l o)]))) := fun σ' e => by
        refine ⟨_, _, e, ?_, ?_, ?_, fun c u hc => ?_⟩
        · rw [upd_same, e1, List.map_append]
          rfl
        · rw [upd_ne nA]; exact z3'
        · rw [upd_ne nB]; exact z4'
        · rw [upd_ne (ne_of_none hc nD0)]
          exact s1 c u hc
      cases o with
      | none => exact ⟨_, rfl, rfl, true, rfl, if_true_of rfl ⟨D0, _, _, rfl, rfl, z2', lz, last _ rfl⟩⟩
      | some c =>
        have hb := lim_small fi c (List.mem_of_getElem? eo)
        exact ⟨_, rfl, rfl, false, rfl, if_false_of rfl ⟨_, rfl, _, rfl, l, c, rfl, hb.1, by omega, D0, _, _, rfl, rfl, z2', lz, last _ rfl⟩⟩
    · rintro σ G ⟨v3, v4, rfl, z2, z3, z4, sG⟩
      have e2 : (needsL hs gs t g).take (linesL g gs.length).length = needsL hs gs t g := List.take_of_length_le (by rw [needsL, List.length_zipWith]; exact Nat.min_le_left _ _)
      rw [e2] at z2
      exact ⟨_, rfl, k D0 G nD0 sG z2⟩
abbrev IsMax (m : Int) (l : List Int) : Prop := m ∈ l ∧ ∀ y ∈ l, y ≤ m
abbrev s_least_rounds : Stmt := top 38
theorem sc_least_rounds : FnScope ["fair", "meetings"] ["fair", "meetings"] (defScope s_least_rounds) := ⟨rfl, rfl, rfl, by decide +kernel, rfl, by decide +kernel, by decide +kernel⟩
def sp_load (K : PySem.W.Frag) (C : Addr) : Sp := fun vs H Q _ => ∃ (p : Addr) (v : V) (hs gs : Side) (t : Option Int) (g : Grid), vs = [.ref p, v] ∧ FairAt K C H p hs gs t ∧ Fairish hs gs t ∧ Im K H v (gridD g) ∧ Gridish g hs.length gs.length ∧
  ∀ m H', Same H H' → IsMax m (needsL hs gs t g) → Q (.int m) H'
theorem ok_least_rounds {f f_needs : Addr} {fd fd_needs : FuncData} (F : Fun K "least_rounds" "least_rounds" s_least_rounds f fd) (n_max : mg "max" = none) (g_needs : mg "_needs" = some (.ref f_needs)) (k_needs : PySem.W.keepIn K (.ref f_needs) = true)
    (G_needs : FnOk P w K mg base CX0 4 f_needs fd_needs ["fair", "meetings"] (sp_needs K C)) (b_needs : Binds K fd_needs ["fair", "meetings"] []) : FnOk P w K mg base CX0 5 f fd ["fair", "meetings"] (sp_load K C) := by
  refine F.ok sc_least_rounds (fun vs H Q E h => ?_) (fun cdv A outer s H vs Q E hr h => ?_)
  · obtain ⟨p, v, hs, gs, t, g, rfl, _⟩ := h
    rfl
  · obtain ⟨p, v, hs, gs, t, g, rfl, fa, fi, iv, gi, k⟩ := h
    refine ⟨_, (pss_one (ps_ret (pe_callB (cr_max rfl) (by rfl) n_max (by decide +kernel) (pa_cons (pe_call G_needs hr rfl g_needs k_needs b_needs .nil pass0 (pa_cons (pv 0) (pa_cons (pv 1) pa_nil))) pa_nil)))), ?_⟩
    refine ⟨_, rfl, _, rfl, p, v, hs, gs, t, g, rfl, fa, fi, iv, gi, fun q X nq sX hX => ?_⟩
    refine ⟨q, needsL hs gs t g, rfl, SqL.of hX, ?_, fun m h1 h2 => k m X sX ⟨h1, h2⟩⟩
    rw [needsL, List.length_zipWith, lines_len gi, lim_len, Nat.min_self]
    exact Nat.succ_pos _
abbrev s_load : Stmt := top 39
theorem sc_load : FnScope ["fair", "meetings"] ["fair", "meetings"] (defScope s_load) := ⟨rfl, rfl, rfl, by decide +kernel, rfl, by decide +kernel, by decide +kernel⟩
structure TxLo (K : PySem.W.Frag) (mg : Str → Option Value) (f_check_fair f_check_meetings f_least_rounds : Addr) : Prop where
  g_check_fair : mg "check_fair" = some (.ref f_check_fair)
  k_check_fair : PySem.W.keepIn K (.ref f_check_fair) = true
  g_check_meetings : mg "check_meetings" = some (.ref f_check_meetings)
  k_check_meetings : PySem.W.keepIn K (.ref f_check_meetings) = true
  g_least_rounds : mg "least_rounds" = some (.ref f_least_rounds)
  k_least_rounds : PySem.W.keepIn K (.ref f_least_rounds) = true
theorem ok_load {f f_check_fair f_check_meetings f_least_rounds : Addr} {fd fd_check_fair fd_check_meetings fd_least_rounds : FuncData} (F : Fun K "load" "load" s_load f fd) (T : TxLo K mg f_check_fair f_check_meetings f_least_rounds)
    (G_check_fair1 : FnOk P w K mg base CX0 1 f_check_fair fd_check_fair ["fair"] (sp_check_fair K C)) (b_check_fair : Binds K fd_check_fair ["fair"] [])
    (G_check_meetings4 : FnOk P w K mg base CX0 4 f_check_meetings fd_check_meetings ["fair", "meetings"] (sp_check_meetings K C)) (b_check_meetings : Binds K fd_check_meetings ["fair", "meetings"] [])
    (G_least_rounds : FnOk P w K mg base CX0 5 f_least_rounds fd_least_rounds ["fair", "meetings"] (sp_load K C)) (b_least_rounds : Binds K fd_least_rounds ["fair", "meetings"] []) :
    FnOk P w K mg base CX0 6 f fd ["fair", "meetings"] (sp_load K C) := by
  have G_check_fair := G_check_fair1.mono (show 1 ≤ 5 by decide)
  have G_check_meetings := G_check_meetings4.mono (show 4 ≤ 5 by decide)
  refine F.ok sc_load (fun vs H Q E h => ?_) (fun cdv A outer s H vs Q E hr h => ?_)
  · obtain ⟨p, v, hs, gs, t, g, rfl, _⟩ := h
    rfl
  · obtain ⟨p, v, hs, gs, t, g, rfl, fa, fi, iv, gi, k⟩ := h
    refine ⟨_, (pss_cons (ps_expr (pe_call G_check_fair hr rfl T.g_check_fair T.k_check_fair b_check_fair .nil pass0 (pa_cons (pv 0) pa_nil)))
      (pss_cons (ps_expr (pe_call G_check_meetings hr rfl T.g_check_meetings T.k_check_meetings b_check_meetings .nil pass0 (pa_cons (pv 0) (pa_cons (pv 1) pa_nil))))
      (pss_one (ps_ret (pe_call G_least_rounds hr rfl T.g_least_rounds T.k_least_rounds b_least_rounds .nil pass0 (pa_cons (pv 0) (pa_cons (pv 1) pa_nil))))))), ?_⟩
    refine ⟨_, rfl, p, hs, gs, t, rfl, fa, ?_⟩
    refine ⟨_, rfl, _, rfl, p, v, hs, gs, t, g, rfl, fa, fi, iv, gi, fun X sX => ?_⟩
    exact ⟨_, rfl, _, rfl, p, v, hs, gs, t, g, rfl, fa.same sX, fi, iv.to (Tk.same sX) _ _, gi, fun m Y sY hm => k m Y (sX.trans sY) hm⟩
end
end F02
namespace F02
open PySem PySem.Spec PyProof.Rows L2 MG SP LT
theorem Jug.new {H : Hp} {p D : Addr} {N : Nat} {o : HO} (J : Jug H p N) (nD : H D = none) : Jug (upd H D o) p N := J.but fun _ e => (upd_ne (J.ne nD).symm).trans e
section
variable {P : Program} {w : World} {K : PySem.W.Frag} {mg : Str → Option Value} {base : Heap}
/-! ### _law_number -/
abbrev s_l_number : Stmt := top 47
theorem sc_l_number : FnScope ["_law_jug_here", "_law_way", "_law_any_here"] ["_law_jug_here", "_law_way"] (defScope s_l_number) := ⟨rfl, rfl, rfl, by decide +kernel, rfl, by decide +kernel, by decide +kernel⟩
def sp_l_number : Sp := fun vs H Q _ => ∃ (p : Addr) (way : Int) (N : Nat), vs = [.ref p, .int way] ∧ Jug H p N ∧ N + 3 ≤ 1000000 ∧ 0 ≤ way ∧ way < 3 ∧
  ∀ (x : Int) (H' : Hp), 0 ≤ x → x ≤ 1000000000000000000000000000000 → But p H H' → Jug H' p (N + 3) → Q (.int x) H'
theorem ok_l_number {f f_l_pour : Addr} {fd fd_l_pour : FuncData} (F : Fun K "_law_number" "_law_number" s_l_number f fd) (g_l_pour : mg "_law_pour" = some (.ref f_l_pour)) (k_l_pour : PySem.W.keepIn K (.ref f_l_pour) = true)
    (G_l_pour : FnOk P w K mg base CX0 1 f_l_pour fd_l_pour ["_law_jug_here", "_law_many"] sp_l_pour) (b_l_pour : Binds K fd_l_pour ["_law_jug_here", "_law_many"] []) :
    FnOk P w K mg base CX0 2 f fd ["_law_jug_here", "_law_way"] sp_l_number := by
  refine F.ok sc_l_number (fun vs H Q E h => ?_) (fun cdv A outer s H vs Q E hr h => ?_)
  · obtain ⟨p, way, N, rfl, _⟩ := h
    rfl
  · obtain ⟨p, way, N, rfl, J, hN, w0, w3, k⟩ := h
    refine ⟨_, (pss_cons (ps_if (pt_cmpR op_lt (pv 1) pe_int (nomark _))
        (pss_one (ps_ret (pe_call G_l_pour hr rfl g_l_pour k_l_pour b_l_pour .nil pass0 (pa_cons (pv 0) (pa_cons (pe_ix ix_list (pe_lst (pa_cons pe_int (pa_cons pe_int pa_nil))) (pv 1) (fun _ _ => rfl)) pa_nil)))))
        pss_nil)
      (pss_cons (ps_set (i := 2) sc_l_number.nd rfl (Or.inl rfl) (pe_op op_add (pe_op op_mul (pe_call G_l_pour hr rfl g_l_pour k_l_pour b_l_pour .nil pass0 (pa_cons (pv 0) (pa_cons (pe_op op_pow pe_int pe_int) pa_nil))) (pe_op op_pow pe_int pe_int)) (pe_call G_l_pour hr rfl g_l_pour k_l_pour b_l_pour .nil pass0 (pa_cons (pv 0) (pa_cons (pe_op op_pow pe_int pe_int) pa_nil)))))
      (pss_one (ps_ret (pe_ix ix_list (pe_lst (pa_cons pe_int (pa_cons (pe_op op_pow pe_int pe_int) (pa_cons (pe_op op_sub (pe_op op_pow pe_int pe_int) pe_int) (pa_cons (pv 2) (pa_cons (pv 2) (pa_cons (pe_op op_fdiv (pv 2) (pe_op op_pow pe_int pe_int)) pa_nil))))))) (pe_call G_l_pour hr rfl g_l_pour k_l_pour b_l_pour .nil pass0 (pa_cons (pv 0) (pa_cons pe_int pa_nil))) (fun _ _ => rfl)))))), ?_⟩
    have e15 : (10 : Int) ^ (15 : Int).toNat = 1000000000000000 := by decide
    have e30 : (10 : Int) ^ (30 : Int).toNat = 1000000000000000000000000000000 := by decide
    have e9 : (10 : Int) ^ (9 : Int).toNat = 1000000000 := by decide
    have cp : ∀ j : Int, 0 ≤ j → j ≤ 100 → CPow 10 j := fun j h1 h2 => ⟨h1, by omega, by decide⟩
    refine ⟨_, rfl, _, _, rfl, rfl, _, rfl, ?_⟩
    refine ite2 (fun h0 => ?_) (fun h0 => ?_)
    · have h0' : way < 2 := of_decide_eq_true h0
      refine ⟨_, rfl, by show 2 ≤ sizeLine; decide, fun D nD => ?_⟩
      have jD : Jug (upd H D (.lst [.int 4, .int 30])) p N := J.new nD
      have bD : But p H (upd H D (.lst [.int 4, .int 30])) := But.new But.refl nD
      rcases (show way = 0 ∨ way = 1 by omega) with rfl | rfl
      · refine ⟨_, rfl, D, _, _, _, rfl, rfl, SqL.of upd_same, rfl, p, 4, N, rfl, jD, by omega, by decide, by decide, fun r H1 r0 r1 b1 j1 => ?_⟩
        exact k r H1 r0 (by omega) (bD.trans b1) (j1.le (by omega))
      · refine ⟨_, rfl, D, _, _, _, rfl, rfl, SqL.of upd_same, rfl, p, 30, N, rfl, jD, by omega, by decide, by decide, fun r H1 r0 r1 b1 j1 => ?_⟩
        exact k r H1 r0 (by omega) (bD.trans b1) (j1.le (by omega))
    · skip
      refine ⟨_, rfl, _, _, rfl, rfl, cp _ (by decide) (by decide), p, (10 : Int) ^ (15 : Int).toNat, N, rfl, J, by omega, by decide, by decide, fun a H1 a0 a1 b1 j1 => ?_⟩
      rw [e15] at a1
      refine ⟨_, _, rfl, rfl, cp _ (by decide) (by decide), _, _, rfl, rfl, .inr ⟨by decide, by decide⟩, ?_⟩
      refine ⟨_, rfl, _, _, rfl, rfl, cp _ (by decide) (by decide), p, (10 : Int) ^ (15 : Int).toNat, N + 1, rfl, j1, by omega, by decide, by decide, fun b H2 b0 b1' b2 j2 => ?_⟩
      rw [e15] at b1'
      refine ⟨_, _, rfl, rfl, ?_⟩
      rw [e15]
      have x0 : 0 ≤ a * 1000000000000000 + b := by omega
      have x1 : a * 1000000000000000 + b < 1000000000000000000000000000000 := by omega
      refine ⟨_, _, rfl, rfl, cp _ (by decide) (by decide), _, _, rfl, rfl, cp _ (by decide) (by decide), _, _, rfl, rfl, _, rfl, _, rfl, _, rfl, _, _, rfl, rfl, cp _ (by decide) (by decide), _, _, rfl, rfl, ⟨by decide, by decide⟩, by show 6 ≤ sizeLine; decide, fun D nD => ?_⟩
      dsimp only
      rw [e30, e9]
      generalize a * 1000000000000000 + b = x at x0 x1 ⊢
      refine ⟨_, rfl, p, 6, N + 2, rfl, j2.new nD, by omega, by decide, by decide, fun r H3 r0 r1 b3 j3 => ?_⟩
      have hD := b3 D _ (j2.ne nD) upd_same
      have bH : But p H H3 := ((b1.trans b2).new nD).trans b3
      have y0 : 0 ≤ x / 1000000000 := Int.ediv_nonneg x0 (by decide)
      have y1 : x / 1000000000 ≤ 1000000000000000000000000000000 := by omega
      have jj := j3.le (show N + 2 + 1 ≤ N + 3 by omega)
      rcases (show r = 0 ∨ r = 1 ∨ r = 2 ∨ r = 3 ∨ r = 4 ∨ r = 5 by omega) with rfl | rfl | rfl | rfl | rfl | rfl
      · exact ⟨D, _, _, _, rfl, rfl, SqL.of hD, rfl, k _ H3 (by decide) (by decide) bH jj⟩
      · exact ⟨D, _, _, _, rfl, rfl, SqL.of hD, rfl, k _ H3 (by decide) (by decide) bH jj⟩
      · exact ⟨D, _, _, _, rfl, rfl, SqL.of hD, rfl, k _ H3 (by decide) (by decide) bH jj⟩
      · exact ⟨D, _, _, _, rfl, rfl, SqL.of hD, rfl, k _ H3 x0 (by omega) bH jj⟩
      · exact ⟨D, _, _, _, rfl, rfl, SqL.of hD, rfl, k _ H3 x0 (by omega) bH jj⟩
      · exact ⟨D, _, _, _, rfl, rfl, SqL.of hD, rfl, k _ H3 y0 y1 bH jj⟩
end
end F02
namespace F02
open PySem PySem.Spec PyProof.Rows L2 MG SP LT
theorem RowsAt.snoc {K : PySem.W.Frag} {H : Hp} {a : Addr} {r : List Int} : ∀ {as : List Addr} {g : Grid}, RowsAt K H as g → SqT K H a (r.map V.int) → RowsAt K H (as ++ [a]) (g ++ [r])
  | [], [], _, h => ⟨h, trivial⟩
  | _ :: _, _ :: _, h, h2 => ⟨h.1, RowsAt.snoc h.2 h2⟩
  | [], _ :: _, h, _ => h.elim
  | _ :: _, [], h, _ => h.elim
theorem Tk.mut {H : Hp} {D : Addr} {ys : List V} {o : HO} (h : H D = some (.lst ys)) : Tk H (upd H D o) := Tk.but (But.own But.refl) h
theorem im_of_rows {K : PySem.W.Frag} {H : Hp} : ∀ {as : List Addr} {g : Grid}, RowsAt K H as g → ImAll K H (as.map V.ref) (g.map rowD)
  | [], [], _ => .nil
  | _ :: _, _ :: _, h => .cons (im_of_row h.1) (im_of_rows h.2)
  | [], _ :: _, h => h.elim
  | _ :: _, [], h => h.elim
theorem im_of_grid {K : PySem.W.Frag} {H : Hp} {a : Addr} {as : List Addr} {g : Grid} (h1 : SqT K H a (as.map V.ref)) (h2 : RowsAt K H as g) : Im K H (.ref a) (gridD g) := .tup h1 (im_of_rows h2)
abbrev RTup (K : PySem.W.Frag) : List V → Hp → VK → Prop := fun xs H Q => ∃ p ys, xs = [V.ref p] ∧ ((SqL K H p ys ∧ ∀ l, H l = none → Q (.ref l) (upd H l (.tup ys))) ∨ (SqT K H p ys ∧ Q (.ref p) H))
section
variable {P : Program} {w : World} {K : PySem.W.Frag} {mg : Str → Option Value} {base : Heap}
/-! ### _law_grid -/
abbrev s_l_grid : Stmt := top 48
theorem sc_l_grid : FnScope ["_law_jug_here", "_law_parts_here", "_law_way", "_law_two", "_law_one"] ["_law_jug_here", "_law_parts_here", "_law_way"] (defScope s_l_grid) := ⟨rfl, rfl, rfl, by decide +kernel, rfl, by decide +kernel, by decide +kernel⟩
abbrev scTwo : Scope := { kind := ScopeKind.function, names := [(".0", NameKind.local), ("_law_two", NameKind.local), ("tuple", NameKind.globalImplicit), ("_law_jug_here", NameKind.cell), ("_law_parts_here", NameKind.cell), ("_law_way", NameKind.cell)], isGenerator := false, isCoroutine := false, more := [] }
def sp_l_grid (K : PySem.W.Frag) : Sp := fun vs H Q _ => ∃ (p : Addr) (v : V) (way : Int) (N : Nat) (hs gs : Side) (t : Option Int), vs = [.ref p, v, .int way] ∧ Jug H p N ∧ N + 48 ≤ 1000000 ∧ 0 ≤ way ∧ way < 3 ∧ Im K H v (partsD hs gs t) ∧ hs.length ≤ 4 ∧ gs.length ≤ 4 ∧
  ∀ (q : Addr) (g : Grid) (H' : Hp), Im K H' (.ref q) (gridD g) → Gridish g hs.length gs.length → But p H H' → Jug H' p (N + 48) → Q (.ref q) H'
structure TxGr (K : PySem.W.Frag) (mg : Str → Option Value) (f_l_number : Addr) : Prop where
  n_tuple : mg "tuple" = none
  g_l_number : mg "_law_number" = some (.ref f_l_number)
  k_l_number : PySem.W.keepIn K (.ref f_l_number) = true
theorem ok_l_grid {f f_l_number : Addr} {fd fd_l_number : FuncData} (F : Fun K "_law_grid" "_law_grid" s_l_grid f fd) (T : TxGr K mg f_l_number)
    (G_l_number : FnOk P w K mg base CX0 2 f_l_number fd_l_number ["_law_jug_here", "_law_way"] sp_l_number) (b_l_number : Binds K fd_l_number ["_law_jug_here", "_law_way"] []) :
    FnOk P w K mg base CX0 3 f fd ["_law_jug_here", "_law_parts_here", "_law_way"] (sp_l_grid K) := by
  refine F.ok sc_l_grid (fun vs H Q E h => ?_) (fun cdv A outer s H vs Q E hr h => ?_)
  · obtain ⟨p, v, way, N, hs, gs, t, rfl, _⟩ := h
    rfl
  · obtain ⟨p, v, way, N, hs, gs, t, rfl, J, hN, w0, w3, iv, h4, g4, k⟩ := h
    obtain ⟨pp, vh, vg, rfl, hp, ih, ig⟩ := im_parts iv
    obtain ⟨a, xs, rfl, ha, hx⟩ := im_side ih
    obtain ⟨b, ys, rfl, hb, hy⟩ := im_side ig
    have lx : xs.length = hs.length := by rw [hx.length, List.length_map]
    have ly : ys.length = gs.length := by rw [hy.length, List.length_map]
    refine ⟨_, (pss_one (ps_ret (pe_callTy call_tuple_of (by rfl) T.n_tuple (by decide +kernel) (pa_cons (pe_lc (own := [("_law_two", 3)]) (g := gName 3) (tt := tYes) rfl sc_l_grid.nd (pi_tup (pe_ix (r := rIxT K) ix_tup (pv 1) pe_int (fun _ _ => rfl))) (blkOk_by (own := [("_law_two", 3)]) (N := ["_law_jug_here", "_law_parts_here", "_law_way", "_law_two", "_law_one"]) (sc := defScope s_l_grid) (by decide +kernel)) (fun _ _ _ _ _ => (pg_name (i := 3) sc_l_grid.nd rfl (Or.inl rfl))) (fun _ _ _ _ _ => pts_nil) (fun _ _ _ _ _ => (pe_callTy (T := "tuple") (r := RTup K) call_tuple_of (by rfl) T.n_tuple (by decide +kernel) (pa_cons (pe_lc (own := [("_law_one", 4)]) (g := gName 4) (wi := iTup K (tOp (rIxT K) (tVar 1) (tC (.int 1)))) (te := tCall sp_l_number [] E0 (tCons (tVar 0) (tCons (tVar 2) tNil))) (tt := tYes) rfl sc_l_grid.nd (pi_tup (pe_ix (r := rIxT K) ix_tup (pv 1) pe_int (fun _ _ => rfl))) (blkOk_by (own := [("_law_one", 4)]) (N := ["_law_jug_here", "_law_parts_here", "_law_way", "_law_two", "_law_one"]) (sc := scTwo) (by decide +kernel)) (fun _ _ _ _ _ => (pg_name (i := 4) sc_l_grid.nd rfl (Or.inl rfl))) (fun _ _ _ _ _ => pts_nil) (fun _ _ _ _ _ => (pe_call G_l_number hr rfl T.g_l_number T.k_l_number b_l_number .nil pass0 (pa_cons (pv 0) (pa_cons (pv 2) pa_nil))))) pa_nil)))) pa_nil)))), ?_⟩
    refine ⟨_, rfl, pp, _, 0, _, rfl, rfl, hp, rfl, a, rfl, ⟨_, ha⟩, fun D nD => ?_⟩
    have nDp := J.ne nD
    refine lc_tup (K := K) (a := a) (xs := xs) (fun j G => ∃ (as : List Addr) (g : Grid), as.length = j ∧ G D = some (.lst (as.map V.ref)) ∧ RowsAt K G as g ∧ (∀ r ∈ g, r.length = gs.length ∧ ∀ x ∈ r, 0 ≤ x ∧ x ≤ 1000000000000000000000000000000) ∧ But p H G ∧ Jug G p (N + 12 * j))
      ⟨[], [], rfl, upd_same, trivial, (fun _ h => nomatch h), But.new But.refl nD, J.new nD⟩ (fun j G _ ⟨_, _, _, _, _, _, bG, _⟩ => (Tk.jug bG J).sq ha) ?_ ?_
    · rintro j y G hj ⟨as, g, la, gD, rg, bd, bG, jG⟩
      have hj4 : j < 4 := by
        have := (List.getElem?_eq_some_iff.mp hj).1
        omega
      have tkG := Tk.jug bG J
      refine ⟨rfl, tyes (iteT ⟨_, rfl, pp, _, 1, _, rfl, rfl, tkG.sq hp, rfl, b, rfl, ⟨_, tkG.sq hb⟩, fun D2 nD2 => ?_⟩)⟩
      have nD2p := jG.ne nD2
      have nDD : D ≠ D2 := ne_of_none gD nD2
      refine lc_tup (K := K) (a := b) (xs := ys) (fun i X => ∃ ns : List Int, ns.length = i ∧ X D2 = some (.lst (ns.map V.int)) ∧ (∀ x ∈ ns, 0 ≤ x ∧ x ≤ 1000000000000000000000000000000) ∧ But p G X ∧ Jug X p (N + 12 * j + 3 * i))
        ⟨[], rfl, upd_same, (fun _ h => nomatch h), But.new But.refl nD2, jG.new nD2⟩ (fun i X _ ⟨_, _, _, _, bX, _⟩ => (Tk.jug (bG.trans bX) J).sq hb) ?_ ?_
      · rintro i y2 X hi ⟨ns, ln, xD, bn, bX, jX⟩
        have hi4 : i < 4 := by
          have := (List.getElem?_eq_some_iff.mp hi).1
          omega
        refine ⟨rfl, tyes (iteT ⟨_, rfl, _, rfl, p, way, N + 12 * j + 3 * i, rfl, jX, by omega, w0, w3, fun x X' x0 x1 b' j' => ?_⟩)⟩
        have xD' := b' D2 _ nD2p xD
        refine ⟨_, xD', ?_, ns ++ [x], by rw [List.length_append, ln]; rfl, ?_, ?_, ?_, ?_⟩
        · rw [List.length_map]
          exact Nat.lt_of_lt_of_le (show _ < 100 by omega) (by decide)
        · rw [upd_same, List.map_append]
          rfl
        · intro z hz
          rcases List.mem_append.mp hz with hz | hz
          · exact bn z hz
          · rw [List.mem_singleton] at hz
            subst hz
            exact ⟨x0, x1⟩
        · exact (bX.trans b').mut nD2
        · exact (j'.but fun o e => (upd_ne nD2p.symm).trans e).le (by omega)
      · rintro X ⟨ns, ln, xD, bn, bX, jX⟩
        refine ⟨D2, _, rfl, .inl ⟨SqL.of xD, fun T nT => ?_⟩⟩
        have xDD := bX D _ nDp gD
        have bT := bX.new (o := .tup (ns.map V.int)) nT
        have nTD : D ≠ T := ne_of_none xDD nT
        have xDT := (upd_ne (o := .tup (ns.map V.int)) nTD).trans xDD
        have rT : RowsAt K (upd X T (.tup (ns.map V.int))) as g := rg.to (Tk.jug bT jG)
        refine ⟨_, xDT, ?_, as ++ [T], g ++ [ns], by rw [List.length_append, la]; rfl, ?_, ?_, ?_, ?_, ?_⟩
        · rw [List.length_map]
          exact Nat.lt_of_lt_of_le (show _ < 100 by omega) (by decide)
        · rw [upd_same, List.map_append]
          rfl
        · exact (rT.snoc (SqT.of upd_same)).to (Tk.mut xDT)
        · intro r hr
          rcases List.mem_append.mp hr with hr | hr
          · exact bd r hr
          · rw [List.mem_singleton] at hr
            subst hr
            exact ⟨by omega, bn⟩
        · exact (bG.trans bT).mut nD
        · exact ((jX.new nT).but fun o e => (upd_ne nDp.symm).trans e).le (by omega)
    · rintro G ⟨as, g, la, gD, rg, bd, bG, jG⟩
      refine ⟨D, _, rfl, .inl ⟨SqL.of gD, fun T nT => ?_⟩⟩
      have lg := rg.length
      refine k T g _ (im_of_grid (SqT.of upd_same) (rg.to (Tk.same (same_new (Same.refl G) nT)))) ⟨by omega, fun r hr => (bd r hr).1, fun r hr x hx => ((bd r hr).2 x hx).1, fun r hr x hx => ((bd r hr).2 x hx).2⟩ (bG.new nT) ((jG.new nT).le (by omega))
end
end F02
/-! a def called by keywords alone -/
namespace KW
open PySem PySem.Spec PyProof.Rows L2
section
variable {X : Cx} {CX : CXT} {k : Nat} {f : Addr} {fd : FuncData} {ps ks : List Str} {sp : Sp} {E : XK} {x : Str} {p pos : Pos} {kws : List Keyword} {tk : TA} {g : List Value → List Value → List Value} {gV : List V → List V → List V}
theorem pe_callK0 (F : FnOk X.prog X.w X.K X.mg X.base CX k f fd ps sp) (hr : Room k X.A) (hg : Gl X x) (hm : X.mg x = some (.ref f)) (hk : PySem.W.keepIn X.K (.ref f) = true) (hb : KBn X.K fd ps 0 ks g gV) (hx : Passes CX X E)
    (hkw : PK X kws tk) (hall : (backToKw pos (keywordEach kws X.env)).all (·.1.isSome) = true := by rfl) (hks : (backToKw pos (keywordEach kws X.env)).filterMap (·.1) = ks := by rfl)
    (hdb : (x == ("__debug__" : Str)) = false := by decide)
    (hpl : ((backTo pos (starEach [] X.env)).any (·.1) || (backToKw pos (keywordEach kws X.env)).any (·.1.isNone)) = false := by rfl) :
    PE X (.Call (.Name x p) [] kws pos) (fun σ H Q => tk σ H fun zs H2 => zs.length = ks.length ∧ sp (gV [] zs) H2 Q E) := by
  refine ⟨fun pins s σ H Q I h => ?_⟩
  refine wpAny_Call_Name_kw (ld_glob I hg hm ?_ hdb)
  refine PySem.W.callWith_KW0 (h₀ := X.base) I.ok.mod.kin hk hall ?_ hpl
  refine thn (hkw.run pos pins s σ H _ I h) fun ws s2 ⟨zs, H2, I2, rz, lz, q2⟩ => ⟨I2.kIn, ?_⟩
  rw [hks]
  have r2 := hb.rel (vs := []) (us := []) .nil rz
  have hl : (g [] ws).length = ps.length := by rw [← r2.length]; exact F.len _ _ _ _ q2
  refine wpAny_call (codeAny_mono (F.run X.A X.stack s2 H2 ⟨[], ks.zip ws⟩ (g [] ws) (gV [] zs) Q E hr I2.env0 (hb.to s2 [] ws I2.kIn rfl (by rw [← rz.length]; exact lz)) r2 q2) fun r s' hq => ?_)
  cases r with
  | error e => exact hx pins σ H2 s2 e s' I2 hq
  | ok fl =>
    cases fl with
    | ret u => exact I2.after hq
    | next => exact False.elim hq
    | brk => exact False.elim hq
    | cont => exact False.elim hq
end
/-- two values, the other way round -/
def sw {α : Type} (us ws : List α) : List α := match ws with
  | [a, b] => us ++ [b, a]
  | _ => us
theorem kb_two {K : PySem.W.Frag} {x qual : Str} {st : Stmt} {f : Addr} {fd : FuncData} {n1 n2 : Str} (F : Fun K x qual st f fd)
    (h : ∀ (kV doc pm : Value) (an : Option Addr) (cdv ct : Value) (a b : Value), bindArgs (PySem.W.fnOf x qual (defArgs st) (defBody st) (defScope st) .none kV doc pm an cdv ct) ⟨[], [(n2, a), (n1, b)]⟩ = pure [(n1, b), (n2, a)]) :
    KBn K fd [n1, n2] 0 [n2, n1] sw sw := by
  obtain ⟨oc, od, kV, doc, pm, an, cdv, ct, osl, rfl, lk, hcd⟩ := F.ex
  refine ⟨fun s us ws X l1 l2 => ?_, fun {vs us zs ws} r1 r2 => ?_⟩
  · obtain rfl : us = [] := List.length_eq_zero_iff.mp l1
    obtain ⟨a, b, rfl⟩ : ∃ a b, ws = [a, b] := by
      match ws, l2 with
      | [a, b], _ => exact ⟨a, b, rfl⟩
    exact .of_eq (h kV doc pm an cdv ct a b)
  · cases r2 with
    | nil => exact r1
    | cons x1 r2 =>
      cases r2 with
      | nil => exact r1
      | cons x2 r2 =>
        cases r2 with
        | nil => exact r1.append (.cons x2 (.cons x1 .nil))
        | cons x3 r2 => exact r1
end KW
namespace F02
open PySem PySem.Spec PyProof.Rows L2 MG SP LT
/-! ### _reasons, binding -/
def hostR (z : Str × Int) : PyData := .tuple [.str "host", .str z.1]
def guestR (z : Str × Int) : PyData := .tuple [.str "guest", .str z.1]
def tablesR : PyData := .tuple [.str "tables"]
def reasonL (hs gs : Side) : List PyData := hs.map hostR ++ List.replicate (hs.length * gs.length) .none ++ gs.map guestR ++ [tablesR]
theorem Tk.mut0 {H : Hp} {D : Addr} {ys : List V} {o : HO} (h : H D = some (.lst ys)) : Tk H (upd H D o) := Tk.but (But.own But.refl) h
theorem im_nones {K : PySem.W.Frag} {H : Hp} : ∀ n : Nat, ImAll K H (List.replicate n V.non) (List.replicate n PyData.none)
  | 0 => .nil
  | n + 1 => .cons .non (im_nones n)
section
variable {P : Program} {w : World} {K : PySem.W.Frag} {mg : Str → Option Value} {base : Heap} {C p_hosts p_guests p_tables f_hosts f_guests f_tables : Addr} {d_hosts d_guests d_tables : FuncData}
/-- one more pair of two texts at the end of a list under way -/
theorem acc_pair {H X : Hp} {D T : Addr} {xs : List V} {ds : List PyData} {a b : Str} (nD : H D = none) (l4 : xs.length ≤ 64) (z1 : X D = some (.lst xs)) (im : ImAll K X xs ds) (s : Same H X) (nT : X T = none) :
    ∃ acc, (upd X T (.tup [.str a, .str b])) D = some (.lst acc) ∧ acc.length < sizeLine ∧ ∃ xs', (upd (upd X T (.tup [.str a, .str b])) D (.lst (acc ++ [.ref T]))) D = some (.lst xs') ∧ xs'.length = xs.length + 1 ∧
      ImAll K (upd (upd X T (.tup [.str a, .str b])) D (.lst (acc ++ [.ref T]))) xs' (ds ++ [.tuple [.str a, .str b]]) ∧ Same H (upd (upd X T (.tup [.str a, .str b])) D (.lst (acc ++ [.ref T]))) := by
  have sT := same_new (o := .tup [.str a, .str b]) (Same.refl X) nT
  have z2 := (upd_ne (o := .tup [.str a, .str b]) (ne_of_none z1 nT)).trans z1
  refine ⟨xs, z2, Nat.lt_of_lt_of_le (show _ < 100 by omega) (by decide), xs ++ [.ref T], upd_same, by rw [List.length_append]; rfl, ?_, fun c o h => ?_⟩
  · refine ImAll.append ((im.to (Tk.same sT) _ _).to (Tk.mut0 z2) _ _) (.cons (.tup ((Tk.mut0 z2).sq (SqT.of upd_same)) (.cons (.str a) (.cons (.str b) .nil))) .nil)
  · rw [upd_ne (ne_of_none h nD)]
    exact sT _ _ (s _ _ h)
abbrev s_reasons : Stmt := top 36
theorem sc_reasons : FnScope ["fair", "hosts", "guests", "name", "_"] ["fair"] (defScope s_reasons) := ⟨rfl, rfl, rfl, by decide +kernel, rfl, by decide +kernel, by decide +kernel⟩
def sp_reasons (K : PySem.W.Frag) (C : Addr) : Sp := fun vs H Q _ => ∃ (p : Addr) (hs gs : Side) (t : Option Int), vs = [.ref p] ∧ FairAt K C H p hs gs t ∧ hs.length ≤ 4 ∧ gs.length ≤ 4 ∧
  ∀ q xs H', Same H H' → H' q = some (.lst xs) → ImAll K H' xs (reasonL hs gs) → Q (.ref q) H'
theorem ok_reasons {f : Addr} {fd : FuncData} (F : Fun K "_reasons" "_reasons" s_reasons f fd) (T : TxC K mg C) (D : TxG K C p_hosts p_guests p_tables f_hosts f_guests f_tables) (G : GG3 P w K mg base C f_hosts f_guests f_tables d_hosts d_guests d_tables) : FnOk P w K mg base CX0 3 f fd ["fair"] (sp_reasons K C) := by
  have G_hosts := G.hosts
  have G_guests := G.guests
  refine F.ok sc_reasons (fun vs H Q E h => ?_) (fun cdv A outer s H vs Q E hr h => ?_)
  · obtain ⟨p, hs, gs, t, rfl, _⟩ := h
    rfl
  · obtain ⟨p, hs, gs, t, rfl, fa, h4, g4, k⟩ := h
    obtain ⟨dx, vh, vg, n, f1, f2, f3, f4⟩ := id fa
    obtain ⟨a, xs, rfl, ha, hx⟩ := im_side f2
    obtain ⟨b, ys, rfl, hb, hy⟩ := im_side f3
    refine ⟨_, (pss_cons (ps_setLc (i := 1) (own := [("name", 3), ("_", 4)]) (g := gTup K 2 (gCons (gName 3) (gCons (gName 4) gNil))) (te := tTup (tCons (tC (.str "host")) (tCons (tVar 3) tNil))) (tt := tYes) rfl sc_reasons.nd rfl rfl (sw_true rfl rfl rfl (by decide +kernel)) (pi_tup (pe_prop (pv 0) T.cl D.p_hosts G_hosts hr G.b_hosts .nil pass0 rfl)) (blkOk_by (own := [("name", 3), ("_", 4)]) (N := ["fair", "hosts", "guests", "name", "_"]) (sc := defScope s_reasons) (by decide +kernel)) (fun _ _ _ _ _ => (pg_tup rfl (pgs_cons (pg_name (i := 3) sc_reasons.nd rfl (Or.inl rfl)) (pgs_cons (pg_name (i := 4) sc_reasons.nd rfl (Or.inl rfl)) pgs_nil)))) (fun _ _ _ _ _ => pts_nil) (fun _ _ _ _ _ => (pe_tup (pa_cons pe_str (pa_cons (pv 3) pa_nil)))))
      (pss_cons (ps_setLc (i := 2) (own := [("name", 3), ("_", 4)]) (g := gTup K 2 (gCons (gName 3) (gCons (gName 4) gNil))) (te := tTup (tCons (tC (.str "guest")) (tCons (tVar 3) tNil))) (tt := tYes) rfl sc_reasons.nd rfl rfl (sw_true rfl rfl rfl (by decide +kernel)) (pi_tup (pe_prop (pv 0) T.cl D.p_guests G_guests hr G.b_guests .nil pass0 rfl)) (blkOk_by (own := [("name", 3), ("_", 4)]) (N := ["fair", "hosts", "guests", "name", "_"]) (sc := defScope s_reasons) (by decide +kernel)) (fun _ _ _ _ _ => (pg_tup rfl (pgs_cons (pg_name (i := 3) sc_reasons.nd rfl (Or.inl rfl)) (pgs_cons (pg_name (i := 4) sc_reasons.nd rfl (Or.inl rfl)) pgs_nil)))) (fun _ _ _ _ _ => pts_nil) (fun _ _ _ _ _ => (pe_tup (pa_cons pe_str (pa_cons (pv 3) pa_nil)))))
      (pss_one (ps_ret (pe_op op_cat (pe_op op_cat (pe_op op_cat (pv 1) (pe_op op_rep (pe_lst (pa_cons pe_non pa_nil)) (pe_op op_mul (pe_callB call_len_seq (by rfl) T.n_len PySem.boot_len (pa_cons (pv 1) pa_nil)) (pe_callB call_len_seq (by rfl) T.n_len PySem.boot_len (pa_cons (pv 2) pa_nil))))) (pv 2)) (pe_lst (pa_cons (pe_tup (pa_cons pe_str pa_nil)) pa_nil))))))), ?_⟩
    have lx : xs.length = hs.length := by rw [hx.length, List.length_map]
    have ly : ys.length = gs.length := by rw [hy.length, List.length_map]
    refine ⟨_, rfl, p, dx, _, rfl, f1, ⟨p, dx, _, _, rfl, f1, ff_hosts _ _ _ _ _, a, rfl, ⟨_, ha⟩, fun D1 nD1 => ?_⟩⟩
    refine lc_tup (K := K) (a := a) (xs := xs) (fun j X => ∃ us, X D1 = some (.lst us) ∧ us.length = j ∧ ImAll K X us ((hs.take j).map hostR) ∧ Same H X) ⟨[], upd_same, rfl, .nil, same_new (Same.refl H) nD1⟩ (fun j X _ ⟨_, _, _, _, z⟩ => (Tk.same z).sq ha) ?_ ?_
    · rintro j y X hy' ⟨us, z1, lu, z2, z3⟩
      obtain ⟨z, c, ez, rfl, hc⟩ := pair_at hx hy'
      have hj : j < hs.length := (List.getElem?_eq_some_iff.mp ez).1
      have e1 : (hs.take (j + 1)).map hostR = (hs.take j).map hostR ++ [hostR z] := by rw [List.take_add_one, ez, List.map_append]; rfl
      refine ⟨c, _, rfl, (Tk.same z3).sq hc, rfl, _, _, rfl, _, _, rfl, rfl, rfl, tyes (iteT ⟨_, rfl, (by show 2 ≤ sizeLine; decide), fun T nT => ?_⟩)⟩
      obtain ⟨acc, q1, q2, xs', q3, q4, q5, q6⟩ := acc_pair (a := "host") (b := z.1) nD1 (by omega) z1 z2 z3 nT
      refine ⟨acc, q1, q2, xs', q3, by omega, ?_, q6⟩
      rw [e1]
      exact q5
    · rintro X ⟨us, z1, lu, z2, s1⟩
      rw [lx, List.take_length] at z2
      have f1X := s1 _ _ f1
      refine ⟨_, rfl, p, dx, _, rfl, f1X, ⟨p, dx, _, _, rfl, f1X, ff_guests _ _ _ _ _, b, rfl, ⟨_, (Tk.same s1).sq hb⟩, fun D2 nD2 => ?_⟩⟩
      refine lc_tup (K := K) (a := b) (xs := ys) (fun j Y => ∃ ws, Y D2 = some (.lst ws) ∧ ws.length = j ∧ ImAll K Y ws ((gs.take j).map guestR) ∧ Same X Y) ⟨[], upd_same, rfl, .nil, same_new (Same.refl X) nD2⟩ (fun j Y _ ⟨_, _, _, _, z⟩ => (Tk.same (s1.trans z)).sq hb) ?_ ?_
      · rintro j y Y hy' ⟨ws, w1, lw, w2, w3⟩
        obtain ⟨z, c, ez, rfl, hc⟩ := pair_at hy hy'
        have hj : j < gs.length := (List.getElem?_eq_some_iff.mp ez).1
        have e1 : (gs.take (j + 1)).map guestR = (gs.take j).map guestR ++ [guestR z] := by rw [List.take_add_one, ez, List.map_append]; rfl
        refine ⟨c, _, rfl, (Tk.same (s1.trans w3)).sq hc, rfl, _, _, rfl, _, _, rfl, rfl, rfl, tyes (iteT ⟨_, rfl, (by show 2 ≤ sizeLine; decide), fun T nT => ?_⟩)⟩
        obtain ⟨acc, q1, q2, xs', q3, q4, q5, q6⟩ := acc_pair (a := "guest") (b := z.1) nD2 (by omega) w1 w2 w3 nT
        refine ⟨acc, q1, q2, xs', q3, by omega, ?_, q6⟩
        rw [e1]
        exact q5
      · rintro Y ⟨ws, w1, lw, w2, s2⟩
        rw [ly, List.take_length] at w2
        rw [lx] at lu
        rw [ly] at lw
        have q1 := s2 _ _ z1
        have i1 := z2.to (Tk.same s2) _ _
        have sA := s1.trans s2
        have big : ∀ m, m ≤ 100 → m ≤ sizeLine := fun m h => Nat.le_trans h (by decide)
        have pr : hs.length * gs.length ≤ 16 := Nat.le_trans (Nat.mul_le_mul h4 g4) (by decide)
        refine ⟨_, rfl, big _ (by simp), fun p0 np0 => ?_⟩
        have t0 := same_new (o := .lst [V.non]) sA np0
        have u0 := same_new (o := .lst [V.non]) (Same.refl Y) np0
        have q1' := u0 _ _ q1
        have q2' := u0 _ _ w1
        refine ⟨_, rfl, D1, _, rfl, .inl (SqL.of q1'), _, rfl, D2, _, rfl, .inl (SqL.of q2'), _, _, rfl, rfl, .inl ⟨by omega, by omega⟩, ?_⟩
        rw [lu, lw]
        have em : (((hs.length : Nat) : Int) * ((gs.length : Nat) : Int)).toNat = hs.length * gs.length := by
          rw [← Int.natCast_mul]
          exact Int.toNat_natCast _
        refine ⟨p0, _, _, rfl, rfl, upd_same, by omega, by omega, ?_, fun pa npa => ?_⟩
        · rw [em]
          exact big _ (by show 1 * _ ≤ 100; omega)
        rw [em, show (List.replicate (hs.length * gs.length) [V.non]).flatten = List.replicate (hs.length * gs.length) V.non by simp]
        have ua := same_new (o := .lst (List.replicate (hs.length * gs.length) V.non)) u0 npa
        refine ⟨D1, pa, _, _, rfl, rfl, ua _ _ q1, upd_same, big _ (by rw [List.length_replicate]; omega), fun pb npb => ?_⟩
        have ub := same_new (o := .lst (us ++ List.replicate (hs.length * gs.length) V.non)) ua npb
        refine ⟨_, rfl, pb, D2, _, _, rfl, rfl, upd_same, ub _ _ w1, big _ (by rw [List.length_append, List.length_replicate]; omega), fun pc npc => ?_⟩
        have uc := same_new (o := .lst (us ++ List.replicate (hs.length * gs.length) V.non ++ ws)) ub npc
        refine ⟨(by show 1 ≤ sizeLine; decide), fun T nT => ⟨(by show 1 ≤ sizeLine; decide), fun pd npd => ?_⟩⟩
        have uT := same_new (o := .tup [.str "tables"]) uc nT
        have ud := same_new (o := .lst [.ref T]) uT npd
        refine ⟨pc, pd, _, _, rfl, rfl, (same_new (o := .lst [.ref T]) (same_new (o := .tup [.str "tables"]) (Same.refl _) nT) npd) _ _ upd_same, upd_same, big _ ?_, fun pe npe => ?_⟩
        · simp only [List.length_append, List.length_cons, List.length_nil, List.length_replicate]
          omega
        have ue := same_new (o := .lst (us ++ List.replicate (hs.length * gs.length) V.non ++ ws ++ [.ref T])) ud npe
        have hT : SqT K _ T [.str "tables"] := SqT.of (((same_new (o := .lst (us ++ List.replicate (hs.length * gs.length) V.non ++ ws ++ [.ref T])) (same_new (o := .lst [.ref T]) (Same.refl _) npd) npe) _ _ (upd_same (a := T) (o := .tup [.str "tables"]))))
        refine k pe _ _ (sA.trans ue) upd_same ?_
        rw [reasonL]
        exact ((((i1.to (Tk.same ue) _ _).append (im_nones _)).append (w2.to (Tk.same ue) _ _)).append (.cons (.tup hT (.cons (.str _) .nil)) .nil))
abbrev s_binding : Stmt := top 40
theorem sc_binding : FnScope ["fair", "meetings", "needs", "most"] ["fair", "meetings"] (defScope s_binding) := ⟨rfl, rfl, rfl, by decide +kernel, rfl, by decide +kernel, by decide +kernel⟩
def FirstAt (l : List Int) (m : Int) (j : Nat) : Prop := l[j]? = some m ∧ ∀ k z, k < j → l[k]? = some z → z ≠ m
theorem first_at : ∀ {l : List Int} {m : Int}, m ∈ l → ∃ j, FirstAt l m j
  | [], _, h => by cases h
  | x :: l, m, h => by
    by_cases e : x = m
    · exact ⟨0, by rw [e]; rfl, fun k z hk _ => absurd hk (Nat.not_lt_zero _)⟩
    · rcases List.mem_cons.mp h with rfl | h
      · exact absurd rfl e
      · obtain ⟨j, h1, h2⟩ := first_at h
        refine ⟨j + 1, by simpa using h1, fun k z hk hz => ?_⟩
        cases k with
        | zero =>
          simp at hz
          rw [← hz]
          exact e
        | succ k => exact h2 k z (by omega) (by simpa using hz)
theorem first_one {l : List Int} {m : Int} {j k : Nat} (a : FirstAt l m j) (b : FirstAt l m k) : j = k := by
  rcases Nat.lt_trichotomy j k with h | h | h
  · exact absurd rfl (b.2 j m h a.1)
  · exact h
  · exact absurd rfl (a.2 k m h b.1)
theorem eqV_ne {x y : Int} (h : x ≠ y) : eqV (.int x) (.int y) = false := by
  show (x == y) = false
  exact beq_eq_false_iff_ne.mpr h
theorem eqV_eq (x : Int) : eqV (.int x) (.int x) = true := by
  show (x == x) = true
  exact beq_self_eq_true x
theorem flat_ints (l : List Int) : (l.map V.int).all flatV = true := by
  rw [List.all_map]
  exact List.all_eq_true.mpr fun _ _ => rfl
theorem reason_len (hs gs : Side) : (reasonL hs gs).length = hs.length + hs.length * gs.length + gs.length + 1 := by
  simp only [reasonL, List.length_append, List.length_map, List.length_replicate, List.length_cons, List.length_nil]
/-- what binding tells -/
def Told (K : PySem.W.Frag) (H : Hp) (hs gs : Side) (t : Option Int) (g : Grid) (m : Int) (u : V) : Prop :=
  (m = 0 ∧ u = .non) ∨ (m ≠ 0 ∧ ∃ j d, FirstAt (needsL hs gs t g) m j ∧ (reasonL hs gs)[j]? = some d ∧ Im K H u d)
def sp_binding (K : PySem.W.Frag) (C : Addr) : Sp := fun vs H Q _ => ∃ (p : Addr) (v : V) (hs gs : Side) (t : Option Int) (g : Grid), vs = [.ref p, v] ∧ FairAt K C H p hs gs t ∧ Fairish hs gs t ∧ Im K H v (gridD g) ∧ Gridish g hs.length gs.length ∧
  ∀ u m H', Same H H' → IsMax m (needsL hs gs t g) → Told K H' hs gs t g m u → Q u H'
structure TxBi (K : PySem.W.Frag) (mg : Str → Option Value) (f_check_fair f_check_meetings f_needs f_reasons : Addr) : Prop where
  n_max : mg "max" = none
  g_check_fair : mg "check_fair" = some (.ref f_check_fair)
  k_check_fair : PySem.W.keepIn K (.ref f_check_fair) = true
  g_check_meetings : mg "check_meetings" = some (.ref f_check_meetings)
  k_check_meetings : PySem.W.keepIn K (.ref f_check_meetings) = true
  g_needs : mg "_needs" = some (.ref f_needs)
  k_needs : PySem.W.keepIn K (.ref f_needs) = true
  g_reasons : mg "_reasons" = some (.ref f_reasons)
  k_reasons : PySem.W.keepIn K (.ref f_reasons) = true
theorem ok_binding {f f_check_fair f_check_meetings f_needs f_reasons : Addr} {fd fd_check_fair fd_check_meetings fd_needs fd_reasons : FuncData} (F : Fun K "binding" "binding" s_binding f fd) (T : TxBi K mg f_check_fair f_check_meetings f_needs f_reasons)
    (G_check_fair1 : FnOk P w K mg base CX0 1 f_check_fair fd_check_fair ["fair"] (sp_check_fair K C)) (b_check_fair : Binds K fd_check_fair ["fair"] [])
    (G_check_meetings : FnOk P w K mg base CX0 4 f_check_meetings fd_check_meetings ["fair", "meetings"] (sp_check_meetings K C)) (b_check_meetings : Binds K fd_check_meetings ["fair", "meetings"] [])
    (G_needs : FnOk P w K mg base CX0 4 f_needs fd_needs ["fair", "meetings"] (sp_needs K C)) (b_needs : Binds K fd_needs ["fair", "meetings"] [])
    (G_reasons3 : FnOk P w K mg base CX0 3 f_reasons fd_reasons ["fair"] (sp_reasons K C)) (b_reasons : Binds K fd_reasons ["fair"] []) :
    FnOk P w K mg base CX0 5 f fd ["fair", "meetings"] (sp_binding K C) := by
  have G_check_fair := G_check_fair1.mono (show 1 ≤ 4 by decide)
  have G_reasons := G_reasons3.mono (show 3 ≤ 4 by decide)
  refine F.ok sc_binding (fun vs H Q E h => ?_) (fun cdv A outer s H vs Q E hr h => ?_)
  · obtain ⟨p, v, hs, gs, t, g, rfl, _⟩ := h
    rfl
  · obtain ⟨p, v, hs, gs, t, g, rfl, fa, fi, iv, gi, k⟩ := h
    refine ⟨_, (pss_cons (ps_expr (pe_call G_check_fair hr rfl T.g_check_fair T.k_check_fair b_check_fair .nil pass0 (pa_cons (pv 0) pa_nil)))
      (pss_cons (ps_expr (pe_call G_check_meetings hr rfl T.g_check_meetings T.k_check_meetings b_check_meetings .nil pass0 (pa_cons (pv 0) (pa_cons (pv 1) pa_nil))))
      (pss_cons (ps_set (i := 2) sc_binding.nd rfl (Or.inl rfl) (pe_call G_needs hr rfl T.g_needs T.k_needs b_needs .nil pass0 (pa_cons (pv 0) (pa_cons (pv 1) pa_nil))))
      (pss_cons (ps_set (i := 3) sc_binding.nd rfl (Or.inl rfl) (pe_callB (cr_max rfl) (by rfl) T.n_max (by decide +kernel) (pa_cons (pv 2) pa_nil)))
      (pss_cons (ps_if (pt_cmpR op_eq (pv 3) pe_int (nomark _))
        (pss_one (ps_ret pe_non))
        pss_nil)
      (pss_one (ps_ret (pe_ix (r := rIxL K) ix_list (pe_call G_reasons hr rfl T.g_reasons T.k_reasons b_reasons .nil pass0 (pa_cons (pv 0) pa_nil)) (pe_bm PySem.F.plainAttrs_list PySem.F.slot_list_index PySem.F.type_list_index mt_index (pv 2) (pa_cons (pv 3) pa_nil)) (fun _ _ => rfl))))))))), ?_⟩
    refine ⟨_, rfl, p, hs, gs, t, rfl, fa, ?_⟩
    refine ⟨_, rfl, _, rfl, p, v, hs, gs, t, g, rfl, fa, fi, iv, gi, fun X sX => ?_⟩
    refine ⟨_, rfl, _, rfl, p, v, hs, gs, t, g, rfl, fa.same sX, fi, iv.to (Tk.same sX) _ _, gi, fun q Y nq sY hY => ?_⟩
    refine nxt ?_
    dsimp only
    have ln : 0 < (needsL hs gs t g).length := by
      rw [needsL, List.length_zipWith, lines_len gi, lim_len, Nat.min_self]
      exact Nat.succ_pos _
    refine ⟨_, rfl, q, needsL hs gs t g, rfl, SqL.of hY, ln, fun m h1 h2 => ?_⟩
    have im : IsMax m (needsL hs gs t g) := ⟨h1, h2⟩
    have sXY := sX.trans sY
    refine nxt ?_
    dsimp only
    by_cases h0 : m = 0
    · refine seq_ifN (b := true) (fun Q' q' => ?_) (fun _ => ?_) (fun c => by cases c)
      · refine ⟨_, rfl, rfl, _, rfl, ?_⟩
        rw [decide_eq_true (congrArg V.int h0)]
        exact q'
      · exact k _ m Y sXY im (.inl ⟨h0, rfl⟩)
    · refine seq_ifN (b := false) (fun Q' q' => ?_) (fun c => by cases c) (fun _ => ?_)
      · refine ⟨_, rfl, rfl, _, rfl, ?_⟩
        rw [decide_eq_false (fun e => h0 (V.int.inj e))]
        exact q'
      · refine ⟨_, rfl, p, hs, gs, t, rfl, fa.same sXY, fi.h4, fi.g4, fun r us Z sZ hZ iZ => ?_⟩
        obtain ⟨j, fj⟩ := first_at h1
        have qZ := sZ _ _ hY
        have hj : j < (needsL hs gs t g).length := (List.getElem?_eq_some_iff.mp fj.1).1
        have lu : us.length = (reasonL hs gs).length := iZ.length
        have hju : j < us.length := by
          rw [lu, reason_len]
          rw [needsL, List.length_zipWith, lines_len gi, lim_len, Nat.min_self] at hj
          exact hj
        obtain ⟨d, ed, id⟩ := iZ.get (List.getElem?_eq_getElem hju)
        refine ⟨_, rfl, .inl ⟨rfl, _, SqL.of qZ⟩, _, rfl, q, (needsL hs gs t g).map V.int, .int m, j, .int m, rfl, rfl, SqL.of qZ, rfl, flat_ints _, by rw [List.getElem?_map, fj.1]; rfl, eqV_eq m, fun k' z' hk hz => ?_, r, us, _, us[j], rfl, rfl, SqL.of hZ, L2.atI_nat (List.getElem?_eq_getElem hju), ?_⟩
        · rw [List.getElem?_map] at hz
          cases e : (needsL hs gs t g)[k']? with
          | none => rw [e] at hz; cases hz
          | some x =>
            rw [e] at hz
            obtain rfl := Option.some.inj hz
            exact eqV_ne (fj.2 k' x hk e)
        · exact k _ m Z (sXY.trans sZ) im (.inr ⟨h0, j, d, fj, ed, id⟩)
end
end F02
namespace F02
open PySem PySem.Spec PyProof.Rows L2 MG SP LT
section
variable {P : Program} {w : World} {K : PySem.W.Frag} {mg : Str → Option Value} {base : Heap}
abbrev RLst (K : PySem.W.Frag) : List V → Hp → VK → Prop := fun xs H Q => ∃ p ys, xs = [V.ref p] ∧ (SqL K H p ys ∨ SqT K H p ys) ∧ ∀ l, H l = none → Q (.ref l) (upd H l (.lst ys))
/-! ### _law_in_rows, _law_in_columns -/
abbrev s_l_in_rows : Stmt := top 49
theorem sc_l_in_rows : FnScope ["_law_grid_here", "_law_row"] ["_law_grid_here"] (defScope s_l_in_rows) := ⟨rfl, rfl, rfl, by decide +kernel, rfl, by decide +kernel, by decide +kernel⟩
def sp_l_in_rows (K : PySem.W.Frag) : Sp := fun vs H Q _ => ∃ (v : V) (g : Grid), vs = [v] ∧ Im K H v (gridD g) ∧ g.length ≤ 4 ∧ ∀ q H', Same H H' → H' q = some (.lst ((sumsL g).map V.int)) → Q (.ref q) H'
theorem ok_l_in_rows {f : Addr} {fd : FuncData} (F : Fun K "_law_in_rows" "_law_in_rows" s_l_in_rows f fd) (n_sum : mg "sum" = none) (n_list : mg "list" = none) : FnOk P w K mg base CX0 1 f fd ["_law_grid_here"] (sp_l_in_rows K) := by
  refine F.ok sc_l_in_rows (fun vs H Q E h => ?_) (fun cdv A outer s H vs Q E hr h => ?_)
  · obtain ⟨v, g, rfl, _⟩ := h
    rfl
  · obtain ⟨v, g, rfl, iv, g4, k⟩ := h
    obtain ⟨a, as, rfl, ha, hr'⟩ := im_grid iv
    have la : as.length = g.length := hr'.length
    refine ⟨_, (pss_one (ps_ret (pe_lc (own := [("_law_row", 1)]) (g := gName 1) (te := tCB (rSum K) (tCons (tCB (RLst K) (tCons (tVar 1) tNil)) tNil)) (tt := tYes) rfl sc_l_in_rows.nd (pi_tup (pv 0)) (blkOk_by (own := [("_law_row", 1)]) (N := ["_law_grid_here", "_law_row"]) (sc := defScope s_l_in_rows) (by decide +kernel)) (fun _ _ _ _ _ => (pg_name (i := 1) sc_l_in_rows.nd rfl (Or.inl rfl))) (fun _ _ _ _ _ => pts_nil) (fun _ _ _ _ _ => (pe_callB (id := "sum") (r := rSum K) (cr_sum rfl) (by rfl) n_sum (by decide +kernel) (pa_cons (pe_callTy (T := "list") (r := RLst K) call_list_of (by rfl) n_list (by decide +kernel) (pa_cons (pv 1) pa_nil)) pa_nil)))))), ?_⟩
    refine ⟨_, rfl, a, rfl, ⟨_, ha⟩, fun D nD => ?_⟩
    refine lc_tup (K := K) (a := a) (xs := as.map V.ref) (fun j X => X D = some (.lst (((sumsL g).take j).map V.int)) ∧ Same H X) ⟨upd_same, same_new (Same.refl H) nD⟩ (fun j X _ z => (Tk.same z.2).sq ha) ?_ ?_
    · rintro j y X hj ⟨z1, z2⟩
      obtain ⟨r, b, er, rfl, hb⟩ := row_at hr' hj
      have hbX := (Tk.same z2).sq hb
      refine ⟨rfl, tyes (iteT ⟨_, rfl, b, _, rfl, .inr hbX, fun l nl => ⟨l, r, rfl, SqL.of upd_same, ?_⟩⟩)⟩
      have e0 : (sumsL g)[j]? = some r.sum := by rw [sumsL, List.getElem?_map, er]; rfl
      have u := same_new (o := .lst (r.map V.int)) (Same.refl X) nl
      exact acc_next nD (by rw [sumsL, List.length_map]; omega) (u _ _ z1) (z2.trans u) e0
    · rintro X ⟨z1, z2⟩
      rw [List.length_map, la, List.take_of_length_le (by rw [sumsL, List.length_map]; exact Nat.le_refl _)] at z1
      exact k D X z2 z1
end
end F02
namespace F02
open PySem PySem.Spec PyProof.Rows L2 MG SP LT
/-! ### ceilings -/
def ceilI (x b : Int) : Int := -((-x) / b)
theorem le_ceil {x b : Int} (hb : 0 < b) : x ≤ b * ceilI x b := by
  have h1 := Int.mul_ediv_add_emod (-x) b
  have h2 := Int.emod_nonneg (-x) (show b ≠ 0 by omega)
  unfold ceilI
  rw [Int.mul_neg]
  omega
theorem lt_ceil {x b : Int} (hb : 0 < b) : b * (ceilI x b - 1) < x := by
  have h1 := Int.mul_ediv_add_emod (-x) b
  have h2 := Int.emod_lt_of_pos (-x) hb
  unfold ceilI
  rw [Int.mul_sub, Int.mul_neg, Int.mul_one]
  omega
theorem ceil_le {x b k : Int} (hb : 0 < b) (h : x ≤ b * k) : ceilI x b ≤ k := by
  have h1 := lt_ceil (x := x) hb
  have h2 : ceilI x b - 1 < k := Int.lt_of_mul_lt_mul_left (Int.lt_of_lt_of_le h1 h) (Int.le_of_lt hb)
  omega
theorem ceil_nonneg {x b : Int} (hb : 0 < b) (hx : 0 ≤ x) : 0 ≤ ceilI x b := by
  have h1 := le_ceil (x := x) hb
  by_cases h : 0 ≤ ceilI x b
  · exact h
  · have := Int.mul_neg_of_pos_of_neg hb (show ceilI x b < 0 by omega)
    omega
/-! ### needs of lines -/
def Pos (o : Option Int) : Prop := ∀ b, o = some b → 0 < b
theorem need_some (x b : Int) : need x (some b) = ceilI x b := rfl
theorem need_none (x : Int) : need x none = 0 := rfl
theorem need_nonneg {x : Int} {o : Option Int} (p : Pos o) (hx : 0 ≤ x) : 0 ≤ need x o := by
  cases o with
  | none => exact Int.le_refl _
  | some b => exact ceil_nonneg (p b rfl) hx
theorem need_add {x y : Int} {o : Option Int} (p : Pos o) : need (x + y) o ≤ need x o + need y o := by
  cases o with
  | none => exact Int.le_refl _
  | some b =>
    have hb := p b rfl
    refine ceil_le hb ?_
    have h1 := le_ceil (x := x) hb
    have h2 := le_ceil (x := y) hb
    rw [need_some, need_some, Int.mul_add]
    omega
theorem need_mono {x y : Int} {o : Option Int} (p : Pos o) (h : x ≤ y) : need x o ≤ need y o := by
  cases o with
  | none => exact Int.le_refl _
  | some b => exact ceil_le (p b rfl) (Int.le_trans h (le_ceil (p b rfl)))
theorem need_mul {x k : Int} {o : Option Int} (p : Pos o) (hk : 0 ≤ k) : need (k * x) o ≤ k * need x o := by
  cases o with
  | none => rw [need_none, need_none, Int.mul_zero]; exact Int.le_refl _
  | some b =>
    have hb := p b rfl
    refine ceil_le hb ?_
    have h1 := Int.mul_le_mul_of_nonneg_left (le_ceil (x := x) hb) hk
    rw [need_some]
    calc k * x ≤ k * (b * ceilI x b) := h1
      _ = b * (k * ceilI x b) := Int.mul_left_comm _ _ _
theorem mul_need {x k b : Int} (hb : 0 < b) (hk : 0 < k) : k * (ceilI x b - 1) < ceilI (k * x) b := by
  have h1 := Int.mul_lt_mul_of_pos_left (lt_ceil (x := x) hb) hk
  have h2 := le_ceil (x := k * x) hb
  have h3 : b * (k * (ceilI x b - 1)) < b * ceilI (k * x) b := by
    rw [Int.mul_left_comm]
    exact Int.lt_of_lt_of_le h1 h2
  exact Int.lt_of_mul_lt_mul_left h3 (Int.le_of_lt hb)
def Wk (o o' : Option Int) : Prop := ∀ x, 0 ≤ x → need x o' ≤ need x o
theorem Wk.refl {o : Option Int} : Wk o o := fun _ _ => Int.le_refl _
theorem wk_some {b c : Int} (hb : 0 < b) (h : b ≤ c) : Wk (some b) (some c) := fun x hx => by
  refine ceil_le (by omega) ?_
  exact Int.le_trans (le_ceil hb) (Int.mul_le_mul_of_nonneg_right h (ceil_nonneg hb hx))
theorem wk_none {o : Option Int} (p : Pos o) : Wk o none := fun x hx => need_nonneg p hx
def PW : List (Option Int) → List (Option Int) → Prop
  | [], [] => True
  | o :: l, o' :: l' => Wk o o' ∧ PW l l'
  | _, _ => False
theorem PW.refl : ∀ {l : List (Option Int)}, PW l l
  | [] => trivial
  | _ :: _ => ⟨Wk.refl, PW.refl⟩
theorem PW.append : ∀ {a a' b b' : List (Option Int)}, PW a a' → PW b b' → PW (a ++ b) (a' ++ b')
  | [], [], _, _, _, h => h
  | _ :: _, _ :: _, _, _, h, h2 => ⟨h.1, PW.append h.2 h2⟩
  | [], _ :: _, _, _, h, _ => h.elim
  | _ :: _, [], _, _, h, _ => h.elim
abbrev NL (ls : List Int) (lm : List (Option Int)) : List Int := List.zipWith need ls lm
theorem NL.weak : ∀ {ls : List Int} {lm lm' : List (Option Int)}, PW lm lm' → (∀ x ∈ ls, 0 ≤ x) → ∀ z ∈ NL ls lm', ∃ y ∈ NL ls lm, z ≤ y
  | [], _, _, _, _, z, hz => by cases hz
  | _ :: _, [], [], _, _, z, hz => by cases hz
  | x :: ls, o :: lm, o' :: lm', h, h0, z, hz => by
    rcases List.mem_cons.mp (show z ∈ need x o' :: NL ls lm' from hz) with rfl | hz
    · exact ⟨need x o, List.mem_cons_self .., h.1 x (h0 x (List.mem_cons_self ..))⟩
    · obtain ⟨y, hy, hl⟩ := NL.weak h.2 (fun x hx => h0 x (List.mem_cons_of_mem _ hx)) z hz
      exact ⟨y, List.mem_cons_of_mem _ hy, hl⟩
  | _ :: _, [], _ :: _, h, _, _, _ => h.elim
  | _ :: _, _ :: _, [], h, _, _, _ => h.elim
theorem max_weak {ls : List Int} {lm lm' : List (Option Int)} {m m' : Int} (h : PW lm lm') (h0 : ∀ x ∈ ls, 0 ≤ x) (a : IsMax m (NL ls lm)) (b : IsMax m' (NL ls lm')) : m' ≤ m := by
  obtain ⟨y, hy, hl⟩ := NL.weak h h0 m' b.1
  exact Int.le_trans hl (a.2 y hy)
/-- two tables together -/
theorem NL.add : ∀ {xs ys : List Int} {lm : List (Option Int)}, xs.length = ys.length → (∀ o ∈ lm, Pos o) → ∀ z ∈ NL (List.zipWith (fun x y => x + 1 * y) xs ys) lm, ∃ x ∈ NL xs lm, ∃ y ∈ NL ys lm, z ≤ x + y
  | [], _, _, _, _, z, hz => by simp at hz
  | _ :: _, [], _, h, _, _, _ => by cases h
  | _ :: _, _ :: _, [], _, _, z, hz => by simp at hz
  | x :: xs, y :: ys, o :: lm, h, hp, z, hz => by
    have hz' : z ∈ need (x + 1 * y) o :: NL (List.zipWith (fun x y => x + 1 * y) xs ys) lm := hz
    rcases List.mem_cons.mp hz' with rfl | hz
    · refine ⟨need x o, List.mem_cons_self .., need y o, List.mem_cons_self .., ?_⟩
      rw [Int.one_mul]
      exact need_add (hp o (List.mem_cons_self ..))
    · obtain ⟨a, ha, b, hb, hl⟩ := NL.add (Nat.succ.inj h) (fun o ho => hp o (List.mem_cons_of_mem _ ho)) z hz
      exact ⟨a, List.mem_cons_of_mem _ ha, b, List.mem_cons_of_mem _ hb, hl⟩
theorem NL.one : ∀ {xs ys : List Int} {lm : List (Option Int)}, xs.length = ys.length → (∀ o ∈ lm, Pos o) → (∀ y ∈ ys, 0 ≤ y) → ∀ z ∈ NL xs lm, ∃ y ∈ NL (List.zipWith (fun x y => x + 1 * y) xs ys) lm, z ≤ y
  | [], _, _, _, _, _, z, hz => by simp at hz
  | _ :: _, [], _, h, _, _, _, _ => by cases h
  | _ :: _, _ :: _, [], _, _, _, z, hz => by simp at hz
  | x :: xs, y :: ys, o :: lm, h, hp, h0, z, hz => by
    rcases List.mem_cons.mp (show z ∈ need x o :: NL xs lm from hz) with rfl | hz
    · refine ⟨need (x + 1 * y) o, List.mem_cons_self .., need_mono (hp o (List.mem_cons_self ..)) ?_⟩
      have := h0 y (List.mem_cons_self ..)
      omega
    · obtain ⟨b, hb, hl⟩ := NL.one (Nat.succ.inj h) (fun o ho => hp o (List.mem_cons_of_mem _ ho)) (fun y hy => h0 y (List.mem_cons_of_mem _ hy)) z hz
      exact ⟨b, List.mem_cons_of_mem _ hb, hl⟩
theorem NL.two : ∀ {xs ys : List Int} {lm : List (Option Int)}, xs.length = ys.length → (∀ o ∈ lm, Pos o) → (∀ x ∈ xs, 0 ≤ x) → ∀ z ∈ NL ys lm, ∃ y ∈ NL (List.zipWith (fun x y => x + 1 * y) xs ys) lm, z ≤ y
  | _, [], _, _, _, _, z, hz => by simp at hz
  | [], _ :: _, _, h, _, _, _, _ => by cases h
  | _ :: _, _ :: _, [], _, _, _, z, hz => by simp at hz
  | x :: xs, y :: ys, o :: lm, h, hp, h0, z, hz => by
    rcases List.mem_cons.mp (show z ∈ need y o :: NL ys lm from hz) with rfl | hz
    · refine ⟨need (x + 1 * y) o, List.mem_cons_self .., need_mono (hp o (List.mem_cons_self ..)) ?_⟩
      have := h0 x (List.mem_cons_self ..)
      omega
    · obtain ⟨b, hb, hl⟩ := NL.two (Nat.succ.inj h) (fun o ho => hp o (List.mem_cons_of_mem _ ho)) (fun y hy => h0 y (List.mem_cons_of_mem _ hy)) z hz
      exact ⟨b, List.mem_cons_of_mem _ hb, hl⟩
/-- a table times k -/
theorem NL.times {k : Int} (hk : 0 < k) : ∀ {xs : List Int} {lm : List (Option Int)}, (∀ o ∈ lm, Pos o) → (∀ z ∈ NL (List.zipWith (fun x y => x + (k - 1) * y) xs xs) lm, ∃ y ∈ NL xs lm, z ≤ k * y) ∧
    (∀ y ∈ NL xs lm, 0 < y → ∃ z ∈ NL (List.zipWith (fun x y => x + (k - 1) * y) xs xs) lm, k * (y - 1) < z)
  | [], _, _ => ⟨fun z hz => by simp at hz, fun z hz => by simp at hz⟩
  | _ :: _, [], _ => ⟨fun z hz => by simp at hz, fun z hz => by simp at hz⟩
  | x :: xs, o :: lm, hp => by
    obtain ⟨i1, i2⟩ := NL.times hk (xs := xs) (lm := lm) fun o ho => hp o (List.mem_cons_of_mem _ ho)
    have e : x + (k - 1) * x = k * x := by rw [Int.sub_mul, Int.one_mul]; omega
    have hz0 : NL (List.zipWith (fun x y => x + (k - 1) * y) (x :: xs) (x :: xs)) (o :: lm) = need (k * x) o :: NL (List.zipWith (fun x y => x + (k - 1) * y) xs xs) lm := by
      show need (x + (k - 1) * x) o :: _ = _
      rw [e]
    rw [hz0]
    refine ⟨fun z hz => ?_, fun y hy h0 => ?_⟩
    · rcases List.mem_cons.mp hz with rfl | hz
      · exact ⟨need x o, List.mem_cons_self .., need_mul (hp o (List.mem_cons_self ..)) (Int.le_of_lt hk)⟩
      · obtain ⟨y, hy, hl⟩ := i1 z hz
        exact ⟨y, List.mem_cons_of_mem _ hy, hl⟩
    · rcases List.mem_cons.mp (show y ∈ need x o :: NL xs lm from hy) with rfl | hy
      · refine ⟨need (k * x) o, List.mem_cons_self .., ?_⟩
        cases o with
        | none => rw [need_none] at h0; omega
        | some b => exact mul_need (hp _ (List.mem_cons_self ..) b rfl) hk
      · obtain ⟨z, hz, hl⟩ := i2 y hy h0
        exact ⟨z, List.mem_cons_of_mem _ hz, hl⟩
theorem sum_nonneg : ∀ {r : List Int}, (∀ x ∈ r, 0 ≤ x) → 0 ≤ r.sum
  | [], _ => by simp
  | x :: r, h => by
    rw [List.sum_cons]
    have := h x (List.mem_cons_self ..)
    have := sum_nonneg fun y hy => h y (List.mem_cons_of_mem _ hy)
    omega
theorem lines_nonneg {g : Grid} {n : Nat} (h : ∀ r ∈ g, ∀ x ∈ r, 0 ≤ x) : ∀ l ∈ linesL g n, 0 ≤ l := by
  have hs : ∀ l ∈ sumsL g, 0 ≤ l := fun l hl => by
    obtain ⟨r, hr, rfl⟩ := List.mem_map.mp hl
    exact sum_nonneg (h r hr)
  intro l hl
  rcases List.mem_append.mp hl with hl | hl
  · rcases List.mem_append.mp hl with hl | hl
    · rcases List.mem_append.mp hl with hl | hl
      · exact hs l hl
      · obtain ⟨r, hr, hx⟩ := List.mem_flatten.mp hl
        exact h r hr l hx
    · obtain ⟨j, hj, rfl⟩ := List.mem_map.mp hl
      refine sum_nonneg fun x hx => ?_
      obtain ⟨r, hr, rfl⟩ := List.mem_map.mp hx
      show 0 ≤ r.getD j 0
      rw [List.getD_eq_getElem?_getD]
      cases e : r[j]? with
      | none => exact Int.le_refl _
      | some y => exact h r hr y (List.mem_of_getElem? e)
  · rw [List.mem_singleton] at hl
    subst hl
    exact sum_nonneg hs
theorem lim_pos {hs gs : Side} {t : Option Int} (f : Fairish hs gs t) : ∀ o ∈ limL hs gs t, Pos o := fun o ho b e => (lim_small f b (e ▸ ho)).1
end F02
/-! a tuple times 1 is itself -/
namespace ZT
open PySem PySem.Spec PyProof.Rows L2
theorem tuple_mul1 (l : Addr) (items : Array Value) (n : Nat) (dd : Option Addr) (sl : Array (Option Value)) (x : Int) (u : Tok) (c0 : (decide (x < -(2 ^ 63)) || decide (x ≥ 2 ^ 63)) = false) (c1 : (items.isEmpty || x == 1) = true) :
    Meets (Builtin.«tuple.__mul__» ⟨[.ref l, .int x u], []⟩) (fun _ R s => s.heap.get? l = some { cls := .type "tuple", dict := dd, data := .seq items n, slots := sl } ∧
      R (.ok (.ret (Value.ref l))) s) :=
  .of_wp fun prog w A R s h => by
    obtain ⟨hp, g, d, tk, os⟩ := s
    obtain ⟨hl, h⟩ := h
    have f1 := AutoSeq1.idx_int
    wp_walk using wpAny_loadPart' hl
    repeat (first
      | (refine wpAny_ite_false (decide_eq_false (by rw [c0]; exact Bool.false_ne_true)) ?_; wp_walk using wpAny_loadPart' hl)
      | (refine wpAny_ite_true (decide_eq_true c1) ?_; wp_walk using wpAny_loadPart' hl))
    exact ⟨_, rfl, h⟩
def rRep1 (K : PySem.W.Frag) : R2 := fun x y H Q => ∃ l k xs, x = .ref l ∧ y = .int k ∧ SqT K H l xs ∧ xs ≠ [] ∧ 1 ≤ k ∧ k ≤ 1000 ∧ xs.length ≤ 1000 ∧ ∀ p H', Same H H' → SqT K H' p (List.replicate k.toNat xs).flatten → Q (.ref p) H'
section
variable {X : Cx}
theorem op_rep1 : OpR X (binaryOp .Mult) (rRep1 X.K) := by
  intro pins s σ H x y v u Q I rx ry h
  obtain ⟨l, k, xs, rfl, rfl, hT, hne, h1, h2, hz, q⟩ := h
  by_cases hk : k = 1
  · subst hk
    have q0 := q l H (fun _ _ e => e) (by
      rw [show (1 : Int).toNat = 1 from rfl, List.replicate_one, List.flatten_cons, List.flatten_nil, List.append_nil]
      exact hT)
    cases rx
    obtain ⟨t, rfl⟩ := ry
    obtain ⟨its, r, ⟨⟨cls, dd, data, sl⟩, ho, hc, n, hd⟩, hs⟩ := I.tuple hT
    simp only at hc hd
    subst hc hd
    have c0 : (decide ((1 : Int) < -(2 ^ 63)) || decide ((1 : Int) ≥ 2 ^ 63)) = false := by decide
    have c1 : (its.toArray.isEmpty || (1 : Int) == 1) = true := by
      rw [show ((1 : Int) == 1) = true from rfl, Bool.or_true]
    exact wpAny_binaryOp_repeat_ref (T := "tuple") (U := "int") (by decide) ⟨_, ho, rfl⟩ (fun s' => typeIs_int s' 1 t) noFill_tuple_mul PySem.F.fills_int_mul PySem.F.slot_int_rmul repeat_tuple PySem.F.slot_int_index.lookup
      (call_meets PySem.F.slot_int_rmul (typeIs_int s 1 t) PySem.F.entry_int_rmul (PySem.F.args_int_rmul_2 _ _) (int_rmul_tuple 1 t l its.toArray n dd sl)
        ⟨ho, rfl, ⟨_, ho, rfl⟩, call_meets PySem.F.slot_tuple_mul ⟨_, ho, rfl⟩ PySem.F.entry_tuple_mul (PySem.F.args_tuple_mul_2 _ _) (tuple_mul1 l its.toArray n dd sl 1 t c0 c1) ⟨ho, ⟨.ref l, H, I, rfl, q0⟩⟩⟩)
  · refine op_repT pins s σ H _ _ v u Q I rx ry ⟨l, k, xs, rfl, rfl, hT, hne, by omega, h2, hz, fun p np => ?_⟩
    exact q p _ (fun b o e => by rw [upd_ne (fun h => by rw [h, np] at e; cases e)]; exact e) (SqT.of upd_same)
end
end ZT
namespace F02
open PySem PySem.Spec PyProof.Rows L2 MG SP LT
section
variable {P : Program} {w : World} {K : PySem.W.Frag} {mg : Str → Option Value} {base : Heap}
theorem cat_any {H : Hp} {a b : Addr} {xs ys : List V} {Q : VK} (ha : SqT K H a xs) (hb : SqT K H b ys) (l : xs.length + ys.length < 100) (k : ∀ p H', Same H H' → SqT K H' p (xs ++ ys) → Q (.ref p) H') : rCatA K (.ref a) (.ref b) H Q := by
  refine ⟨a, b, xs, ys, rfl, rfl, ha, hb, Nat.le_of_lt (Nat.lt_of_lt_of_le l (by decide)), fun e => ?_, fun _ e => ?_, fun _ _ p np => ?_⟩
  · refine k b H (Same.refl H) ?_
    rw [e]
    exact hb
  · refine k a H (Same.refl H) ?_
    rw [e, List.append_nil]
    exact ha
  · exact k p _ (same_new (Same.refl H) np) (SqT.of upd_same)
/-! ### _law_flat -/
abbrev s_l_flat : Stmt := top 50
theorem sc_l_flat : FnScope ["_law_grid_here", "_law_found", "_law_row"] ["_law_grid_here"] (defScope s_l_flat) := ⟨rfl, rfl, rfl, by decide +kernel, rfl, by decide +kernel, by decide +kernel⟩
def sp_l_flat (K : PySem.W.Frag) : Sp := fun vs H Q _ => ∃ (v : V) (g : Grid), vs = [v] ∧ Im K H v (gridD g) ∧ g.length ≤ 4 ∧ (∀ r ∈ g, r.length ≤ 4) ∧ ∀ q H', Same H H' → SqT K H' q (g.flatten.map V.int) → Q (.ref q) H'
theorem flat_small : ∀ {g : Grid}, (∀ r ∈ g, r.length ≤ 4) → g.flatten.length ≤ 4 * g.length
  | [], _ => by simp
  | r :: g, h => by
    rw [List.flatten_cons, List.length_append, List.length_cons]
    have := h r (List.mem_cons_self ..)
    have := flat_small (g := g) fun x hx => h x (List.mem_cons_of_mem _ hx)
    omega
theorem ok_l_flat {f : Addr} {fd : FuncData} (F : Fun K "_law_flat" "_law_flat" s_l_flat f fd) : FnOk P w K mg base CX0 1 f fd ["_law_grid_here"] (sp_l_flat K) := by
  refine F.ok sc_l_flat (fun vs H Q E h => ?_) (fun cdv A outer s H vs Q E hr h => ?_)
  · obtain ⟨v, g, rfl, _⟩ := h
    rfl
  · obtain ⟨v, g, rfl, iv, g4, r4, k⟩ := h
    obtain ⟨a, as, rfl, ha, hr'⟩ := im_grid iv
    have la : as.length = g.length := hr'.length
    refine ⟨_, (pss_cons (ps_set (i := 1) sc_l_flat.nd rfl (Or.inl rfl) (pe_tup pa_nil))
      (pss_cons (ps_for PassesOwn.never rfl (pi_tup (pv 0)) (pg_name (i := 2) sc_l_flat.nd rfl (Or.inl rfl))
        (pss_one (ps_set (i := 1) sc_l_flat.nd rfl (Or.inl rfl) (pe_op op_catA (pv 1) (pv 2)))))
      (pss_one (ps_ret (pv 1))))), ?_⟩
    refine ⟨(by show 0 ≤ sizeLine; decide), fun T nT => ?_⟩
    have s0 := same_new (o := .tup []) (Same.refl H) nT
    have h0 : SqT K (upd H T (.tup [])) T [] := SqT.of upd_same
    generalize upd H T (.tup []) = H0 at s0 h0 ⊢
    have ha0 := (Tk.same s0).sq ha
    refine ⟨_, rfl, a, rfl, ⟨_, ha0⟩, ?_⟩
    refine for_tup (K := K) (a := a) (xs := as.map V.ref) (fun j σ G => ∃ (q : Addr) (v2 : Option V), σ = [some (.ref a), some (.ref q), v2] ∧ SqT K G q ((g.take j).flatten.map V.int) ∧ Same H0 G) ⟨T, none, rfl, h0, Same.refl _⟩ (fun j σ G _ ⟨_, _, _, _, z⟩ => (Tk.same z).sq ha0) ?_ ?_
    · rintro j y σ G hj ⟨q, v2, rfl, hq, sG⟩
      obtain ⟨r, b, er, rfl, hb⟩ := row_at hr' hj
      have hbG := (Tk.same (s0.trans sG)).sq hb
      have e1 : g.take (j + 1) = g.take j ++ [r] := by rw [List.take_add_one, er]; rfl
      have l1 := flat_small (g := g.take j) fun x hx => r4 x (List.mem_of_mem_take hx)
      have l2 := r4 r (List.mem_of_getElem? er)
      rw [List.length_take] at l1
      refine nxt ?_
      refine ⟨_, rfl, _, rfl, cat_any hq hbG (by rw [List.length_map, List.length_map]; omega) fun q2 X sX h2 => ?_⟩
      refine ⟨q2, _, rfl, ?_, sG.trans sX⟩
      rw [e1, List.flatten_append, List.map_append, List.flatten_cons, List.flatten_nil, List.append_nil]
      exact h2
    · rintro σ G ⟨q, v2, rfl, hq, sG⟩
      rw [List.length_map, la, List.take_length] at hq
      exact ⟨_, rfl, k q G (s0.trans sG) hq⟩
/-! ### _law_some -/
abbrev s_l_some : Stmt := top 51
theorem sc_l_some : FnScope ["_law_jug_here", "_law_most"] ["_law_jug_here", "_law_most"] (defScope s_l_some) := ⟨rfl, rfl, rfl, by decide +kernel, rfl, by decide +kernel, by decide +kernel⟩
def sp_l_some : Sp := fun vs H Q _ => ∃ (p : Addr) (m : Int) (N : Nat), vs = [.ref p, .int m] ∧ Jug H p N ∧ N + 4 ≤ 1000000 ∧ 10 ≤ m ∧ ∀ x H', 1 ≤ x → x ≤ m → But p H H' → Jug H' p (N + 4) → Q (.int x) H'
structure TxSo (K : PySem.W.Frag) (mg : Str → Option Value) (f_l_pour : Addr) : Prop where
  n_int : mg "int" = none
  g_l_pour : mg "_law_pour" = some (.ref f_l_pour)
  k_l_pour : PySem.W.keepIn K (.ref f_l_pour) = true
theorem ok_l_some {f f_l_pour : Addr} {fd fd_l_pour : FuncData} (F : Fun K "_law_some" "_law_some" s_l_some f fd) (T : TxSo K mg f_l_pour)
    (G_l_pour : FnOk P w K mg base CX0 1 f_l_pour fd_l_pour ["_law_jug_here", "_law_many"] sp_l_pour) (b_l_pour : Binds K fd_l_pour ["_law_jug_here", "_law_many"] []) :
    FnOk P w K mg base CX0 2 f fd ["_law_jug_here", "_law_most"] sp_l_some := by
  refine F.ok sc_l_some (fun vs H Q E h => ?_) (fun cdv A outer s H vs Q E hr h => ?_)
  · obtain ⟨p, m, N, rfl, _⟩ := h
    rfl
  · obtain ⟨p, m, N, rfl, J, hN, hm, k⟩ := h
    refine ⟨_, (pss_one (ps_ret (pe_ix (r := rIxL K) ix_list (pe_lst (pa_cons pe_int (pa_cons (pe_op op_add pe_int (pe_call G_l_pour hr rfl T.g_l_pour T.k_l_pour b_l_pour .nil pass0 (pa_cons (pv 0) (pa_cons pe_int pa_nil)))) (pa_cons (pv 1) (pa_cons (pe_op op_add pe_int (pe_op op_mod (pe_callTy call_int1 (by rfl) T.n_int (by decide +kernel) (pa_cons (pe_op op_mul (pe_call G_l_pour hr rfl T.g_l_pour T.k_l_pour b_l_pour .nil pass0 (pa_cons (pv 0) (pa_cons (pe_op op_pow pe_int pe_int) pa_nil))) (pe_call G_l_pour hr rfl T.g_l_pour T.k_l_pour b_l_pour .nil pass0 (pa_cons (pv 0) (pa_cons (pe_op op_pow pe_int pe_int) pa_nil)))) pa_nil)) (pv 1))) pa_nil))))) (pe_call G_l_pour hr rfl T.g_l_pour T.k_l_pour b_l_pour .nil pass0 (pa_cons (pv 0) (pa_cons pe_int pa_nil))) (fun _ _ => rfl)))), ?_⟩
    have e15 : (10 : Int) ^ (15 : Int).toNat = 1000000000000000 := by decide
    refine ⟨_, rfl, p, 9, N, rfl, J, by omega, by decide, by decide, fun r1 H1 a0 a1 b1 j1 => ⟨_, _, rfl, rfl, ?_⟩⟩
    refine ⟨_, rfl, _, rfl, _, _, rfl, rfl, ⟨by decide, by decide, by decide⟩, p, _, N + 1, rfl, j1, by omega, by decide, by decide, fun r2 H2 c0 c1 b2 j2 => ?_⟩
    refine ⟨_, rfl, _, _, rfl, rfl, ⟨by decide, by decide, by decide⟩, p, _, N + 2, rfl, j2, by omega, by decide, by decide, fun r3 H3 d0 d1 b3 j3 => ?_⟩
    rw [e15] at c1 d1
    refine ⟨_, _, rfl, rfl, .inl ⟨by omega, by omega⟩, .inl ⟨_, rfl, _, rfl, _, _, rfl, rfl, (show 0 < m by omega), _, _, rfl, rfl, (by show 4 ≤ sizeLine; decide), fun D nD => ?_⟩⟩
    refine ⟨_, rfl, p, 4, N + 3, rfl, j3.new nD, by omega, by decide, by decide, fun r4 H4 f0 f1 b4 j4 => ?_⟩
    have hD := b4 D _ (j3.ne nD) upd_same
    have bb : But p H H4 := (((b1.trans b2).trans b3).new nD).trans b4
    have m0 := Int.emod_nonneg (r2 * r3) (show m ≠ 0 by omega)
    have m1 := Int.emod_lt_of_pos (r2 * r3) (show 0 < m by omega)
    rcases (show r4 = 0 ∨ r4 = 1 ∨ r4 = 2 ∨ r4 = 3 by omega) with rfl | rfl | rfl | rfl
    · exact ⟨D, _, _, _, rfl, rfl, SqL.of hD, rfl, k _ H4 (by omega) (by omega) bb j4⟩
    · exact ⟨D, _, _, _, rfl, rfl, SqL.of hD, rfl, k _ H4 (by omega) (by omega) bb j4⟩
    · exact ⟨D, _, _, _, rfl, rfl, SqL.of hD, rfl, k _ H4 (by omega) (by omega) bb j4⟩
    · exact ⟨D, _, _, _, rfl, rfl, SqL.of hD, rfl, k _ H4 (by omega) (by omega) bb j4⟩
/-! ### _law_alike -/
abbrev s_l_alike : Stmt := top 52
theorem sc_l_alike : FnScope ["_law_many", "_law_number_here", "_law_at"] ["_law_many", "_law_number_here"] (defScope s_l_alike) := ⟨rfl, rfl, rfl, by decide +kernel, rfl, by decide +kernel, by decide +kernel⟩
def sqL (m : Nat) (x : Int) : Grid := List.replicate m (List.replicate m x)
def sp_l_alike (K : PySem.W.Frag) : Sp := fun vs H Q _ => ∃ (m : Nat) (x : Int), vs = [.int m, .int x] ∧ 1 ≤ m ∧ m ≤ 4 ∧ ∀ q H', Same H H' → Im K H' (.ref q) (gridD (sqL m x)) → Q (.ref q) H'
theorem ok_l_alike {f : Addr} {fd : FuncData} (F : Fun K "_law_alike" "_law_alike" s_l_alike f fd) (n_range : mg "range" = none) (n_tuple : mg "tuple" = none) : FnOk P w K mg base CX0 1 f fd ["_law_many", "_law_number_here"] (sp_l_alike K) := by
  refine F.ok sc_l_alike (fun vs H Q E h => ?_) (fun cdv A outer s H vs Q E hr h => ?_)
  · obtain ⟨m, x, rfl, _⟩ := h
    rfl
  · obtain ⟨m, x, rfl, m1, m4, k⟩ := h
    refine ⟨_, (pss_one (ps_ret (pe_callTy (T := "tuple") (r := RTup K) call_tuple_of (by rfl) n_tuple (by decide +kernel) (pa_cons (pe_lc (own := [("_law_at", 2)]) (g := gName 2) (te := tOp (ZT.rRep1 K) (tTup (tCons (tVar 1) tNil)) (tVar 0)) (tt := tYes) rfl sc_l_alike.nd (pi_range1 rfl n_range (pa_cons (pv 0) pa_nil)) (blkOk_by (own := [("_law_at", 2)]) (N := ["_law_many", "_law_number_here", "_law_at"]) (sc := defScope s_l_alike) (by decide +kernel)) (fun _ _ _ _ _ => (pg_name (i := 2) sc_l_alike.nd rfl (Or.inl rfl))) (fun _ _ _ _ _ => pts_nil) (fun _ _ _ _ _ => (pe_op ZT.op_rep1 (pe_tup (pa_cons (pv 1) pa_nil)) (pv 0)))) pa_nil)))), ?_⟩
    refine ⟨_, rfl, m, rfl, by omega, by omega, fun D nD => ?_⟩
    refine lc_range (lo := 0) (n := ((m : Nat) : Int).toNat) (fun j X => ∃ bs : List Addr, bs.length = j ∧ X D = some (.lst (bs.map V.ref)) ∧ RowsAt K X bs (List.replicate j (List.replicate m x)) ∧ Same H X) ⟨[], rfl, upd_same, trivial, same_new (Same.refl H) nD⟩ ?_ ?_
    · rintro j X hj ⟨bs, lb, z1, zr, z2⟩
      refine ⟨rfl, tyes (iteT ⟨_, rfl, (by show 1 ≤ sizeLine; decide), fun T nT => ?_⟩)⟩
      have v1 := same_new (o := .tup [.int x]) (Same.refl X) nT
      refine ⟨_, rfl, T, (m : Int), [.int x], rfl, rfl, SqT.of upd_same, by simp, by omega, by omega, (by show 1 ≤ 1000; decide), fun q Y sY hq => ?_⟩
      have er : ∀ n : Nat, (List.replicate n [V.int x]).flatten = (List.replicate n x).map V.int := fun n => by
        induction n with
        | zero => rfl
        | succ n ih => rw [List.replicate_succ, List.flatten_cons, ih, List.replicate_succ]; rfl
      rw [Int.toNat_natCast, er] at hq
      have sXY := v1.trans sY
      have zD := sXY _ _ z1
      refine ⟨_, zD, ?_, bs ++ [q], by rw [List.length_append, lb]; rfl, ?_, ?_, ?_⟩
      · rw [List.length_map]
        exact Nat.lt_of_lt_of_le (show _ < 100 by omega) (by decide)
      · rw [upd_same, List.map_append]
        rfl
      · rw [List.replicate_succ']
        exact ((zr.to (Tk.same sXY)).snoc hq).to (Tk.mut zD)
      · intro c o h
        rw [upd_ne (ne_of_none h nD)]
        exact sXY _ _ (z2 _ _ h)
    · rintro X ⟨bs, lb, z1, zr, z2⟩
      rw [Int.toNat_natCast] at zr
      refine ⟨D, _, rfl, .inl ⟨SqL.of z1, fun T nT => ?_⟩⟩
      have sT := same_new (o := .tup (bs.map V.ref)) (Same.refl X) nT
      exact k T _ (z2.trans sT) (im_of_grid (SqT.of upd_same) (zr.to (Tk.same sT)))
end
end F02
namespace F02
open PySem PySem.Spec PyProof.Rows L2 MG SP LT KW
/-! ### the load as the least number that bounds all needs -/
abbrev limS (l : Side) : List (Option Int) := l.map fun z => some z.2
structure Bnd (k : Int) (hs gs : Side) (t : Option Int) (g : Grid) : Prop where
  nn : 0 ≤ k
  rows : ∀ y ∈ List.zipWith need (sumsL g) (limS hs), y ≤ k
  cols : ∀ y ∈ List.zipWith need (colsL g gs.length) (limS gs), y ≤ k
  desk : need (sumsL g).sum t ≤ k
def LB (m : Int) (hs gs : Side) (t : Option Int) (g : Grid) : Prop := Bnd m hs gs t g ∧ ∀ k, Bnd k hs gs t g → m ≤ k
theorem needs_split {hs gs : Side} {g : Grid} (gi : Gridish g hs.length gs.length) (t : Option Int) : needsL hs gs t g = List.zipWith need (sumsL g) (limS hs) ++ List.zipWith need g.flatten (List.replicate (hs.length * gs.length) none) ++
    List.zipWith need (colsL g gs.length) (limS gs) ++ [need (sumsL g).sum t] := by
  have ls : (sumsL g).length = hs.length := by rw [sumsL, List.length_map, gi.rows]
  have lf : g.flatten.length = hs.length * gs.length := by rw [flat_len gi.cols, gi.rows]
  have lc : (colsL g gs.length).length = gs.length := by rw [colsL, List.length_map, List.length_range]
  rw [needsL, linesL, limL, List.zipWith_append (by simp only [List.length_append, List.length_map, List.length_replicate]; omega), List.zipWith_append (by simp only [List.length_append, List.length_map, List.length_replicate]; omega),
    List.zipWith_append (by simp only [List.length_map]; omega)]
  rfl
theorem zip_none0 : ∀ {xs : List Int} {n : Nat}, ∀ y ∈ List.zipWith need xs (List.replicate n none), y = 0
  | [], _, y, h => by simp at h
  | _ :: _, 0, y, h => by simp at h
  | x :: xs, n + 1, y, h => by
    rcases List.mem_cons.mp (show y ∈ need x none :: List.zipWith need xs (List.replicate n none) from h) with rfl | h
    · rfl
    · exact zip_none0 y h
theorem lb_of {hs gs : Side} {t : Option Int} {g : Grid} {m : Int} (fi : Fairish hs gs t) (gi : Gridish g hs.length gs.length) (a : IsMax m (needsL hs gs t g)) : LB m hs gs t g := by
  have m0 : 0 ≤ m := by
    obtain ⟨i, hi⟩ := List.mem_iff_getElem?.mp a.1
    rw [needsL, List.getElem?_zipWith] at hi
    cases e1 : (linesL g gs.length)[i]? with
    | none => rw [e1] at hi; cases hi
    | some x =>
      cases e2 : (limL hs gs t)[i]? with
      | none => rw [e1, e2] at hi; cases hi
      | some o =>
        rw [e1, e2] at hi
        cases Option.some.inj hi
        exact need_nonneg (lim_pos fi o (List.mem_of_getElem? e2)) (lines_nonneg gi.least x (List.mem_of_getElem? e1))
  rw [needs_split gi] at a
  refine ⟨⟨m0, fun y hy => a.2 y (List.mem_append_left _ (List.mem_append_left _ (List.mem_append_left _ hy))), fun y hy => a.2 y (List.mem_append_left _ (List.mem_append_right _ hy)), a.2 _ (List.mem_append_right _ (List.mem_singleton.mpr rfl))⟩, fun k b => ?_⟩
  rcases List.mem_append.mp a.1 with h | h
  · rcases List.mem_append.mp h with h | h
    · rcases List.mem_append.mp h with h | h
      · exact b.rows m h
      · rw [zip_none0 m h]; exact b.nn
    · exact b.cols m h
  · rw [List.mem_singleton.mp h]
    exact b.desk
theorem mem_sum_le : ∀ {r : List Int} {x : Int}, (∀ y ∈ r, 0 ≤ y) → x ∈ r → x ≤ r.sum
  | [], _, _, h => by cases h
  | y :: r, x, h0, h => by
    rw [List.sum_cons]
    have h1 := h0 y (List.mem_cons_self ..)
    have h2 := sum_nonneg fun z hz => h0 z (List.mem_cons_of_mem y hz)
    rcases List.mem_cons.mp h with rfl | h
    · omega
    · have := mem_sum_le (fun z hz => h0 z (List.mem_cons_of_mem _ hz)) h
      omega
theorem getD_le {r : List Int} {j : Nat} (h0 : ∀ y ∈ r, 0 ≤ y) : r.getD j 0 ≤ r.sum := by
  rw [List.getD_eq_getElem?_getD]
  cases e : r[j]? with
  | none => exact sum_nonneg h0
  | some y => exact mem_sum_le h0 (List.mem_of_getElem? e)
theorem col_sum_le {j : Nat} : ∀ {g : Grid}, (∀ r ∈ g, ∀ x ∈ r, 0 ≤ x) → (colL g j).sum ≤ (sumsL g).sum
  | [], _ => Int.le_refl _
  | r :: g, h => by
    show (r.getD j 0 :: colL g j).sum ≤ (r.sum :: sumsL g).sum
    rw [List.sum_cons, List.sum_cons]
    have h1 := getD_le (j := j) (h r (List.mem_cons_self ..))
    have h2 := col_sum_le (j := j) (g := g) fun y hy => h y (List.mem_cons_of_mem _ hy)
    omega
theorem sums_nonneg {g : Grid} (h : ∀ r ∈ g, ∀ x ∈ r, 0 ≤ x) : ∀ l ∈ sumsL g, 0 ≤ l := fun l hl => by
  obtain ⟨r, hr, rfl⟩ := List.mem_map.mp hl
  exact sum_nonneg (h r hr)
theorem lines_le_all {g : Grid} {n : Nat} (h : ∀ r ∈ g, ∀ x ∈ r, 0 ≤ x) : ∀ l ∈ linesL g n, l ≤ (sumsL g).sum := by
  have hs := sums_nonneg h
  intro l hl
  rcases List.mem_append.mp hl with hl | hl
  · rcases List.mem_append.mp hl with hl | hl
    · rcases List.mem_append.mp hl with hl | hl
      · exact mem_sum_le hs hl
      · obtain ⟨r, hr, hx⟩ := List.mem_flatten.mp hl
        exact Int.le_trans (mem_sum_le (h r hr) hx) (mem_sum_le hs (List.mem_map.mpr ⟨r, hr, rfl⟩))
    · obtain ⟨j, hj, rfl⟩ := List.mem_map.mp hl
      exact col_sum_le h
  · rw [List.mem_singleton] at hl
    exact Int.le_of_eq hl
theorem need_le {x : Int} {o : Option Int} (p : Pos o) (hx : 0 ≤ x) : need x o ≤ x := by
  cases o with
  | none => exact hx
  | some b =>
    refine ceil_le (p b rfl) ?_
    have := Int.mul_le_mul_of_nonneg_right (show (1 : Int) ≤ b from p b rfl) hx
    rw [Int.one_mul] at this
    exact this
/-! ### known loads -/
theorem zw_le {k : Int} : ∀ {xs : List Int} {l : Side}, (∀ z ∈ l, 1 ≤ z.2) → (∀ x ∈ xs, 0 ≤ x ∧ x ≤ k) → ∀ y ∈ List.zipWith need xs (limS l), y ≤ k
  | [], _, _, _, y, h => by simp at h
  | _ :: _, [], _, _, y, h => by simp [limS] at h
  | x :: xs, z :: l, hb, hx, y, h => by
    have b := hb z (List.mem_cons_self ..)
    have hx0 := hx x (List.mem_cons_self ..)
    rcases List.mem_cons.mp (show y ∈ need x (some z.2) :: List.zipWith need xs (limS l) from h) with rfl | h
    · have := need_le (x := x) (o := some z.2) (fun b' e => by cases e; omega) hx0.1
      omega
    · exact zw_le (fun w hw => hb w (List.mem_cons_of_mem _ hw)) (fun w hw => hx w (List.mem_cons_of_mem _ hw)) y h
theorem load_one {hs gs : Side} {g : Grid} {m : Int} (fi : Fairish hs gs (some 1)) (gi : Gridish g hs.length gs.length) (h : LB m hs gs (some 1) g) : m = (sumsL g).sum := by
  have c1 : ceilI (sumsL g).sum 1 = (sumsL g).sum := by
    unfold ceilI
    rw [Int.ediv_one, Int.neg_neg]
  have a : (sumsL g).sum ≤ m := by rw [← c1]; exact h.1.desk
  have all := lines_le_all (n := gs.length) gi.least
  have non := lines_nonneg (n := gs.length) gi.least
  refine Int.le_antisymm (h.2 _ ⟨sum_nonneg (sums_nonneg gi.least), ?_, ?_, ?_⟩) a
  · refine zw_le (fun z hz => (fi.bd z (List.mem_append_left _ hz)).1) fun x hx => ?_
    have hx' : x ∈ linesL g gs.length := List.mem_append_left _ (List.mem_append_left _ (List.mem_append_left _ hx))
    exact ⟨non x hx', all x hx'⟩
  · refine zw_le (fun z hz => (fi.bd z (List.mem_append_right _ hz)).1) fun x hx => ?_
    have hx' : x ∈ linesL g gs.length := List.mem_append_left _ (List.mem_append_right _ hx)
    exact ⟨non x hx', all x hx'⟩
  · rw [need_some, c1]
    exact Int.le_refl _
theorem load_alone {z : Str × Int} {gs : Side} {r : List Int} {m : Int} (fi : Fairish [z] gs none) (gi : Gridish [r] 1 gs.length) (hz : z.2 = 1) (h : LB m [z] gs none [r]) : m = r.sum := by
  have c1 : need r.sum (some z.2) = r.sum := by
    rw [hz, need_some]
    unfold ceilI
    rw [Int.ediv_one, Int.neg_neg]
  have a : r.sum ≤ m := by
    have := h.1.rows (need r.sum (some z.2)) (List.mem_cons_self ..)
    rw [c1] at this
    exact this
  have tot : (sumsL [r]).sum = r.sum := by simp [sumsL]
  have all := lines_le_all (n := gs.length) gi.least
  have non := lines_nonneg (n := gs.length) gi.least
  rw [tot] at all
  refine Int.le_antisymm (h.2 _ ⟨sum_nonneg (gi.least r (List.mem_cons_self ..)), ?_, ?_, ?_⟩) a
  · intro y hy
    rcases List.mem_cons.mp (show y ∈ need r.sum (some z.2) :: [] from hy) with rfl | hy
    · rw [c1]; exact Int.le_refl _
    · cases hy
  · refine zw_le (fun z hz => (fi.bd z (List.mem_append_right _ hz)).1) fun x hx => ?_
    have hx' : x ∈ linesL [r] gs.length := List.mem_append_left _ (List.mem_append_right _ hx)
    exact ⟨non x hx', all x hx'⟩
  · show 0 ≤ r.sum
    exact sum_nonneg (gi.least r (List.mem_cons_self ..))
/-- bounds of 4, numbers of 0 and 1 -/
theorem load_wide {hs gs : Side} {g : Grid} {m : Int} (hb : ∀ z ∈ hs ++ gs, z.2 = 4) (h1 : 0 < hs.length) (gi : Gridish g hs.length gs.length) (h4 : hs.length ≤ 4) (g4 : gs.length ≤ 4) (hx : ∀ r ∈ g, ∀ x ∈ r, x ≤ 1) (h : LB m hs gs none g) : m = if (1 : Int) ∈ g.flatten then 1 else 0 := by
  have zw : ∀ {xs : List Int} {l : Side}, (∀ z ∈ l, z.2 = 4) → (∀ x ∈ xs, x ≤ 4) → ∀ y ∈ List.zipWith need xs (limS l), y ≤ 1 := by
    intro xs
    induction xs with
    | nil => intro l _ _ y hy; simp at hy
    | cons x xs ih =>
      intro l hl hx y hy
      cases l with
      | nil => simp [limS] at hy
      | cons z l =>
        rcases List.mem_cons.mp (show y ∈ need x (some z.2) :: List.zipWith need xs (limS l) from hy) with rfl | hy
        · rw [hl z (List.mem_cons_self ..)]
          exact ceil_le (by decide) (by have := hx x (List.mem_cons_self ..); omega)
        · exact ih (fun w hw => hl w (List.mem_cons_of_mem _ hw)) (fun w hw => hx w (List.mem_cons_of_mem _ hw)) y hy
  have cnt : ∀ {r : List Int}, (∀ x ∈ r, x ≤ 1) → r.sum ≤ r.length := by
    intro r
    induction r with
    | nil => intro _; exact Int.le_refl _
    | cons x r ih =>
      intro hx
      rw [List.sum_cons, List.length_cons]
      have := hx x (List.mem_cons_self ..)
      have := ih fun y hy => hx y (List.mem_cons_of_mem _ hy)
      omega
  have b1 : Bnd 1 hs gs none g := by
    refine ⟨by decide, zw (fun z hz => hb z (List.mem_append_left _ hz)) fun x hx' => ?_, zw (fun z hz => hb z (List.mem_append_right _ hz)) fun x hx' => ?_, (show (0 : Int) ≤ 1 by decide)⟩
    · obtain ⟨r, hr, rfl⟩ := List.mem_map.mp hx'
      have := cnt (hx r hr)
      have := gi.cols r hr
      omega
    · obtain ⟨j, _, rfl⟩ := List.mem_map.mp hx'
      have := cnt (r := colL g j) fun x hx' => by
        obtain ⟨r, hr, rfl⟩ := List.mem_map.mp hx'
        show r.getD j 0 ≤ 1
        rw [List.getD_eq_getElem?_getD]
        cases e : r[j]? with
        | none => decide
        | some y => exact hx r hr y (List.mem_of_getElem? e)
      rw [colL, List.length_map, gi.rows] at this
      have e : (colL g j).sum = (g.map fun r => r.getD j 0).sum := rfl
      show (colL g j).sum ≤ 4
      rw [e]
      omega
  have le1 := h.2 1 b1
  have ge0 := h.1.nn
  by_cases c : (1 : Int) ∈ g.flatten
  · rw [if_pos c]
    obtain ⟨r, hr, h1r⟩ := List.mem_flatten.mp c
    have s1 : 1 ≤ r.sum := mem_sum_le (gi.least r hr) h1r
    obtain ⟨i, hi⟩ := List.mem_iff_getElem?.mp hr
    have hil := (List.getElem?_eq_some_iff.mp hi).1
    have em : need r.sum (some 4) ∈ List.zipWith need (sumsL g) (limS hs) := by
      refine List.mem_iff_getElem?.mpr ⟨i, ?_⟩
      rw [List.getElem?_zipWith, sumsL, List.getElem?_map, hi, limS, List.getElem?_map, List.getElem?_eq_getElem (show i < hs.length by rw [← gi.rows]; exact hil)]
      show some (need r.sum (some _)) = _
      rw [hb _ (List.mem_append_left _ (List.getElem_mem _))]
    have := h.1.rows _ em
    have := le_ceil (x := r.sum) (b := 4) (by decide)
    have : need r.sum (some 4) = ceilI r.sum 4 := rfl
    omega
  · rw [if_neg c]
    have z : ∀ r ∈ g, ∀ x ∈ r, x = 0 := fun r hr x hx' => by
      have h0 := gi.least r hr x hx'
      have h1 := hx r hr x hx'
      have : x ≠ 1 := fun e => c (List.mem_flatten.mpr ⟨r, hr, e ▸ hx'⟩)
      omega
    have zs : ∀ {r : List Int}, (∀ x ∈ r, x = 0) → r.sum = 0 := by
      intro r
      induction r with
      | nil => intro _; rfl
      | cons x r ih =>
        intro hx
        rw [List.sum_cons, hx x (List.mem_cons_self ..), ih fun y hy => hx y (List.mem_cons_of_mem _ hy)]
        rfl
    have zr : ∀ x ∈ sumsL g, x = 0 := fun x hx' => by
      obtain ⟨r, hr, rfl⟩ := List.mem_map.mp hx'
      exact zs (z r hr)
    have tot : (sumsL g).sum = 0 := zs zr
    have all := lines_le_all (n := gs.length) gi.least
    have non := lines_nonneg (n := gs.length) gi.least
    rw [tot] at all
    have b0 : Bnd 0 hs gs none g := by
      refine ⟨Int.le_refl _, zw_le (fun z hz => by rw [hb z (List.mem_append_left _ hz)]; decide) fun x hx' => ?_, zw_le (fun z hz => by rw [hb z (List.mem_append_right _ hz)]; decide) fun x hx' => ?_, Int.le_refl (0 : Int)⟩
      · have hm : x ∈ linesL g gs.length := List.mem_append_left _ (List.mem_append_left _ (List.mem_append_left _ hx'))
        exact ⟨non x hm, all x hm⟩
      · have hm : x ∈ linesL g gs.length := List.mem_append_left _ (List.mem_append_right _ hx')
        exact ⟨non x hm, all x hm⟩
    have := h.2 0 b0
    omega
/-- a square of like numbers, like bounds -/
theorem sq_sums (m : Nat) (x : Int) : sumsL (sqL m x) = List.replicate m (m * x) := by
  have : (List.replicate m x).sum = m * x := by
    generalize hn : m = n
    clear hn
    induction n with
    | zero => simp
    | succ n ih => rw [List.replicate_succ, List.sum_cons, ih, Int.natCast_add, Int.add_mul]; omega
  rw [sumsL, sqL, List.map_replicate, this]
theorem rep_sum (m : Nat) (x : Int) : (List.replicate m x).sum = m * x := by
  induction m with
  | zero => simp
  | succ n ih => rw [List.replicate_succ, List.sum_cons, ih, Int.natCast_add, Int.add_mul]; omega
theorem sq_cols {m : Nat} (x : Int) : colsL (sqL m x) m = List.replicate m (m * x) := by
  refine List.eq_replicate_iff.mpr ⟨by rw [colsL, List.length_map, List.length_range], fun y hy => ?_⟩
  obtain ⟨j, hj, rfl⟩ := List.mem_map.mp hy
  have hj := List.mem_range.mp hj
  have : colL (sqL m x) j = List.replicate m x := by
    rw [colL, sqL, List.map_replicate]
    congr 1
    rw [List.getD_eq_getElem?_getD, List.getElem?_replicate, if_pos hj]
    rfl
  show (colL (sqL m x) j).sum = _
  rw [this, rep_sum]
theorem sq_bnd {m : Nat} {x k b : Int} {hs gs : Side} {t : Option Int} (hm : 1 ≤ m) (lh : hs.length = m) (lg : gs.length = m) (hb : ∀ z ∈ hs ++ gs, z.2 = b) : Bnd k hs gs t (sqL m x) ↔ 0 ≤ k ∧ ceilI (m * x) b ≤ k ∧ need (m * (m * x)) t ≤ k := by
  have zw : ∀ {n : Nat} {l : Side}, l.length = n → (∀ z ∈ l, z.2 = b) → List.zipWith need (List.replicate n ((m : Int) * x)) (limS l) = List.replicate n (ceilI (m * x) b) := by
    intro n
    induction n with
    | zero => intro l _ _; rfl
    | succ n ih =>
      intro l hl hz
      cases l with
      | nil => cases hl
      | cons z l =>
        rw [List.replicate_succ, List.replicate_succ, ← ih (l := l) (Nat.succ.inj hl) fun w hw => hz w (List.mem_cons_of_mem _ hw)]
        show need (m * x) (some z.2) :: _ = _
        rw [hz z (List.mem_cons_self ..)]
        rfl
  have e1 := zw lh fun z hz => hb z (List.mem_append_left _ hz)
  have e2 := zw lg fun z hz => hb z (List.mem_append_right _ hz)
  have e3 : (sumsL (sqL m x)).sum = m * (m * x) := by rw [sq_sums, rep_sum]
  constructor
  · intro h
    have r := h.rows
    have d := h.desk
    rw [sq_sums, e1] at r
    rw [e3] at d
    exact ⟨h.nn, r _ (List.mem_replicate.mpr ⟨by omega, rfl⟩), d⟩
  · rintro ⟨a, c, d⟩
    refine ⟨a, ?_, ?_, by rw [e3]; exact d⟩
    · rw [sq_sums, e1]
      intro y hy
      rw [(List.mem_replicate.mp hy).2]
      exact c
    · rw [lg, sq_cols, e2]
      intro y hy
      rw [(List.mem_replicate.mp hy).2]
      exact c
theorem sq_free {m : Nat} {x k b : Int} {hs gs : Side} (hm : 1 ≤ m) (lh : hs.length = m) (lg : gs.length = m) (hb : ∀ z ∈ hs ++ gs, z.2 = b) (b1 : 1 ≤ b) (hx : 0 ≤ x) (h : LB k hs gs none (sqL m x)) : k = ceilI (m * x) b := by
  obtain ⟨a, c, _⟩ := (sq_bnd hm lh lg hb).mp h.1
  have n0 := ceil_nonneg (x := m * x) (b := b) (by omega) (Int.mul_nonneg (by omega) hx)
  exact Int.le_antisymm (h.2 _ ((sq_bnd hm lh lg hb).mpr ⟨n0, Int.le_refl _, n0⟩)) c
theorem sq_desk {m : Nat} {x k b d : Int} {hs gs : Side} (hm : 1 ≤ m) (lh : hs.length = m) (lg : gs.length = m) (hb : ∀ z ∈ hs ++ gs, z.2 = b) (b1 : 1 ≤ b) (d1 : 1 ≤ d) (hx : 0 ≤ x) (h : LB k hs gs (some d) (sqL m x)) : k = if d < m * b then ceilI (m * m * x) d else ceilI (m * x) b := by
  obtain ⟨a, c, e⟩ := (sq_bnd hm lh lg hb).mp h.1
  rw [need_some] at e
  have mm : (m : Int) * m * x = m * (m * x) := Int.mul_assoc _ _ _
  have p0 : 0 ≤ (m : Int) * x := Int.mul_nonneg (by omega) hx
  have q0 : 0 ≤ (m : Int) * (m * x) := Int.mul_nonneg (by omega) p0
  have n0 := ceil_nonneg (x := m * x) (b := b) (by omega) p0
  have n1 := ceil_nonneg (x := m * (m * x)) (b := d) (by omega) q0
  have l1 := le_ceil (x := m * x) (b := b) (by omega)
  have l2 := le_ceil (x := m * (m * x)) (b := d) (by omega)
  by_cases lt : d < m * b
  · rw [if_pos lt, mm]
    refine Int.le_antisymm (h.2 _ ((sq_bnd hm lh lg hb).mpr ⟨n1, ceil_le (by omega) ?_, Int.le_refl _⟩)) e
    have h1 := Int.mul_le_mul_of_nonneg_right (Int.le_of_lt lt) n1
    have h2 : (m : Int) * (m * x) ≤ m * (b * ceilI (m * (m * x)) d) := by
      rw [← Int.mul_assoc (m : Int) b]
      omega
    exact Int.le_of_mul_le_mul_left h2 (by omega)
  · rw [if_neg lt]
    refine Int.le_antisymm (h.2 _ ((sq_bnd hm lh lg hb).mpr ⟨n0, Int.le_refl _, ceil_le (by omega) ?_⟩)) c
    have h1 := Int.mul_le_mul_of_nonneg_left l1 (show (0 : Int) ≤ m by omega)
    have h2 := Int.mul_le_mul_of_nonneg_right (show m * b ≤ d by omega) n0
    rw [← Int.mul_assoc (m : Int) b] at h1
    omega
theorem up_is {x b : Int} (hb : 0 < b) : (x + b - 1) / b = ceilI x b := by
  have h1 := le_ceil (x := x) hb
  have h2 := lt_ceil (x := x) hb
  have h3 : x + b - 1 = b * ceilI x b + (x - b * (ceilI x b - 1) - 1) := by rw [Int.mul_sub, Int.mul_one]; omega
  rw [h3, Int.mul_add_ediv_left _ _ (by omega), Int.ediv_eq_zero_of_lt (by omega) (by rw [Int.mul_sub, Int.mul_one] at *; omega), Int.add_zero]
section
variable {P : Program} {w : World} {K : PySem.W.Frag} {mg : Str → Option Value} {base : Heap} {C : Addr}
theorem madeZ {H : Hp} {vh vg : V} {hs gs : Side} {t : Option Int} {Z : VK} {E : XK} {x dx : Addr} (h1 : Im K H vh (sideD hs)) (h2 : Im K H vg (sideD gs)) (fi : Fairish hs gs t) (hx : H x = none) (hd : H dx = none) (hn : dx ≠ x)
    (k : ∀ H', Same H H' → FairAt K C H' x hs gs t → Z .non H') : sp_init K C [.ref x, vh, vg, deskV t] (upd (upd H dx (.own x)) x (.ins C dx [])) Z E := by
  obtain ⟨p, dx', vh', vg', hs', gs', t', e, q1, q2, q3, q4, q5⟩ := made (C := C) (Q := fun _ H' => Z .non H') (E := E) h1 h2 fi hx hd hn k
  exact ⟨p, dx', vh', vg', hs', gs', t', e, q1, q2, q3, q4, fun n H' b u v => (q5 n H' b u v).2⟩
end
end F02
namespace F02
open PySem PySem.Spec PyProof.Rows L2 MG SP LT KW
theorem seq_mid {c : TT} {t1 ts : TS} {D : Ends} {σ : L2.St} {H : Hp} (R : L2.St → Hp → Prop)
    (h : ∀ Nx : L2.St → Hp → Prop, (∀ σ' H', R σ' H' → Nx σ' H') → c σ H fun b H1 => if b = true then t1 { D with nx := Nx } σ H1 else Nx σ H1)
    (k : ∀ σ' H', R σ' H' → ts D σ' H') : tSeq (tIfS c t1 tNext) ts D σ H := h (ts D) k
theorem sq_grid {m : Nat} {x : Int} (h0 : 0 ≤ x) (h1 : x ≤ 1000000000000000000000000000000) : Gridish (sqL m x) m m := by
  refine ⟨List.length_replicate, fun r hr => ?_, fun r hr y hy => ?_, fun r hr y hy => ?_⟩
  · rw [(List.mem_replicate.mp hr).2, List.length_replicate]
  · rw [(List.mem_replicate.mp hr).2] at hy
    rw [(List.mem_replicate.mp hy).2]
    exact h0
  · rw [(List.mem_replicate.mp hr).2] at hy
    rw [(List.mem_replicate.mp hy).2]
    exact h1
/-- a side of words, all with one bound -/
def sideW (ws : List Str) (b : Int) : Side := ws.map fun w => (w, b)
theorem fair_words {as bs : List Str} {b : Int} {t : Option Int} (nd : (as ++ bs).Nodup) (nm : ∀ w ∈ as ++ bs, Nm w) (a1 : 1 ≤ as.length) (a4 : as.length ≤ 4) (b1 : 1 ≤ bs.length) (b4 : bs.length ≤ 4) (h1 : 1 ≤ b) (h4 : b ≤ 4) (tb : ∀ k, t = some k → 1 ≤ k ∧ k ≤ 12) : Fairish (sideW as b) (sideW bs b) t := by
  have e : (sideW as b ++ sideW bs b) = sideW (as ++ bs) b := by simp [sideW]
  refine ⟨by rw [sideW, List.length_map]; exact a1, by rw [sideW, List.length_map]; exact a4, by rw [sideW, List.length_map]; exact b1, by rw [sideW, List.length_map]; exact b4, ?_, fun z hz => ?_, fun z hz => ?_, tb⟩
  · rw [e, sideW, List.map_map]
    rw [show ((fun z : Str × Int => z.1) ∘ fun w => (w, b)) = id from rfl, List.map_id]
    exact nd
  · rw [e] at hz
    obtain ⟨w, hw, rfl⟩ := List.mem_map.mp hz
    exact nm w hw
  · rw [e] at hz
    obtain ⟨w, hw, rfl⟩ := List.mem_map.mp hz
    exact ⟨h1, h4⟩
section
variable {P : Program} {w : World} {K : PySem.W.Frag} {mg : Str → Option Value} {base : Heap} {C : Addr}
/-- one more pair behind a list of pairs -/
theorem acc_word {H X : Hp} {D T : Addr} {xs : List V} {ws : List Str} {b c : Int} {u : Str} {ds : Side} (nD : H D = none) (l4 : xs.length ≤ 64) (z1 : X D = some (.lst xs)) (im : ImAll K X xs (ds.map pD)) (s : Same H X) (nT : X T = none) :
    ∃ acc, (upd X T (.tup [.str u, .int c])) D = some (.lst acc) ∧ acc.length < sizeLine ∧ ∃ xs', (upd (upd X T (.tup [.str u, .int c])) D (.lst (acc ++ [.ref T]))) D = some (.lst xs') ∧ xs'.length = xs.length + 1 ∧
      ImAll K (upd (upd X T (.tup [.str u, .int c])) D (.lst (acc ++ [.ref T]))) xs' ((ds ++ [(u, c)]).map pD) ∧ Same H (upd (upd X T (.tup [.str u, .int c])) D (.lst (acc ++ [.ref T]))) := by
  have sT := same_new (o := .tup [.str u, .int c]) (Same.refl X) nT
  have z2 := (upd_ne (o := .tup [.str u, .int c]) (ne_of_none z1 nT)).trans z1
  refine ⟨xs, z2, Nat.lt_of_lt_of_le (show _ < 100 by omega) (by decide), xs ++ [.ref T], upd_same, by rw [List.length_append]; rfl, ?_, fun c' o h => ?_⟩
  · rw [List.map_append]
    exact ImAll.append ((im.to (Tk.same sT) _ _).to (Tk.mut0 z2) _ _) (.cons (.tup ((Tk.mut0 z2).sq (SqT.of upd_same)) (.cons (.str u) (.cons (.int c) .nil))) .nil)
  · rw [upd_ne (ne_of_none h nD)]
    exact sT _ _ (s _ _ h)
/-! ### _law_square_right -/
abbrev s_l_square_right : Stmt := top 53
abbrev NSq : List Str := ["_law_jug_here", "_law_words_here", "_law_many", "_law_bound", "_law_number_here", "_law_sides", "_law_desks", "_law_due", "_law_word_here"]
theorem sc_l_square_right : FnScope NSq ["_law_jug_here", "_law_words_here"] (defScope s_l_square_right) := ⟨rfl, rfl, rfl, by decide +kernel, rfl, by decide +kernel, by decide +kernel⟩
def sp_l_square_right : Sp := fun vs H Q _ => ∃ (p q : Addr) (ws : List Str) (N : Nat), vs = [.ref p, .ref q] ∧ Jug H p N ∧ N + 7 ≤ 1000000 ∧ H q = some (.lst (ws.map V.str)) ∧ ws.length = 8 ∧ ws.Nodup ∧ (∀ x ∈ ws, Nm x) ∧ ∀ H', But p H H' → Jug H' p (N + 7) → Q (.bl true) H'
structure TxSq (K : PySem.W.Frag) (mg : Str → Option Value) (f_l_pour f_l_some f_l_alike f_load : Addr) : Prop where
  n_tuple : mg "tuple" = none
  g_l_pour : mg "_law_pour" = some (.ref f_l_pour)
  k_l_pour : PySem.W.keepIn K (.ref f_l_pour) = true
  g_l_some : mg "_law_some" = some (.ref f_l_some)
  k_l_some : PySem.W.keepIn K (.ref f_l_some) = true
  g_l_alike : mg "_law_alike" = some (.ref f_l_alike)
  k_l_alike : PySem.W.keepIn K (.ref f_l_alike) = true
  g_load : mg "load" = some (.ref f_load)
  k_load : PySem.W.keepIn K (.ref f_load) = true
theorem ok_l_square_right {f f_l_pour f_l_some f_l_alike f_load f_init : Addr} {fd fd_l_pour fd_l_some fd_l_alike fd_load d_init : FuncData} (F : Fun K "_law_square_right" "_law_square_right" s_l_square_right f fd) (g_Fair : mg "Fair" = some (.ref C)) (T : TxSq K mg f_l_pour f_l_some f_l_alike f_load)
    (M : Mk K C f_init) (FI' : FI K f_init d_init) (G_init4 : FnOk P w K mg base CX0 4 f_init d_init psI (sp_init K C))
    (G_l_pour1 : FnOk P w K mg base CX0 1 f_l_pour fd_l_pour ["_law_jug_here", "_law_many"] sp_l_pour) (b_l_pour : Binds K fd_l_pour ["_law_jug_here", "_law_many"] [])
    (G_l_some2 : FnOk P w K mg base CX0 2 f_l_some fd_l_some ["_law_jug_here", "_law_most"] sp_l_some) (b_l_some : Binds K fd_l_some ["_law_jug_here", "_law_most"] [])
    (G_l_alike1 : FnOk P w K mg base CX0 1 f_l_alike fd_l_alike ["_law_many", "_law_number_here"] (sp_l_alike K)) (b_l_alike : Binds K fd_l_alike ["_law_many", "_law_number_here"] [])
    (G_load : FnOk P w K mg base CX0 6 f_load fd_load ["fair", "meetings"] (sp_load K C)) (b_load : Binds K fd_load ["fair", "meetings"] []) :
    FnOk P w K mg base CX0 7 f fd ["_law_jug_here", "_law_words_here"] sp_l_square_right := by
  have G_l_pour := G_l_pour1.mono (show 1 ≤ 6 by decide)
  have G_l_some := G_l_some2.mono (show 2 ≤ 6 by decide)
  have G_l_alike := G_l_alike1.mono (show 1 ≤ 6 by decide)
  have G_init := G_init4.mono (show 4 ≤ 5 by decide)
  obtain ⟨ds3, r3, b3⟩ := b_init3 FI'
  have b4 := b_init4 FI'
  refine F.ok sc_l_square_right (fun vs H Q E h => ?_) (fun cdv A outer s H vs Q E hr h => ?_)
  · obtain ⟨p, q, ws, N, rfl, _⟩ := h
    rfl
  · obtain ⟨p, q, ws, N, rfl, J, hN, hq, lw, nd, nm, k⟩ := h
    refine ⟨_, (pss_cons (ps_asg (pe_tup (pa_cons (pe_op op_add pe_int (pe_call G_l_pour hr rfl T.g_l_pour T.k_l_pour b_l_pour .nil pass0 (pa_cons (pv 0) (pa_cons pe_int pa_nil)))) (pa_cons (pe_op op_add pe_int (pe_call G_l_pour hr rfl T.g_l_pour T.k_l_pour b_l_pour .nil pass0 (pa_cons (pv 0) (pa_cons pe_int pa_nil)))) (pa_cons (pe_call G_l_some hr rfl T.g_l_some T.k_l_some b_l_some .nil pass0 (pa_cons (pv 0) (pa_cons (pe_op op_pow pe_int pe_int) pa_nil))) pa_nil)))) (pg_tup rfl (pgs_cons (pg_name (i := 2) sc_l_square_right.nd rfl (Or.inl rfl)) (pgs_cons (pg_name (i := 3) sc_l_square_right.nd rfl (Or.inr rfl)) (pgs_cons (pg_name (i := 4) sc_l_square_right.nd rfl (Or.inl rfl)) pgs_nil)))))
      (pss_cons (ps_set (i := 5) sc_l_square_right.nd rfl (Or.inl rfl) (pe_lst (pa_cons (pe_callTy (T := "tuple") (r := RTup K) call_tuple_of (by rfl) T.n_tuple (by decide +kernel) (pa_cons (pe_lc (own := [("_law_word_here", 8)]) (g := gName 8) (te := tTup (tCons (tVar 8) (tCons (tVar 3) tNil))) (tt := tYes) rfl sc_l_square_right.nd (pi_list (pe_slice sl_list (pv 1) po_none (po_some (pv 2)))) (blkOk_by (own := [("_law_word_here", 8)]) (N := NSq) (sc := defScope s_l_square_right) (by decide +kernel)) (fun _ _ _ _ _ => (pg_name (i := 8) sc_l_square_right.nd rfl (Or.inl rfl))) (fun _ _ _ _ _ => pts_nil) (fun _ _ _ _ _ => (pe_tup (pa_cons (pv 8) (pa_cons (pv 3) pa_nil))))) pa_nil)) (pa_cons (pe_callTy (T := "tuple") (r := RTup K) call_tuple_of (by rfl) T.n_tuple (by decide +kernel) (pa_cons (pe_lc (own := [("_law_word_here", 8)]) (g := gName 8) (te := tTup (tCons (tVar 8) (tCons (tVar 3) tNil))) (tt := tYes) rfl sc_l_square_right.nd (pi_list (pe_slice sl_list (pv 1) (po_some pe_int) (po_some (pe_op op_add pe_int (pv 2))))) (blkOk_by (own := [("_law_word_here", 8)]) (N := NSq) (sc := defScope s_l_square_right) (by decide +kernel)) (fun _ _ _ _ _ => (pg_name (i := 8) sc_l_square_right.nd rfl (Or.inl rfl))) (fun _ _ _ _ _ => pts_nil) (fun _ _ _ _ _ => (pe_tup (pa_cons (pv 8) (pa_cons (pv 3) pa_nil))))) pa_nil)) pa_nil))))
      (pss_cons (ps_set (i := 6) sc_l_square_right.nd rfl (Or.inl rfl) (pe_op op_add pe_int (pe_call G_l_pour hr rfl T.g_l_pour T.k_l_pour b_l_pour .nil pass0 (pa_cons (pv 0) (pa_cons pe_int pa_nil)))))
      (pss_cons (ps_set (i := 7) sc_l_square_right.nd rfl (Or.inl rfl) (pe_op op_fdiv (pe_op op_sub (pe_op op_add (pe_op op_mul (pv 2) (pv 4)) (pv 3)) pe_int) (pv 3)))
      (pss_cons (ps_if (pt_cmpR op_ne (pe_call G_load hr rfl T.g_load T.k_load b_load .nil pass0 (pa_cons (pe_make M G_init hr rfl g_Fair b3 r3 pass0 (pa_cons (pe_ix (r := rIxL K) ix_list (pv 5) pe_int (fun _ _ => rfl)) (pa_cons (pe_ix (r := rIxL K) ix_list (pv 5) pe_int (fun _ _ => rfl)) pa_nil))) (pa_cons (pe_call G_l_alike hr rfl T.g_l_alike T.k_l_alike b_l_alike .nil pass0 (pa_cons (pv 2) (pa_cons (pv 4) pa_nil))) pa_nil))) (pv 7) (nomark _))
        (pss_one (ps_ret pe_bl))
        pss_nil)
      (pss_cons (ps_if (pt_cmpR op_lt (pv 6) (pe_op op_mul (pv 2) (pv 3)) (nomark _))
        (pss_one (ps_set (i := 7) sc_l_square_right.nd rfl (Or.inl rfl) (pe_op op_fdiv (pe_op op_sub (pe_op op_add (pe_op op_mul (pe_op op_mul (pv 2) (pv 2)) (pv 4)) (pv 6)) pe_int) (pv 6))))
        pss_nil)
      (pss_one (ps_ret (pe_cmpR op_eq (pe_call G_load hr rfl T.g_load T.k_load b_load .nil pass0 (pa_cons (pe_make M G_init hr rfl g_Fair b4 .nil pass0 (pa_cons (pe_ix (r := rIxL K) ix_list (pv 5) pe_int (fun _ _ => rfl)) (pa_cons (pe_ix (r := rIxL K) ix_list (pv 5) pe_int (fun _ _ => rfl)) (pa_cons (pv 6) pa_nil)))) (pa_cons (pe_call G_l_alike hr rfl T.g_l_alike T.k_l_alike b_l_alike .nil pass0 (pa_cons (pv 2) (pa_cons (pv 4) pa_nil))) pa_nil))) (pv 7) (nomark _)))))))))), ?_⟩
    refine ⟨_, rfl, p, 4, N, rfl, J, by omega, by decide, by decide, fun r1 H1 a0 a1 bb1 j1 => ⟨_, _, rfl, rfl, ?_⟩⟩
    refine ⟨_, rfl, p, 4, N + 1, rfl, j1, by omega, by decide, by decide, fun r2 H2 c0 c1 bb2 j2 => ⟨_, _, rfl, rfl, ?_⟩⟩
    refine ⟨_, rfl, _, _, rfl, rfl, ⟨by decide, by decide, by decide⟩, p, _, N + 2, rfl, j2, by omega, by decide, fun x H3 x0 x1 bb3 j3 => ?_⟩
    obtain ⟨m, hm⟩ : ∃ m : Nat, 1 + r1 = (m : Int) := ⟨(1 + r1).toNat, by omega⟩
    obtain ⟨b, hb⟩ : ∃ b, b = 1 + r2 := ⟨_, rfl⟩
    have e30 : (10 : Int) ^ (30 : Int).toNat = 1000000000000000000000000000000 := by decide
    rw [e30] at x1
    have m1 : 1 ≤ m := by omega
    have m4 : m ≤ 4 := by omega
    have b1 : 1 ≤ b := by omega
    have b4' : b ≤ 4 := by omega
    have nqp : q ≠ p := fun e => by
      obtain ⟨_, _, _, e9, _⟩ := J
      rw [e, e9] at hq
      have := congrArg List.length (HO.lst.inj (Option.some.inj hq))
      rw [List.length_map, lw] at this
      cases this
    have bb : But p H H3 := (bb1.trans bb2).trans bb3
    have hq3 := bb q _ nqp hq
    refine ⟨(by show 3 ≤ sizeLine; decide), fun T3 nT3 => ?_⟩
    have v3 := same_new (o := .tup [.int (1 + r1), .int (1 + r2), .int x]) (Same.refl H3) nT3
    have hT3 : SqT K (upd H3 T3 (.tup [.int (1 + r1), .int (1 + r2), .int x])) T3 [.int (1 + r1), .int (1 + r2), .int x] := SqT.of upd_same
    refine ⟨T3, _, rfl, hT3, rfl, _, _, rfl, _, _, rfl, _, _, rfl, rfl, ?_⟩
    dsimp only
    rw [hm, ← hb] at v3 hT3 ⊢
    have hq4 := v3 _ _ hq3
    have j4 : Jug (upd H3 T3 (.tup [.int m, .int b, .int x])) p (N + 6) := j3.but fun o e => v3 _ _ e
    have bb4 := bb.trans (But.same v3)
    generalize upd H3 T3 (.tup [.int m, .int b, .int x]) = H4 at hq4 j4 bb4 ⊢
    clear hT3 v3 nT3 hq3 bb1 bb2 bb3 j1 j2 j3 bb
    obtain ⟨us, hus⟩ : ∃ us, us = ws.take m := ⟨_, rfl⟩
    obtain ⟨vs, hvs⟩ : ∃ vs, vs = (ws.drop 4).take m := ⟨_, rfl⟩
    have lu : us.length = m := by rw [hus, List.length_take]; omega
    have lv : vs.length = m := by rw [hvs, List.length_take, List.length_drop]; omega
    have cu : cutV (ws.map V.str) none (some (m : Int)) = us.map V.str := by
      unfold cutV
      rw [show HT.sIx (ws.map V.str).length 0 none = 0 from rfl, HT.sIx_nat, List.length_map, lw, List.drop_zero, Nat.min_eq_left (by omega), Nat.sub_zero, hus, List.map_take]
    have cv : cutV (ws.map V.str) (some 4) (some (4 + (m : Int))) = vs.map V.str := by
      unfold cutV
      rw [show (some (4 : Int)) = some ((4 : Nat) : Int) from rfl, show (4 : Int) + (m : Int) = ((4 + m : Nat) : Int) by omega, HT.sIx_nat, HT.sIx_nat, List.length_map, lw, Nat.min_eq_left (by omega), Nat.min_eq_left (by omega), show 4 + m - 4 = m by omega, hvs, List.map_take, List.map_drop]
    have ndu : (us ++ vs).Nodup := by
      have e : us ++ (ws.drop m).take (4 - m) ++ vs ++ (ws.drop (4 + m)) = ws := by
        rw [hus, hvs]
        have a1 : ws.take m ++ (ws.drop m).take (4 - m) = ws.take 4 := by
          rw [← List.take_add, show m + (4 - m) = 4 by omega]
        have a2 : (ws.drop 4).take m ++ ws.drop (4 + m) = ws.drop 4 := by
          rw [show ws.drop (4 + m) = (ws.drop 4).drop m by rw [List.drop_drop], List.take_append_drop]
        rw [List.append_assoc, a1, a2, List.take_append_drop]
      rw [← e] at nd
      have n1 := (List.nodup_append.mp nd).1
      obtain ⟨n2, n3, n4⟩ := List.nodup_append.mp n1
      exact List.nodup_append.mpr ⟨(List.nodup_append.mp n2).1, n3, fun x hx y hy => n4 x (List.mem_append_left _ hx) y hy⟩
    have nmu : ∀ w ∈ us ++ vs, Nm w := by
      intro w hw
      rcases List.mem_append.mp hw with h | h
      · rw [hus] at h; exact nm w (List.mem_of_mem_take h)
      · rw [hvs] at h; exact nm w (List.mem_of_mem_drop (List.mem_of_mem_take h))
    have fair : ∀ t : Option Int, (∀ k, t = some k → 1 ≤ k ∧ k ≤ 12) → Fairish (sideW us b) (sideW vs b) t := fun t ht => fair_words ndu nmu (by omega) (by omega) (by omega) (by omega) b1 b4' ht
    refine ⟨_, rfl, _, rfl, m, rfl, q, _, rfl, SqL.of hq4, fun L1 nL1 => ?_⟩
    have vL1 := same_new (o := .lst (cutV (ws.map V.str) none (some (m : Int)))) (Same.refl H4) nL1
    have hL1 : upd H4 L1 (.lst (cutV (ws.map V.str) none (some (m : Int)))) L1 = some (.lst (us.map V.str)) := by rw [upd_same, cu]
    generalize upd H4 L1 (.lst (cutV (ws.map V.str) none (some (m : Int)))) = X1 at vL1 hL1 ⊢
    refine ⟨L1, rfl, ⟨_, SqL.of hL1⟩, fun D1 nD1 => ?_⟩
    refine lc_list (K := K) (a := L1) (xs := us.map V.str) (fun j X => ∃ xs, X D1 = some (.lst xs) ∧ xs.length = j ∧ ImAll K X xs ((sideW (us.take j) b).map pD) ∧ Same X1 X) ⟨[], upd_same, rfl, .nil, same_new (Same.refl _) nD1⟩ (fun j X _ ⟨_, _, _, _, z⟩ => SqL.of (z _ _ hL1)) ?_ ?_
    · rintro j y X hj ⟨xs, z1, lx, im, sX⟩
      obtain ⟨u, hu, rfl⟩ : ∃ u, us[j]? = some u ∧ y = V.str u := by
        rw [List.getElem?_map] at hj
        cases e : us[j]? with
        | none => rw [e] at hj; cases hj
        | some u => rw [e] at hj; exact ⟨u, rfl, (Option.some.inj hj).symm⟩
      have hj8 : j < us.length := (List.getElem?_eq_some_iff.mp hu).1
      have e1 : sideW (us.take (j + 1)) b = sideW (us.take j) b ++ [(u, b)] := by rw [List.take_add_one, hu, sideW, List.map_append]; rfl
      refine ⟨rfl, tyes (iteT ⟨_, rfl, _, rfl, (by show 2 ≤ sizeLine; decide), fun t nt => ?_⟩)⟩
      obtain ⟨acc, w1, w2, xs', w3, w4, w5, w6⟩ := acc_word (u := u) (c := b) (b := 0) (ws := []) nD1 (by omega) z1 im sX nt
      exact ⟨acc, w1, w2, xs', w3, by rw [w4, lx], by rw [e1]; exact w5, w6⟩
    rintro Y1 ⟨xsD1, zD1, lxD1, imD1, sD1⟩
    rw [List.length_map, List.take_length] at imD1
    refine ⟨D1, _, rfl, .inl ⟨SqL.of zD1, fun TA nTA => ?_⟩⟩
    have vA := same_new (o := .tup xsD1) (Same.refl Y1) nTA
    have iA : Im K (upd Y1 TA (.tup xsD1)) (.ref TA) (sideD (sideW us b)) := .tup (SqT.of upd_same) (imD1.to (Tk.same vA) _ _)
    have sA : Same H4 (upd Y1 TA (.tup xsD1)) := (vL1.trans sD1).trans vA
    generalize upd Y1 TA (.tup xsD1) = Z1 at iA sA ⊢
    clear imD1 zD1 sD1 lxD1 vA nTA nD1 nL1 hL1 vL1
    refine ⟨_, rfl, _, rfl, _, rfl, _, _, rfl, rfl, _, rfl, q, _, rfl, SqL.of (sA _ _ hq4), fun L2 nL2 => ?_⟩
    have vL2 := same_new (o := .lst (cutV (ws.map V.str) (some 4) (some (4 + (m : Int))))) (Same.refl Z1) nL2
    have hL2 : upd Z1 L2 (.lst (cutV (ws.map V.str) (some 4) (some (4 + (m : Int))))) L2 = some (.lst (vs.map V.str)) := by rw [upd_same, cv]
    generalize upd Z1 L2 (.lst (cutV (ws.map V.str) (some 4) (some (4 + (m : Int))))) = X2 at vL2 hL2 ⊢
    refine ⟨L2, rfl, ⟨_, SqL.of hL2⟩, fun D2 nD2 => ?_⟩
    refine lc_list (K := K) (a := L2) (xs := vs.map V.str) (fun j X => ∃ xs, X D2 = some (.lst xs) ∧ xs.length = j ∧ ImAll K X xs ((sideW (vs.take j) b).map pD) ∧ Same X2 X) ⟨[], upd_same, rfl, .nil, same_new (Same.refl _) nD2⟩ (fun j X _ ⟨_, _, _, _, z⟩ => SqL.of (z _ _ hL2)) ?_ ?_
    · rintro j y X hj ⟨xs, z1, lx, im, sX⟩
      obtain ⟨u, hu, rfl⟩ : ∃ u, vs[j]? = some u ∧ y = V.str u := by
        rw [List.getElem?_map] at hj
        cases e : vs[j]? with
        | none => rw [e] at hj; cases hj
        | some u => rw [e] at hj; exact ⟨u, rfl, (Option.some.inj hj).symm⟩
      have hj8 : j < vs.length := (List.getElem?_eq_some_iff.mp hu).1
      have e1 : sideW (vs.take (j + 1)) b = sideW (vs.take j) b ++ [(u, b)] := by rw [List.take_add_one, hu, sideW, List.map_append]; rfl
      refine ⟨rfl, tyes (iteT ⟨_, rfl, _, rfl, (by show 2 ≤ sizeLine; decide), fun t nt => ?_⟩)⟩
      obtain ⟨acc, w1, w2, xs', w3, w4, w5, w6⟩ := acc_word (u := u) (c := b) (b := 0) (ws := []) nD2 (by omega) z1 im sX nt
      exact ⟨acc, w1, w2, xs', w3, by rw [w4, lx], by rw [e1]; exact w5, w6⟩
    rintro Y2 ⟨xsD2, zD2, lxD2, imD2, sD2⟩
    rw [List.length_map, List.take_length] at imD2
    refine ⟨D2, _, rfl, .inl ⟨SqL.of zD2, fun TB nTB => ?_⟩⟩
    have vB := same_new (o := .tup xsD2) (Same.refl Y2) nTB
    have iB : Im K (upd Y2 TB (.tup xsD2)) (.ref TB) (sideD (sideW vs b)) := .tup (SqT.of upd_same) (imD2.to (Tk.same vB) _ _)
    have sB : Same Z1 (upd Y2 TB (.tup xsD2)) := (vL2.trans sD2).trans vB
    generalize upd Y2 TB (.tup xsD2) = Z2 at iB sB ⊢
    clear imD2 zD2 sD2 lxD2 vB nTB nD2 nL2 hL2 vL2
    refine ⟨(by show 2 ≤ sizeLine; decide), fun S nS => ?_⟩
    have vS := same_new (o := .lst [.ref TA, .ref TB]) (Same.refl Z2) nS
    have hS : upd Z2 S (.lst [.ref TA, .ref TB]) S = some (.lst [.ref TA, .ref TB]) := upd_same
    have iA5 := (iA.to (Tk.same sB) _ _).to (Tk.same vS) _ _
    have iB5 := iB.to (Tk.same vS) _ _
    have s5 : Same H4 (upd Z2 S (.lst [.ref TA, .ref TB])) := (sA.trans sB).trans vS
    have j5 : Jug (upd Z2 S (.lst [.ref TA, .ref TB])) p (N + 6) := j4.but fun o e => s5 _ _ e
    have bb5 := bb4.trans (But.same s5)
    have nSp : S ≠ p := fun e => by
      obtain ⟨_, _, _, e9, _⟩ := (j4.but fun o e => (sA.trans sB) _ _ e : Jug Z2 p (N + 6))
      rw [← e, nS] at e9
      cases e9
    generalize upd Z2 S (.lst [.ref TA, .ref TB]) = H5 at hS iA5 iB5 j5 bb5 ⊢
    clear iA iB sA sB vS nS s5 j4 bb4 hq4
    refine nxt ?_
    dsimp only
    refine ⟨_, rfl, p, 12, N + 6, rfl, j5, by omega, by decide, by decide, fun r3 H6 d0 d1 bb6 j6 => ⟨_, _, rfl, rfl, ?_⟩⟩
    obtain ⟨d, hd⟩ : ∃ d, d = 1 + r3 := ⟨_, rfl⟩
    have hS6 := bb6 S _ nSp hS
    have iA6 := iA5.to (Tk.jug bb6 j5) _ _
    have iB6 := iB5.to (Tk.jug bb6 j5) _ _
    have bH6 := bb5.trans bb6
    clear iA5 iB5 j5 bb5 bb6 hS
    refine nxt ?_
    dsimp only
    rw [← hd]
    have d1' : 1 ≤ d := by omega
    have d12 : d ≤ 12 := by omega
    have ls : (sideW us b).length = m := by rw [sideW, List.length_map, lu]
    have lt' : (sideW vs b).length = m := by rw [sideW, List.length_map, lv]
    have hbs : ∀ z ∈ sideW us b ++ sideW vs b, z.2 = b := by
      intro z hz
      rcases List.mem_append.mp hz with h | h
      · obtain ⟨w, _, rfl⟩ := List.mem_map.mp h; rfl
      · obtain ⟨w, _, rfl⟩ := List.mem_map.mp h; rfl
    have gq : Gridish (sqL m x) (sideW us b).length (sideW vs b).length := by rw [ls, lt']; exact sq_grid (by omega) x1
    refine ⟨_, rfl, _, rfl, _, _, rfl, rfl, .inl ⟨by omega, by omega⟩, _, rfl, _, _, rfl, rfl, _, _, rfl, rfl, _, rfl, _, _, rfl, rfl, ⟨by omega, by omega⟩, ?_⟩
    refine nxt ?_
    dsimp only
    rw [up_is (show 0 < b by omega)]
    refine seq_ifNH (b := false) (fun G => Same H6 G) (fun Q' q' => ?_) (fun _ _ c => nomatch c) (fun H7 s7 _ => ?_)
    · refine ⟨_, rfl, S, _, 0, _, rfl, rfl, SqL.of hS6, rfl, _, rfl, S, _, 1, _, rfl, rfl, SqL.of hS6, rfl, fun y dx hx hd' hn => ?_⟩
      have f0 := fair none fun k e => by cases e
      refine madeZ (t := none) iA6 iB6 f0 hx hd' hn fun Ha sa fa => ?_
      refine ⟨rfl, _, rfl, _, rfl, m, x, rfl, m1, m4, fun qa Hb sb ia => ?_⟩
      refine ⟨y, _, _, _, none, sqL m x, rfl, fa.same sb, f0, ia, gq, fun k' Hc sc im => ?_⟩
      obtain rfl := sq_free m1 ls lt' hbs b1 (by omega) (lb_of f0 gq im)
      refine ⟨_, rfl, rfl, ?_⟩
      rw [decide_eq_true rfl]
      exact ⟨_, rfl, q' _ ((sa.trans sb).trans sc)⟩
    · have hS7 := s7 _ _ hS6
      have iA7 := iA6.to (Tk.same s7) _ _
      have iB7 := iB6.to (Tk.same s7) _ _
      have j7 : Jug H7 p (N + 7) := j6.but fun o e => s7 _ _ e
      have bH7 := bH6.trans (But.same s7)
      clear hS6 iA6 iB6 j6 bH6
      refine seq_mid (fun σ' G => σ' = [some (.ref p), some (.ref q), some (.int m), some (.int b), some (.int x), some (.ref S), some (.int d), some (.int (if d < m * b then ceilI (m * m * x) d else ceilI (m * x) b)), none] ∧ G = H7) (fun Nx kx => ?_) ?_
      · refine ⟨_, rfl, _, rfl, _, rfl, _, _, rfl, rfl, .inl ⟨by omega, by omega⟩, _, _, rfl, rfl, _, rfl, ?_⟩
        by_cases lt : d < m * b
        · refine if_true_of (decide_eq_true lt) ⟨_, rfl, _, rfl, _, _, rfl, rfl, .inl ⟨by omega, by omega⟩, _, rfl, _, _, rfl, rfl, .inl ⟨?_, ?_⟩, _, rfl, _, _, rfl, rfl, _, _, rfl, rfl, _, rfl, _, _, rfl, rfl, ⟨by omega, by omega⟩, kx _ _ ⟨?_, rfl⟩⟩
          · have := Int.mul_nonneg (show (0 : Int) ≤ m by omega) (show (0 : Int) ≤ m by omega); omega
          · have := Int.mul_le_mul (show (m : Int) ≤ 4 by omega) (show (m : Int) ≤ 4 by omega) (by omega) (by decide); omega
          · rw [if_pos lt, ← up_is (show 0 < d by omega)]
            rfl
        · refine if_false_of (decide_eq_false lt) (kx _ _ ⟨?_, rfl⟩)
          rw [if_neg lt]
          rfl
      · rintro _ _ ⟨rfl, rfl⟩
        refine ⟨_, rfl, S, _, 0, _, rfl, rfl, SqL.of hS7, rfl, _, rfl, S, _, 1, _, rfl, rfl, SqL.of hS7, rfl, _, rfl, fun y dx hx hd' hn => ?_⟩
        have fd' := fair (some d) fun k e => by cases e; exact ⟨d1', d12⟩
        refine madeZ (t := some d) iA7 iB7 fd' hx hd' hn fun Ha sa fa => ?_
        refine ⟨rfl, _, rfl, _, rfl, m, x, rfl, m1, m4, fun qa Hb sb ia => ?_⟩
        refine ⟨y, _, _, _, some d, sqL m x, rfl, fa.same sb, fd', ia, gq, fun k' Hc sc im => ?_⟩
        obtain rfl := sq_desk m1 ls lt' hbs b1 d1' (by omega) (lb_of fd' gq im)
        refine ⟨_, rfl, rfl, ?_⟩
        have sF := (sa.trans sb).trans sc
        show Q (.bl (decide (_ = _))) Hc
        rw [decide_eq_true rfl]
        exact k Hc (bH7.trans (But.same sF)) (j7.but fun o e => sF _ _ e)
end
end F02
namespace F02
open PySem PySem.Spec PyProof.Rows L2 MG
/-! ### what is shown stays short -/
def CO (x : Str) : Prop := ∀ c ∈ x.cps.toList, c < 16 ^ 8
theorem CO.app {x y : Str} (h : CO x) (g : CO y) : CO (x ++ y) := fun c hc => by
  rw [app_cps] at hc
  rcases List.mem_append.mp hc with h' | h'
  · exact h c h'
  · exact g c h'
theorem CO.dec {x : Str} (h : x.cps.toList.all (fun c => decide (c < 16 ^ 8)) = true) : CO x := fun c hc => by
  simpa using List.all_eq_true.mp h c hc
theorem CO.join {sep : Str} (hs : CO sep) : ∀ ys : List Str, (∀ y ∈ ys, CO y) → CO (Str.join sep ys)
  | [], _ => fun c hc => by cases hc
  | [x], h => h x (List.mem_singleton.mpr rfl)
  | x :: y :: r, h => by
    show CO (x ++ sep ++ Str.join sep (y :: r))
    exact ((h x (List.mem_cons_self ..)).app hs).app (CO.join hs (y :: r) fun z hz => h z (List.mem_cons_of_mem _ hz))
theorem CO.num {i : Int} (h0 : 0 ≤ i) (h : i < 100) : CO (num i) := by
  have q : ∀ j : _root_.Fin 100, (F02.num (j.val : Int)).cps.toList.all (fun c => decide (c < 16 ^ 8)) = true := by decide +kernel
  have := q ⟨i.toNat, by omega⟩
  rw [show ((⟨i.toNat, by omega⟩ : _root_.Fin 100).val : Int) = i by show ((i.toNat : Nat) : Int) = i; omega] at this
  exact CO.dec this
theorem CO.nm {x : Str} (h : Nm x) : CO x := fun c hc => by
  unfold Nm at h
  cases e : x.cps.toList with
  | nil => rw [e] at hc; cases hc
  | cons a r =>
    rw [e] at h hc
    have h' : (lowB a && decide (r.length ≤ 7) && r.all signB) = true := h
    simp only [Bool.and_eq_true, decide_eq_true_eq] at h'
    obtain ⟨⟨h1, _⟩, h3⟩ := h'
    have b : ∀ z, signB z = true → z < 16 ^ 8 := fun z hz => by
      unfold signB lowB at hz
      simp only [Bool.or_eq_true, decide_eq_true_eq] at hz
      omega
    rcases List.mem_cons.mp hc with rfl | hc
    · exact b _ (by unfold signB; rw [h1]; rfl)
    · exact b _ (List.all_eq_true.mp h3 c hc)
theorem shown40 {i : Int} (h : i.natAbs < 10 ^ 39) : (PyData.shown (.int i)).length ≤ 40 := by
  have e := int_text_length_le10 (k := 39) (by decide) h
  show (Str.ofString (toString i)).length ≤ 40
  rw [PySem.ofString_length]; exact e
structure Sh (d : PyData) (e b : Nat) : Prop where
  s : d.showable = true
  n : d.hasDict = false
  l : d.leavesShort 40 = true
  dp : d.depth ≤ e
  bk : d.bulk ≤ b
structure ShA (d : List PyData) (e b : Nat) : Prop where
  s : PyData.showableAll d = true
  n : PyData.hasDictAll d = false
  l : PyData.leavesShortAll 40 d = true
  dp : PyData.depthAll d ≤ e
  bk : PyData.bulkAll d ≤ b
theorem Sh.non : Sh .none 0 0 := ⟨rfl, rfl, rfl, Nat.le_refl _, Nat.le_refl _⟩
theorem Sh.bl (b : Bool) : Sh (.bool b) 0 0 := ⟨rfl, rfl, rfl, Nat.le_refl _, Nat.le_refl _⟩
theorem Sh.int {i : Int} (h : i.natAbs < 10 ^ 39) : Sh (.int i) 0 0 := ⟨by
  have : i.natAbs < 2 ^ 1920 := Nat.lt_of_lt_of_le h (by decide +kernel)
  simp only [PyData.showable]
  apply decide_eq_true
  by_cases e : i.natAbs = 0
  · rw [e]; decide +kernel
  · exact (Nat.log2_lt e).mpr this, rfl, by simp only [PyData.leavesShort]; exact decide_eq_true (shown40 h), Nat.le_refl _, Nat.le_refl _⟩
theorem Sh.str {x : Str} (h : CO x) : Sh (.str x) 0 x.length := ⟨rfl, rfl, by
  simp only [PyData.leavesShort]
  exact List.all_eq_true.mpr fun c hc => decide_eq_true (Nat.lt_of_lt_of_le (h c hc) (by decide)), Nat.le_refl _, Nat.le_refl _⟩
theorem Sh.mono {d : PyData} {e b e' b' : Nat} (h : Sh d e b) (h1 : e ≤ e') (h2 : b ≤ b') : Sh d e' b' := ⟨h.s, h.n, h.l, Nat.le_trans h.dp h1, Nat.le_trans h.bk h2⟩
theorem ShA.nil {e b : Nat} : ShA [] e b := ⟨rfl, rfl, rfl, Nat.zero_le _, Nat.zero_le _⟩
theorem ShA.cons {d : PyData} {ds : List PyData} {e b c : Nat} (h : Sh d e b) (g : ShA ds e c) : ShA (d :: ds) e (b + 1 + c) := ⟨by
  simp only [PyData.showableAll, h.s, g.s, Bool.and_self], by simp only [PyData.hasDictAll, h.n, g.n, Bool.or_self], by simp only [PyData.leavesShortAll, h.l, g.l, Bool.and_self], by
  simp only [PyData.depthAll]; exact Nat.max_le.mpr ⟨h.dp, g.dp⟩, by
  simp only [PyData.bulkAll]; have := h.bk; have := g.bk; omega⟩
theorem ShA.tup {ds : List PyData} {e b : Nat} (g : ShA ds e b) : Sh (.tuple ds) (e + 1) b := ⟨by simp only [PyData.showable, g.s], by simp only [PyData.hasDict, g.n], by simp only [PyData.leavesShort, g.l], by simp only [PyData.depth]; exact Nat.succ_le_succ g.dp, by simp only [PyData.bulk]; exact g.bk⟩
theorem ShA.lst {ds : List PyData} {e b : Nat} (g : ShA ds e b) : Sh (.list ds) (e + 1) b := ⟨by simp only [PyData.showable, g.s], by simp only [PyData.hasDict, g.n], by simp only [PyData.leavesShort, g.l], by simp only [PyData.depth]; exact Nat.succ_le_succ g.dp, by simp only [PyData.bulk]; exact g.bk⟩
theorem ShA.map {α : Type} {f : α → PyData} {e b : Nat} : ∀ l : List α, (∀ x ∈ l, Sh (f x) e b) → ShA (l.map f) e (l.length * (b + 1))
  | [], _ => ShA.nil
  | x :: l, h => by
    have := ShA.cons (h x (List.mem_cons_self ..)) (ShA.map l fun y hy => h y (List.mem_cons_of_mem _ hy))
    rw [List.length_cons, Nat.add_mul, Nat.one_mul, Nat.add_comm]
    exact this
theorem Sh.fits {d : PyData} {e b : Nat} (h : Sh d e b) (he : e ≤ 60) (hb : b ≤ 100000) : d.showable = true ∧ d.hasDict = false ∧ d.depth ≤ 60 ∧ d.shown.length ≤ 16777216 := by
  refine ⟨h.s, h.n, Nat.le_trans h.dp he, ?_⟩
  have := PyData.shown_le_bulk 40 (by decide) d h.l
  have := h.bk
  omega
theorem sh_side {l : Side} (hl : l.length ≤ 4) (nm : ∀ z ∈ l, Nm z.1) (bd : ∀ z ∈ l, 1 ≤ z.2 ∧ z.2 ≤ 4) : Sh (sideD l) 2 44 := by
  have : ∀ z ∈ l, Sh (pD z) 1 10 := fun z hz => (ShA.cons (e := 0) (Sh.str (CO.nm (nm z hz))) (ShA.cons (Sh.int (by have := bd z hz; omega)) (ShA.nil (b := 0)))).tup.mono (Nat.le_refl _) (by have := (nm z hz).len.2; omega)
  exact (ShA.map l this).tup.mono (Nat.le_refl _) (by omega)
theorem sh_desk {t : Option Int} (h : ∀ k, t = some k → 1 ≤ k ∧ k ≤ 12) : Sh (deskD t) 0 0 := by
  cases t with
  | none => exact Sh.non
  | some k => exact Sh.int (by have := h k rfl; omega)
theorem text_co {hs gs : Side} {t : Option Int} (f : Fairish hs gs t) : CO (textT hs gs t) := by
  unfold textT
  rw [show Txt.join ("\n" : Str) (rowsT hs gs t) = Str.join ("\n" : Str) (rowsT hs gs t) from PySem.StrLaws.glued_eq_join _ _]
  refine CO.join (CO.dec (by decide +kernel)) _ fun y hy => ?_
  have row : ∀ (kind : Str) (z : Str × Int), CO kind → Nm z.1 → 1 ≤ z.2 → z.2 ≤ 4 → CO (rowT kind z) := fun kind z h1 h2 h3 h4 => by
    unfold rowT
    exact ((h1.app (CO.nm h2)).app (CO.dec (by decide +kernel))).app (CO.num (by omega) (by omega))
  unfold rowsT at hy
  rcases List.mem_append.mp hy with hy | hy
  · rcases List.mem_append.mp hy with hy | hy
    · obtain ⟨z, hz, rfl⟩ := List.mem_map.mp hy
      have hz' := List.mem_append_left gs hz
      exact row _ z (CO.dec (by decide +kernel)) (f.nm z hz') (f.bd z hz').1 (f.bd z hz').2
    · obtain ⟨z, hz, rfl⟩ := List.mem_map.mp hy
      have hz' := List.mem_append_right hs hz
      exact row _ z (CO.dec (by decide +kernel)) (f.nm z hz') (f.bd z hz').1 (f.bd z hz').2
  · cases t with
    | none => cases hy
    | some k =>
      have e : y = "tables " ++ num k := List.mem_singleton.mp hy
      have := f.tb k rfl
      rw [e]
      exact (CO.dec (by decide +kernel)).app (CO.num (by omega) (by omega))
theorem text_len {hs gs : Side} {t : Option Int} (f : Fairish hs gs t) : (textT hs gs t).length ≤ 200 := by
  obtain ⟨h1, h2⟩ := f.short.rows
  have := sum_le _ h2
  have e : ("\n" : Str).length = 1 := by decide +kernel
  unfold textT
  show (PySem.Builtin.Str.glued _ _).length ≤ 200
  rw [size_glued, e]
  omega
theorem sh_namesL {hs gs : Side} {t : Option Int} (f : Fairish hs gs t) : ShA ((hs ++ gs).map fun z => PyData.str z.1) 0 72 := by
  have : ∀ z ∈ hs ++ gs, Sh (.str z.1) 0 8 := fun z hz => (Sh.str (CO.nm (f.nm z hz))).mono (Nat.le_refl _) (f.nm z hz).len.2
  have l : (hs ++ gs).length ≤ 8 := by rw [List.length_append]; have := f.h4; have := f.g4; omega
  have m := ShA.map _ this
  exact ⟨m.s, m.n, m.l, m.dp, Nat.le_trans m.bk (by omega)⟩
end F02
namespace F02
open PySem PySem.Spec PyProof.Rows L2 MG SP LT KW
theorem max_one {m m' : Int} {l : List Int} (a : IsMax m l) (b : IsMax m' l) : m = m' := Int.le_antisymm (b.2 m a.1) (a.2 m' b.1)
theorem strOk_of {x : Str} (h : ∀ c ∈ x.cps.toList, c < 1114112) : PyData.strOk x = true := by
  unfold PyData.strOk
  rw [← Array.all_toList, List.all_eq_true]
  exact fun c hc => decide_eq_true (h c hc)
theorem strOk_nm {x : Str} (h : Nm x) : PyData.strOk x = true := strOk_of fun c hc => by
  unfold Nm at h
  cases e : x.cps.toList with
  | nil => rw [e] at hc; cases hc
  | cons a r =>
    rw [e] at h hc
    have h' : (lowB a && decide (r.length ≤ 7) && r.all signB) = true := h
    simp only [Bool.and_eq_true, decide_eq_true_eq] at h'
    obtain ⟨⟨h1, _⟩, h3⟩ := h'
    have b : ∀ z, signB z = true → z < 1114112 := fun z hz => by
      unfold signB lowB at hz
      simp only [Bool.or_eq_true, decide_eq_true_eq] at hz
      omega
    rcases List.mem_cons.mp hc with rfl | hc
    · exact b _ (by unfold signB; rw [h1]; rfl)
    · exact b _ (List.all_eq_true.mp h3 c hc)
theorem inV_int (x : Int) (l : List Int) : inV (.int x) (l.map V.int) = decide (x ∈ l) := by
  unfold inV
  induction l with
  | nil => rfl
  | cons y ys ih =>
    rw [List.map_cons, List.any_cons, ih]
    by_cases e : y = x
    · subst e
      rw [show eqV (V.int y) (V.int y) = true from eqV_eq y]
      simp
    · rw [show eqV (V.int y) (V.int x) = false from eqV_ne e, Bool.false_or]
      have : x ∈ y :: ys ↔ x ∈ ys := by
        rw [List.mem_cons]
        exact ⟨fun h => h.elim (fun h => absurd h.symm e) id, Or.inr⟩
      simp only [this]
theorem reason_tuple {hs gs : Side} {t : Option Int} {g : Grid} (gi : Gridish g hs.length gs.length) : ∀ s ∈ List.zip (needsL hs gs t g) (reasonL hs gs), s.1 ≠ 0 → ∃ ds, s.2 = .tuple ds := by
  have ls : (sumsL g).length = hs.length := by rw [sumsL, List.length_map, gi.rows]
  have lf : g.flatten.length = hs.length * gs.length := by rw [flat_len gi.cols, gi.rows]
  have lc : (colsL g gs.length).length = gs.length := by rw [colsL, List.length_map, List.length_range]
  intro s hs' h0
  rw [needs_split gi, reasonL, List.zip_append (by simp only [List.length_append, List.length_map, List.length_replicate, List.length_zipWith]; omega), List.zip_append (by simp only [List.length_append, List.length_map, List.length_replicate, List.length_zipWith]; omega),
    List.zip_append (by simp only [List.length_map, List.length_zipWith]; omega)] at hs'
  rcases List.mem_append.mp hs' with h | h
  · rcases List.mem_append.mp h with h | h
    · rcases List.mem_append.mp h with h | h
      · obtain ⟨z, _, e⟩ := List.mem_map.mp (List.of_mem_zip h).2
        exact ⟨_, e.symm⟩
      · exact absurd (zip_none0 _ (List.of_mem_zip h).1) h0
    · obtain ⟨z, _, e⟩ := List.mem_map.mp (List.of_mem_zip h).2
      exact ⟨_, e.symm⟩
  · have e : s = (need (sumsL g).sum t, tablesR) := by simpa using h
    exact ⟨_, by rw [e]; rfl⟩
section
variable {P : Program} {w : World} {K : PySem.W.Frag} {mg : Str → Option Value} {base : Heap} {C : Addr}
abbrev s_l_right : Stmt := top 54
abbrev NR : List Str := ["_law_jug_here", "_law_words_here", "_law_parts_here", "_law_grid_here", "_law_guests_here", "_law_row", "_law_alone", "_law_wide", "_law_ones", "_law_due", "_law_word_here", "_law_pair", "_law_to", "_law_at"]
theorem sc_l_right : FnScope NR ["_law_jug_here"] (defScope s_l_right) := ⟨rfl, rfl, rfl, by decide +kernel, rfl, by decide +kernel, by decide +kernel⟩
abbrev scTo : Scope := { kind := ScopeKind.function, names := [(".0", NameKind.local), ("_law_to", NameKind.local), ("tuple", NameKind.globalImplicit), ("range", NameKind.globalImplicit), ("_law_jug_here", NameKind.cell)], isGenerator := false, isCoroutine := false, more := [] }
def sp_l_right : Sp := fun vs H Q _ => ∃ (p : Addr), vs = [.ref p] ∧ Jug H p 0 ∧ ∀ H', But p H H' → Q (.bl true) H'
structure TxR (K : PySem.W.Frag) (mg : Str → Option Value) (f_l_words f_l_parts f_l_grid f_l_pour f_l_in_rows f_l_flat f_l_some f_l_square_right f_load f_binding : Addr) : Prop where
  n_sum : mg "sum" = none
  n_list : mg "list" = none
  n_tuple : mg "tuple" = none
  n_range : mg "range" = none
  n_repr : mg "repr" = none
  g_l_words : mg "_law_words" = some (.ref f_l_words)
  k_l_words : PySem.W.keepIn K (.ref f_l_words) = true
  g_l_parts : mg "_law_parts" = some (.ref f_l_parts)
  k_l_parts : PySem.W.keepIn K (.ref f_l_parts) = true
  g_l_grid : mg "_law_grid" = some (.ref f_l_grid)
  k_l_grid : PySem.W.keepIn K (.ref f_l_grid) = true
  g_l_pour : mg "_law_pour" = some (.ref f_l_pour)
  k_l_pour : PySem.W.keepIn K (.ref f_l_pour) = true
  g_l_in_rows : mg "_law_in_rows" = some (.ref f_l_in_rows)
  k_l_in_rows : PySem.W.keepIn K (.ref f_l_in_rows) = true
  g_l_flat : mg "_law_flat" = some (.ref f_l_flat)
  k_l_flat : PySem.W.keepIn K (.ref f_l_flat) = true
  g_l_some : mg "_law_some" = some (.ref f_l_some)
  k_l_some : PySem.W.keepIn K (.ref f_l_some) = true
  g_l_square_right : mg "_law_square_right" = some (.ref f_l_square_right)
  k_l_square_right : PySem.W.keepIn K (.ref f_l_square_right) = true
  g_load : mg "load" = some (.ref f_load)
  k_load : PySem.W.keepIn K (.ref f_load) = true
  g_binding : mg "binding" = some (.ref f_binding)
  k_binding : PySem.W.keepIn K (.ref f_binding) = true
theorem ok_l_right {f f_l_words f_l_parts f_l_grid f_l_pour f_l_in_rows f_l_flat f_l_some f_l_square_right f_load f_binding f_init : Addr} {fd fd_l_words fd_l_parts fd_l_grid fd_l_pour fd_l_in_rows fd_l_flat fd_l_some fd_l_square_right fd_load fd_binding d_init : FuncData}
    (F : Fun K "_law_right" "_law_right" s_l_right f fd) (g_Fair : mg "Fair" = some (.ref C)) (T : TxR K mg f_l_words f_l_parts f_l_grid f_l_pour f_l_in_rows f_l_flat f_l_some f_l_square_right f_load f_binding)
    (M : Mk K C f_init) (FI' : FI K f_init d_init) (G_init4 : FnOk P w K mg base CX0 4 f_init d_init psI (sp_init K C))
    (G_l_words3 : FnOk P w K mg base CX0 3 f_l_words fd_l_words ["_law_jug_here", "_law_many"] sp_l_words) (b_l_words : Binds K fd_l_words ["_law_jug_here", "_law_many"] [])
    (G_l_parts4 : FnOk P w K mg base CX0 4 f_l_parts fd_l_parts ["_law_jug_here", "_law_most_here", "_law_most_there"] (sp_l_parts K)) (b_l_parts : Binds K fd_l_parts ["_law_jug_here", "_law_most_here", "_law_most_there"] [])
    (G_l_grid3 : FnOk P w K mg base CX0 3 f_l_grid fd_l_grid ["_law_jug_here", "_law_parts_here", "_law_way"] (sp_l_grid K)) (b_l_grid : Binds K fd_l_grid ["_law_jug_here", "_law_parts_here", "_law_way"] [])
    (G_l_pour1 : FnOk P w K mg base CX0 1 f_l_pour fd_l_pour ["_law_jug_here", "_law_many"] sp_l_pour) (b_l_pour : Binds K fd_l_pour ["_law_jug_here", "_law_many"] [])
    (G_l_in_rows1 : FnOk P w K mg base CX0 1 f_l_in_rows fd_l_in_rows ["_law_grid_here"] (sp_l_in_rows K)) (b_l_in_rows : Binds K fd_l_in_rows ["_law_grid_here"] [])
    (G_l_flat1 : FnOk P w K mg base CX0 1 f_l_flat fd_l_flat ["_law_grid_here"] (sp_l_flat K)) (b_l_flat : Binds K fd_l_flat ["_law_grid_here"] [])
    (G_l_some2 : FnOk P w K mg base CX0 2 f_l_some fd_l_some ["_law_jug_here", "_law_most"] sp_l_some) (b_l_some : Binds K fd_l_some ["_law_jug_here", "_law_most"] [])
    (G_l_square_right : FnOk P w K mg base CX0 7 f_l_square_right fd_l_square_right ["_law_jug_here", "_law_words_here"] sp_l_square_right) (b_l_square_right : Binds K fd_l_square_right ["_law_jug_here", "_law_words_here"] [])
    (G_load6 : FnOk P w K mg base CX0 6 f_load fd_load ["fair", "meetings"] (sp_load K C)) (b_load : Binds K fd_load ["fair", "meetings"] [])
    (G_binding5 : FnOk P w K mg base CX0 5 f_binding fd_binding ["fair", "meetings"] (sp_binding K C)) (b_binding : Binds K fd_binding ["fair", "meetings"] []) :
    FnG P w K mg base CX0 8 f fd ["_law_jug_here"] sp_l_right := by
  have G_l_words := G_l_words3.mono (show 3 ≤ 7 by decide)
  have G_l_parts := G_l_parts4.mono (show 4 ≤ 7 by decide)
  have G_l_grid := G_l_grid3.mono (show 3 ≤ 7 by decide)
  have G_l_pour := G_l_pour1.mono (show 1 ≤ 7 by decide)
  have G_l_in_rows := G_l_in_rows1.mono (show 1 ≤ 7 by decide)
  have G_l_flat := G_l_flat1.mono (show 1 ≤ 7 by decide)
  have G_l_some := G_l_some2.mono (show 2 ≤ 7 by decide)
  have G_load := G_load6.mono (show 6 ≤ 7 by decide)
  have G_binding := G_binding5.mono (show 5 ≤ 7 by decide)
  have G_init := G_init4.mono (show 4 ≤ 6 by decide)
  obtain ⟨ds3, r3, b3⟩ := b_init3 FI'
  have b4 := b_init4 FI'
  refine okG F sc_l_right (fun vs H Q E h => ?_) (fun cdv A outer s H vs Q E hgd hr h => ?_)
  · obtain ⟨p, rfl, _⟩ := h
    rfl
  · obtain ⟨p, rfl, J, k⟩ := h
    refine ⟨_, (pss_cons (ps_set (i := 1) sc_l_right.nd rfl (Or.inl rfl) (pe_call G_l_words hr rfl T.g_l_words T.k_l_words b_l_words .nil pass0 (pa_cons (pv 0) (pa_cons pe_int pa_nil))))
      (pss_cons (ps_set (i := 2) sc_l_right.nd rfl (Or.inl rfl) (pe_call G_l_parts hr rfl T.g_l_parts T.k_l_parts b_l_parts .nil pass0 (pa_cons (pv 0) (pa_cons pe_int (pa_cons pe_int pa_nil)))))
      (pss_cons (ps_set (i := 3) sc_l_right.nd rfl (Or.inl rfl) (pe_call G_l_grid hr rfl T.g_l_grid T.k_l_grid b_l_grid .nil pass0 (pa_cons (pv 0) (pa_cons (pv 2) (pa_cons (pe_op op_add pe_int (pe_call G_l_pour hr rfl T.g_l_pour T.k_l_pour b_l_pour .nil pass0 (pa_cons (pv 0) (pa_cons pe_int pa_nil)))) pa_nil)))))
      (pss_cons (ps_if (pt_cmpR op_ne (pe_call G_load hr rfl T.g_load T.k_load b_load .nil pass0 (pa_cons (pe_make M G_init hr rfl g_Fair b4 .nil pass0 (pa_cons (pe_ix (r := rIxT K) ix_tup (pv 2) pe_int (fun _ _ => rfl)) (pa_cons (pe_ix (r := rIxT K) ix_tup (pv 2) pe_int (fun _ _ => rfl)) (pa_cons pe_int pa_nil)))) (pa_cons (pv 3) pa_nil))) (pe_callB (id := "sum") (r := rSum K) (cr_sum rfl) (by rfl) T.n_sum (by decide +kernel) (pa_cons (pe_call G_l_in_rows hr rfl T.g_l_in_rows T.k_l_in_rows b_l_in_rows .nil pass0 (pa_cons (pv 3) pa_nil)) pa_nil)) (nomark _))
        (pss_one (ps_ret pe_bl))
        pss_nil)
      (pss_cons (ps_set (i := 4) sc_l_right.nd rfl (Or.inl rfl) (pe_callTy (T := "tuple") (r := RTup K) call_tuple_of (by rfl) T.n_tuple (by decide +kernel) (pa_cons (pe_lc (own := [("_law_word_here", 10)]) (g := gName 10) (te := tTup (tCons (tVar 10) (tCons (tOp (rI0 fun i j => .int (i + j)) (tC (.int 2)) (tCall sp_l_pour [] E0 (tCons (tVar 0) (tCons (tC (.int 3)) tNil)))) tNil))) (tt := tYes) rfl sc_l_right.nd (pi_list (pe_slice sl_list (pv 1) (po_some pe_int) (po_some (pe_op op_add pe_int (pe_call G_l_pour hr rfl T.g_l_pour T.k_l_pour b_l_pour .nil pass0 (pa_cons (pv 0) (pa_cons pe_int pa_nil))))))) (blkOk_by (own := [("_law_word_here", 10)]) (N := NR) (sc := defScope s_l_right) (by decide +kernel)) (fun _ _ _ _ _ => (pg_name (i := 10) sc_l_right.nd rfl (Or.inl rfl))) (fun _ _ _ _ _ => pts_nil) (fun _ _ _ _ _ => (pe_tup (pa_cons (pv 10) (pa_cons (pe_op op_add pe_int (pe_call G_l_pour hr rfl T.g_l_pour T.k_l_pour b_l_pour .nil pass0 (pa_cons (pv 0) (pa_cons pe_int pa_nil)))) pa_nil))))) pa_nil)))
      (pss_cons (ps_set (i := 5) sc_l_right.nd rfl (Or.inl rfl) (pe_callTy (T := "tuple") (r := RTup K) call_tuple_of (by rfl) T.n_tuple (by decide +kernel) (pa_cons (pe_lc (own := [("_law_pair", 11)]) (g := gName 11) (te := tCall sp_l_some [] E0 (tCons (tVar 0) (tCons (tOp (rI CPow fun i j => .int (i ^ j.toNat)) (tC (.int 10)) (tC (.int 30))) tNil))) (tt := tYes) rfl sc_l_right.nd (pi_tup (pv 4)) (blkOk_by (own := [("_law_pair", 11)]) (N := NR) (sc := defScope s_l_right) (by decide +kernel)) (fun _ _ _ _ _ => (pg_name (i := 11) sc_l_right.nd rfl (Or.inl rfl))) (fun _ _ _ _ _ => pts_nil) (fun _ _ _ _ _ => (pe_call G_l_some hr rfl T.g_l_some T.k_l_some b_l_some .nil pass0 (pa_cons (pv 0) (pa_cons (pe_op op_pow pe_int pe_int) pa_nil))))) pa_nil)))
      (pss_cons (ps_set (i := 6) sc_l_right.nd rfl (Or.inl rfl) (pe_make M G_init hr rfl g_Fair b3 r3 pass0 (pa_cons (pe_tup (pa_cons (pe_tup (pa_cons (pe_ix (r := rIxL K) ix_list (pv 1) pe_int (fun _ _ => rfl)) (pa_cons pe_int pa_nil))) pa_nil)) (pa_cons (pv 4) pa_nil))))
      (pss_cons (ps_if (PW.pt (pw_or (pt_cmpR op_ne (pe_call G_load hr rfl T.g_load T.k_load b_load .nil pass0 (pa_cons (pv 6) (pa_cons (pe_tup (pa_cons (pv 5) pa_nil)) pa_nil))) (pe_callB (id := "sum") (r := rSum K) (cr_sum rfl) (by rfl) T.n_sum (by decide +kernel) (pa_cons (pe_callTy (T := "list") (r := RLst K) call_list_of (by rfl) T.n_list (by decide +kernel) (pa_cons (pv 5) pa_nil)) pa_nil)) (nomark _)) (pw_or1 (PW.pt (pw_and (pt_cmpR op_gt (pe_callB (id := "sum") (r := rSum K) (cr_sum rfl) (by rfl) T.n_sum (by decide +kernel) (pa_cons (pe_callTy (T := "list") (r := RLst K) call_list_of (by rfl) T.n_list (by decide +kernel) (pa_cons (pv 5) pa_nil)) pa_nil)) pe_int (nomark _)) (pw_and1 (pt_cmpR (op_neD hr.units) (pe_call G_binding hr rfl T.g_binding T.k_binding b_binding .nil pass0 (pa_cons (pv 6) (pa_cons (pe_tup (pa_cons (pv 5) pa_nil)) pa_nil))) (pe_tup (pa_cons pe_str (pa_cons (pe_ix (r := rIxL K) ix_list (pv 1) pe_int (fun _ _ => rfl)) pa_nil))) (nomark _))))))))
        (pss_one (ps_ret pe_bl))
        pss_nil)
      (pss_cons (ps_if (pt_not (pt_val (pe_call G_l_square_right hr rfl T.g_l_square_right T.k_l_square_right b_l_square_right .nil pass0 (pa_cons (pv 0) (pa_cons (pv 1) pa_nil)))))
        (pss_one (ps_ret pe_bl))
        pss_nil)
      (pss_cons (ps_set (i := 7) sc_l_right.nd rfl (Or.inl rfl) (pe_make M G_init hr rfl g_Fair b3 r3 pass0 (pa_cons (pe_callTy (T := "tuple") (r := RTup K) call_tuple_of (by rfl) T.n_tuple (by decide +kernel) (pa_cons (pe_lc (own := [("_law_word_here", 10)]) (g := gName 10) (te := tTup (tCons (tVar 10) (tCons (tC (.int 4)) tNil))) (tt := tYes) rfl sc_l_right.nd (pi_list (pe_slice sl_list (pv 1) po_none (po_some pe_int))) (blkOk_by (own := [("_law_word_here", 10)]) (N := NR) (sc := defScope s_l_right) (by decide +kernel)) (fun _ _ _ _ _ => (pg_name (i := 10) sc_l_right.nd rfl (Or.inl rfl))) (fun _ _ _ _ _ => pts_nil) (fun _ _ _ _ _ => (pe_tup (pa_cons (pv 10) (pa_cons pe_int pa_nil))))) pa_nil)) (pa_cons (pe_callTy (T := "tuple") (r := RTup K) call_tuple_of (by rfl) T.n_tuple (by decide +kernel) (pa_cons (pe_lc (own := [("_law_word_here", 10)]) (g := gName 10) (te := tTup (tCons (tVar 10) (tCons (tC (.int 4)) tNil))) (tt := tYes) rfl sc_l_right.nd (pi_list (pe_slice sl_list (pv 1) (po_some pe_int) po_none)) (blkOk_by (own := [("_law_word_here", 10)]) (N := NR) (sc := defScope s_l_right) (by decide +kernel)) (fun _ _ _ _ _ => (pg_name (i := 10) sc_l_right.nd rfl (Or.inl rfl))) (fun _ _ _ _ _ => pts_nil) (fun _ _ _ _ _ => (pe_tup (pa_cons (pv 10) (pa_cons pe_int pa_nil))))) pa_nil)) pa_nil))))
      (pss_cons (ps_set (i := 8) sc_l_right.nd rfl (Or.inl rfl) (pe_callTy (T := "tuple") (r := RTup K) call_tuple_of (by rfl) T.n_tuple (by decide +kernel) (pa_cons (pe_lc (own := [("_law_to", 12)]) (g := gName 12) (te := tCB (RTup K) (tCons (tLc (iRng1 (tCons (tC (.int 4)) tNil)) (gName 13) tYes (tCall sp_l_pour [] E0 (tCons (tVar 0) (tCons (tC (.int 2)) tNil))) [13]) tNil)) (tt := tYes) rfl sc_l_right.nd (pi_range1 rfl T.n_range (pa_cons pe_int pa_nil)) (blkOk_by (own := [("_law_to", 12)]) (N := NR) (sc := defScope s_l_right) (by decide +kernel)) (fun _ _ _ _ _ => (pg_name (i := 12) sc_l_right.nd rfl (Or.inl rfl))) (fun _ _ _ _ _ => pts_nil) (fun _ _ _ _ _ => (pe_callTy (T := "tuple") (r := RTup K) call_tuple_of (by rfl) T.n_tuple (by decide +kernel) (pa_cons (pe_lc (own := [("_law_at", 13)]) (g := gName 13) (wi := iRng1 (tCons (tC (.int 4)) tNil)) (te := tCall sp_l_pour [] E0 (tCons (tVar 0) (tCons (tC (.int 2)) tNil))) (tt := tYes) rfl sc_l_right.nd (pi_range1 rfl T.n_range (pa_cons pe_int pa_nil)) (blkOk_by (own := [("_law_at", 13)]) (N := NR) (sc := scTo) (by decide +kernel)) (fun _ _ _ _ _ => (pg_name (i := 13) sc_l_right.nd rfl (Or.inl rfl))) (fun _ _ _ _ _ => pts_nil) (fun _ _ _ _ _ => (pe_call G_l_pour hr rfl T.g_l_pour T.k_l_pour b_l_pour .nil pass0 (pa_cons (pv 0) (pa_cons pe_int pa_nil))))) pa_nil)))) pa_nil)))
      (pss_cons (ps_set (i := 9) sc_l_right.nd rfl (Or.inl rfl) (pe_ifExp (pt_cmpR (r := rIn K false) op_in_seq pe_int (pe_call G_l_flat hr rfl T.g_l_flat T.k_l_flat b_l_flat .nil pass0 (pa_cons (pv 8) pa_nil)) rfl) pe_int pe_int))
      (pss_one (ps_ret (pe_cmpR op_eq (pe_callB (call_repr hgd hr) (by rfl) T.n_repr (by decide +kernel) (pa_cons (pe_lst (pa_cons (pe_call G_load hr rfl T.g_load T.k_load b_load .nil pass0 (pa_cons (pv 7) (pa_cons (pv 8) pa_nil))) (pa_cons (pe_cmpR op_isN (pe_call G_binding hr rfl T.g_binding T.k_binding b_binding .nil pass0 (pa_cons (pv 7) (pa_cons (pv 8) pa_nil))) pe_non (nomark _)) pa_nil))) pa_nil)) (pe_callB (call_repr hgd hr) (by rfl) T.n_repr (by decide +kernel) (pa_cons (pe_lst (pa_cons (pv 9) (pa_cons (pe_cmpR op_eq (pv 9) pe_int (nomark _)) pa_nil))) pa_nil)) (nomark _)))))))))))))))), ?_⟩
    refine ⟨_, rfl, p, 8, 0, rfl, J, by decide, by decide, fun q ws H1 nq hq lw nd nm b1 j1 => ?_⟩
    refine nxt ?_
    dsimp only
    refine ⟨_, rfl, p, 4, 4, 88, rfl, j1, by decide, by decide, by decide, by decide, by omega, fun v hs gs t H2 fi iv2 b2 j2 => ?_⟩
    have nqp : q ≠ p := fun e => by
      obtain ⟨_, _, _, e9, _⟩ := j1
      rw [e, e9] at hq
      have := congrArg List.length (HO.lst.inj (Option.some.inj hq))
      rw [List.length_map, lw] at this
      cases this
    have hq2 := b2 q _ nqp hq
    refine nxt ?_
    dsimp only
    refine ⟨_, rfl, _, rfl, _, rfl, p, 2, 288, rfl, j2, by decide, by decide, by decide, fun r3 H3 a0 a1 b3' j3 => ⟨_, _, rfl, rfl, ?_⟩⟩
    have iv3 := iv2.to (Tk.jug b3' j2) _ _
    refine ⟨p, _, 1 + r3, 289, hs, gs, t, rfl, j3, by decide, by omega, by omega, iv3, fi.h4, fi.g4, fun qg g H4 ig4 gi b4' j4 => ?_⟩
    have iv4 := iv3.to (Tk.jug b4' j3) _ _
    have hq4 := b4' q _ nqp (b3' q _ nqp hq2)
    have bH4 := ((b1.trans b2).trans b3').trans b4'
    clear hq hq2 b1 b2 b3' b4' j1 j2 j3 iv2 iv3 nq
    obtain ⟨pp, vh, vg, rfl, hp4, ih4, ihg4⟩ := im_parts iv4
    have f1 : Fairish hs gs (some 1) := ⟨fi.h1, fi.h4, fi.g1, fi.g4, fi.nd, fi.nm, fi.bd, fun k e => by cases e; decide⟩
    refine nxt ?_
    dsimp only
    refine seq_ifNH (b := false) (fun G => Same H4 G) (fun Q' q' => ?_) (fun _ _ c => nomatch c) (fun H5 s5 _ => ?_)
    · refine ⟨_, rfl, pp, _, 0, _, rfl, rfl, hp4, rfl, _, rfl, pp, _, 1, _, rfl, rfl, hp4, rfl, fun y dx hx hd hn => ?_⟩
      refine madeZ (t := some 1) ih4 ihg4 f1 hx hd hn fun Ha sa fa => ?_
      refine ⟨rfl, _, rfl, y, _, hs, gs, some 1, g, rfl, fa, f1, ig4.to (Tk.same sa) _ _, gi, fun m Hb sb im => ?_⟩
      obtain rfl := load_one f1 gi (lb_of f1 gi im)
      refine ⟨_, rfl, _, g, rfl, ig4.to (Tk.same (sa.trans sb)) _ _, by rw [gi.rows]; exact fi.h4, fun ql Hc sc hl => ?_⟩
      refine ⟨ql, sumsL g, rfl, SqL.of hl, rfl, ?_⟩
      rw [decide_eq_true rfl]
      exact ⟨_, rfl, q' _ ((sa.trans sb).trans sc)⟩
    have hq5 := s5 _ _ hq4
    have j5 : Jug H5 p 337 := j4.but fun o e => s5 _ _ e
    have bH5 := bH4.trans (But.same s5)
    clear hq4 j4 bH4 iv4 ig4 hp4 ih4 ihg4 gi fi f1 s5
    obtain ⟨w0, wr, ews⟩ : ∃ w0 wr, ws = w0 :: wr := by
      cases ws with
      | nil => cases lw
      | cons a b => exact ⟨a, b, rfl⟩
    refine ⟨_, rfl, _, rfl, _, rfl, p, 4, 337, rfl, j5, by decide, by decide, by decide, fun r6 H6 c0 c1 b6 j6 => ⟨_, _, rfl, rfl, _, rfl, ?_⟩⟩
    obtain ⟨n, rfl⟩ : ∃ n : Nat, r6 = (n : Int) := ⟨r6.toNat, by omega⟩
    obtain ⟨us, hus⟩ : ∃ us, us = wr.take (1 + n) := ⟨_, rfl⟩
    have lwr : wr.length = 7 := by rw [ews] at lw; exact Nat.succ.inj lw
    have lu : us.length = 1 + n := by rw [hus, List.length_take]; omega
    have n4 : n < 4 := by omega
    have cu : cutV (ws.map V.str) (some 1) (some (2 + (n : Int))) = us.map V.str := by
      unfold cutV
      rw [show (some (1 : Int)) = some ((1 : Nat) : Int) from rfl, show (2 : Int) + (n : Int) = ((2 + n : Nat) : Int) by omega, HT.sIx_nat, HT.sIx_nat, List.length_map, lw, Nat.min_eq_left (by omega), Nat.min_eq_left (by omega), show 2 + n - 1 = 1 + n by omega, ews, hus, List.map_take]
      rfl
    have hq6 := b6 q _ nqp hq5
    have bH6 := bH5.trans b6
    clear hq5 j5 bH5 b6
    refine ⟨q, _, rfl, SqL.of hq6, fun L1 nL1 => ?_⟩
    have vL := same_new (o := .lst (cutV (ws.map V.str) (some 1) (some (2 + (n : Int))))) (Same.refl H6) nL1
    have hL : upd H6 L1 (.lst (cutV (ws.map V.str) (some 1) (some (2 + (n : Int))))) L1 = some (.lst (us.map V.str)) := by rw [upd_same, cu]
    have nLp : L1 ≠ p := j6.ne nL1
    have j7 : Jug (upd H6 L1 (.lst (cutV (ws.map V.str) (some 1) (some (2 + (n : Int)))))) p 338 := j6.new nL1
    have b7 : But p H (upd H6 L1 (.lst (cutV (ws.map V.str) (some 1) (some (2 + (n : Int)))))) := bH6.new nL1
    have hq7 := vL _ _ hq6
    generalize upd H6 L1 (.lst (cutV (ws.map V.str) (some 1) (some (2 + (n : Int))))) = H7 at hL j7 b7 hq7 ⊢
    clear vL hq6 j6 bH6 nL1
    refine ⟨L1, rfl, ⟨_, SqL.of hL⟩, fun D nD => ?_⟩
    have nDp : D ≠ p := j7.ne nD
    refine lc_list (K := K) (a := L1) (xs := us.map V.str) (fun j X => ∃ (xs : List V) (ds : Side), X D = some (.lst xs) ∧ xs.length = j ∧ ImAll K X xs (ds.map pD) ∧ ds.map (·.1) = us.take j ∧ (∀ z ∈ ds, 2 ≤ z.2 ∧ z.2 ≤ 4) ∧ But p H7 X ∧ Jug X p (338 + j))
      ⟨[], [], upd_same, rfl, .nil, rfl, (fun _ h => by cases h), But.new But.refl nD, j7.new nD⟩ (fun j X _ ⟨_, _, _, _, _, _, _, b, _⟩ => SqL.of (b _ _ nLp hL)) ?_ ?_
    · rintro j y X hj ⟨xs, ds, z1, lx, im, e1, bd, bX, jX⟩
      obtain ⟨u, hu, rfl⟩ : ∃ u, us[j]? = some u ∧ y = V.str u := by
        rw [List.getElem?_map] at hj
        cases e : us[j]? with
        | none => rw [e] at hj; cases hj
        | some u => rw [e] at hj; exact ⟨u, rfl, (Option.some.inj hj).symm⟩
      have hj4 : j < 4 := by have := (List.getElem?_eq_some_iff.mp hu).1; omega
      refine ⟨rfl, tyes (iteT ⟨_, rfl, _, rfl, p, 3, 338 + j, rfl, jX, by omega, by decide, by decide, fun r X1 g0 g1 bX1 jX1 => ⟨_, _, rfl, rfl, (by show 2 ≤ sizeLine; decide), fun t' nt => ?_⟩⟩)⟩
      have zD1 := bX1 D _ nDp z1
      have z2 := (upd_ne (o := .tup [.str u, .int (2 + r)]) (ne_of_none zD1 nt)).trans zD1
      refine ⟨xs, z2, Nat.lt_of_lt_of_le (show _ < 100 by omega) (by decide), xs ++ [.ref t'], ds ++ [(u, 2 + r)], upd_same, by rw [List.length_append, lx]; rfl, ?_, ?_, fun z hz => ?_, ((bX.trans bX1).new nt).mut nD, ?_⟩
      · rw [List.map_append]
        have sT := same_new (o := .tup [.str u, .int (2 + r)]) (Same.refl X1) nt
        exact ImAll.append (((im.to (Tk.jug bX1 jX) _ _).to (Tk.same sT) _ _).to (Tk.mut0 z2) _ _) (.cons (.tup ((Tk.mut0 z2).sq (SqT.of upd_same)) (.cons (.str u) (.cons (.int (2 + r)) .nil))) .nil)
      · rw [List.map_append, e1, List.take_add_one, hu]
        rfl
      · rcases List.mem_append.mp hz with hz | hz
        · exact bd z hz
        · rw [List.mem_singleton.mp hz]
          exact ⟨by show 2 ≤ 2 + r; omega, by show 2 + r ≤ 4; omega⟩
      · exact ((jX1.new nt).but fun o e => (upd_ne nDp.symm).trans e).le (by omega)
    rintro Y ⟨xs, ds, z1, lx, im, e1, bd, bY, jY⟩
    rw [List.length_map] at lx jY
    rw [List.length_map, List.take_length] at e1
    have lds : ds.length = 1 + n := by rw [← lu, ← e1, List.length_map]
    refine ⟨D, _, rfl, .inl ⟨SqL.of z1, fun TG nT => ?_⟩⟩
    have vT := same_new (o := .tup xs) (Same.refl Y) nT
    have hTG : SqT K (upd Y TG (.tup xs)) TG xs := SqT.of upd_same
    have iG : Im K (upd Y TG (.tup xs)) (.ref TG) (sideD ds) := .tup hTG (im.to (Tk.same vT) _ _)
    have j8 : Jug (upd Y TG (.tup xs)) p 342 := (jY.new nT).le (by omega)
    have hq8 := vT _ _ (bY q _ nqp hq7)
    have b8 : But p H (upd Y TG (.tup xs)) := (b7.trans bY).new nT
    generalize upd Y TG (.tup xs) = H8 at hTG iG j8 hq8 b8 ⊢
    clear vT nT z1 im bY jY hq7 b7 j7 hL nD
    refine nxt ?_
    dsimp only
    refine ⟨_, rfl, TG, rfl, ⟨_, hTG⟩, fun D2 nD2 => ?_⟩
    have nD2p : D2 ≠ p := j8.ne nD2
    have e30 : (10 : Int) ^ (30 : Int).toNat = 1000000000000000000000000000000 := by decide
    refine lc_tup (K := K) (a := TG) (xs := xs) (fun j X => ∃ ns : List Int, ns.length = j ∧ X D2 = some (.lst (ns.map V.int)) ∧ (∀ x ∈ ns, 1 ≤ x ∧ x ≤ 1000000000000000000000000000000) ∧ But p H8 X ∧ Jug X p (342 + 4 * j)) ⟨[], rfl, upd_same, (fun _ h => by cases h), But.new But.refl nD2, j8.new nD2⟩ (fun j X _ ⟨_, _, _, _, b, _⟩ => (Tk.jug b j8).sq hTG) ?_ ?_
    · rintro j y X hj ⟨ns, ln, z1, bn, bX, jX⟩
      have hj4 : j < 4 := by have := (List.getElem?_eq_some_iff.mp hj).1; omega
      refine ⟨rfl, tyes (iteT ⟨_, rfl, _, _, rfl, rfl, ⟨by decide, by decide, by decide⟩, p, _, 342 + 4 * j, rfl, jX, by omega, by rw [e30]; decide, fun x X1 x0 x1 bX1 jX1 => ?_⟩)⟩
      rw [e30] at x1
      have zD := bX1 D2 _ nD2p z1
      refine ⟨_, zD, ?_, ns ++ [x], by rw [List.length_append, ln]; rfl, ?_, fun y hy => ?_, (bX.trans bX1).mut nD2, ?_⟩
      · rw [List.length_map]
        exact Nat.lt_of_lt_of_le (show _ < 100 by omega) (by decide)
      · rw [upd_same, List.map_append]
        rfl
      · rcases List.mem_append.mp hy with hy | hy
        · exact bn y hy
        · rw [List.mem_singleton.mp hy]
          exact ⟨x0, x1⟩
      · exact (jX1.but fun o e => (upd_ne nD2p.symm).trans e).le (by omega)
    rintro Y2 ⟨row, lrow, z1, bn, bY, jY⟩
    refine ⟨D2, _, rfl, .inl ⟨SqL.of z1, fun TR nT => ?_⟩⟩
    have vT := same_new (o := .tup (row.map V.int)) (Same.refl Y2) nT
    have hTR : SqT K (upd Y2 TR (.tup (row.map V.int))) TR (row.map V.int) := SqT.of upd_same
    have tk9 : Tk H8 (upd Y2 TR (.tup (row.map V.int))) := (Tk.jug bY j8).trans (Tk.same vT)
    have iG9 := iG.to tk9 _ _
    have j9 : Jug (upd Y2 TR (.tup (row.map V.int))) p 358 := (jY.new nT).le (by omega)
    have hq9 := vT _ _ (bY q _ nqp hq8)
    have b9 : But p H (upd Y2 TR (.tup (row.map V.int))) := (b8.trans bY).new nT
    generalize upd Y2 TR (.tup (row.map V.int)) = H9 at hTR iG9 j9 hq9 b9 ⊢
    clear vT nT z1 bY jY hq8 b8 j8 hTG iG nD2 tk9
    have fa1 : Fairish [(w0, (1 : Int))] ds none := by
      have mem : ∀ w ∈ us, w ∈ wr := fun w hw => by rw [hus] at hw; exact List.mem_of_mem_take hw
      rw [ews] at nd nm
      refine ⟨by simp, by simp, by omega, by omega, ?_, fun z hz => ?_, fun z hz => ?_, fun k e => by cases e⟩
      · show (w0 :: ds.map (·.1)).Nodup
        rw [e1]
        refine List.nodup_cons.mpr ⟨fun h => (List.nodup_cons.mp nd).1 (mem _ h), ?_⟩
        rw [hus]
        exact (List.nodup_cons.mp nd).2.sublist (List.take_sublist _ _)
      · rcases List.mem_cons.mp (show z ∈ (w0, (1 : Int)) :: ds from hz) with rfl | hz
        · exact nm w0 (List.mem_cons_self ..)
        · have : z.1 ∈ us := by rw [← e1]; exact List.mem_map.mpr ⟨z, hz, rfl⟩
          exact nm _ (List.mem_cons_of_mem _ (mem _ this))
      · rcases List.mem_cons.mp (show z ∈ (w0, (1 : Int)) :: ds from hz) with rfl | hz
        · exact ⟨Int.le_refl _, by show (1 : Int) ≤ 4; decide⟩
        · have := bd z hz; exact ⟨by omega, by omega⟩
    have lrow' : row.length = ds.length := by rw [lrow, lx, lds, lu]
    have gr1 : Gridish [row] [(w0, (1 : Int))].length ds.length := by
      refine ⟨rfl, fun r hr => ?_, fun r hr x hx => ?_, fun r hr x hx => ?_⟩
      · rw [List.mem_singleton.mp hr]; exact lrow'
      · rw [List.mem_singleton.mp hr] at hx; have := (bn x hx).1; omega
      · rw [List.mem_singleton.mp hr] at hx; exact (bn x hx).2
    refine nxt ?_
    dsimp only
    have at0 : L2.atI (ws.map V.str) 0 = some (.str w0) := by rw [ews]; exact L2.atI_nat (j := 0) rfl
    refine ⟨_, rfl, q, _, 0, _, rfl, rfl, SqL.of hq9, at0, (by show 2 ≤ sizeLine; decide), fun t1 n1 => ?_⟩
    have u1 := same_new (o := .tup [.str w0, .int 1]) (Same.refl H9) n1
    refine ⟨(by show 1 ≤ sizeLine; decide), fun t2 n2 => ?_⟩
    have u2 := same_new (o := .tup [.ref t1]) u1 n2
    have iH : Im K (upd (upd H9 t1 (.tup [.str w0, .int 1])) t2 (.tup [.ref t1])) (.ref t2) (sideD [(w0, 1)]) :=
      .tup (SqT.of upd_same) (.cons ((Im.tup (SqT.of upd_same) (.cons (.str w0) (.cons (.int 1) .nil)) : Im K (upd H9 t1 (.tup [.str w0, .int 1])) (.ref t1) (pD (w0, 1))).to (Tk.same (same_new (Same.refl _) n2)) _ _) .nil)
    generalize upd (upd H9 t1 (.tup [.str w0, .int 1])) t2 (.tup [.ref t1]) = H10 at u2 iH ⊢
    refine ⟨_, rfl, fun y dx hx hd hn => ?_⟩
    refine madeZ (t := none) iH (iG9.to (Tk.same u2) _ _) fa1 hx hd hn fun H11 s11 fy => ?_
    refine ⟨rfl, ?_⟩
    have u11 := u2.trans s11
    have hq11 := u11 _ _ hq9
    have hTR11 := (Tk.same u11).sq hTR
    have j11 : Jug H11 p 358 := j9.but fun o e => u11 _ _ e
    have b11 := b9.trans (But.same u11)
    clear hq9 hTR j9 b9 iG9 u1 u2 u11 iH hx hd
    refine nxt ?_
    dsimp only
    refine seq_ifNH (b := false) (fun G => Same H11 G) (fun Q' q' => ?_) (fun _ _ c => nomatch c) (fun H12 s12 _ => ?_)
    · have grid1 : ∀ (X : Hp) (t' : Addr), Same H11 X → X t' = none → Im K (upd X t' (.tup [.ref TR])) (.ref t') (gridD [row]) := fun X t' sX nt => by
        have s1 := same_new (o := .tup [.ref TR]) sX nt
        exact .tup (SqT.of upd_same) (.cons ((im_of_row hTR11).to (Tk.same s1) _ _) .nil)
      refine ⟨_, rfl, _, rfl, (by show 1 ≤ sizeLine; decide), fun t1' m1' => ?_⟩
      have v1 := same_new (o := .tup [.ref TR]) (Same.refl H11) m1'
      refine ⟨y, _, _, ds, none, [row], rfl, fy.same v1, fa1, grid1 _ _ (Same.refl _) m1', gr1, fun m Hb sb im => ?_⟩
      obtain rfl := load_alone fa1 gr1 rfl (lb_of fa1 gr1 im)
      have u2 := v1.trans sb
      refine ⟨_, rfl, TR, _, rfl, .inr ((Tk.same u2).sq hTR11), fun l nl => ⟨l, row, rfl, SqL.of upd_same, rfl, ?_⟩⟩
      have u3 := same_new (o := .lst (row.map V.int)) u2 nl
      rw [decide_eq_true rfl]
      refine ⟨_, rfl, if_false_of rfl ?_⟩
      refine ⟨_, rfl, TR, _, rfl, .inr ((Tk.same u3).sq hTR11), fun l2 nl2 => ⟨l2, row, rfl, SqL.of upd_same, _, _, rfl, rfl, _, rfl, ?_⟩⟩
      have u4 := same_new (o := .lst (row.map V.int)) u3 nl2
      by_cases h : 1 < row.sum
      · refine if_true_of (decide_eq_true h) ⟨_, rfl, _, rfl, (by show 1 ≤ sizeLine; decide), fun t3 n3 => ?_⟩
        have u5 := same_new (o := .tup [.ref TR]) u4 n3
        refine ⟨y, _, _, ds, none, [row], rfl, fy.same u5, fa1, grid1 _ _ u4 n3, gr1, fun uu m' Hd sd im' told => ?_⟩
        have em := load_alone fa1 gr1 rfl (lb_of fa1 gr1 im')
        have f0 : FirstAt (needsL [(w0, (1 : Int))] ds none [row]) m' 0 := by
          refine ⟨?_, fun k z hk _ => absurd hk (Nat.not_lt_zero _)⟩
          rw [needs_split gr1, em]
          have e0 : need row.sum (some 1) = row.sum := by
            rw [need_some]
            unfold ceilI
            rw [Int.ediv_one, Int.neg_neg]
          show some (need ([row].map List.sum)[0] (some 1)) = some row.sum
          exact congrArg some e0
        obtain ⟨d, ed, idd⟩ : ∃ d, d = hostR (w0, 1) ∧ Im K Hd uu d := by
          rcases told with ⟨h0, _⟩ | ⟨_, j, d, fj, ed, idd⟩
          · omega
          · have ej := first_one fj f0
            subst ej
            exact ⟨d, (Option.some.inj ed).symm, idd⟩
        subst ed
        have u6 := u5.trans sd
        refine ⟨_, rfl, q, _, 0, _, rfl, rfl, SqL.of (u6 _ _ hq11), at0, (by show 2 ≤ sizeLine; decide), fun t4 n4' => ?_⟩
        have v6 := same_new (o := .tup [.str "host", .str w0]) (Same.refl Hd) n4'
        have sh : SeqAt.shaped (PyData.tuple [.str "host", .str w0]) = true := by
          have w1 : PyData.strOk w0 = true := strOk_nm (nm w0 (by rw [ews]; exact List.mem_cons_self ..))
          have w2 : PyData.strOk ("host" : Str) = true := by decide +kernel
          simp [SeqAt.shaped, PyData.canLay0, PyData.canLayAll0, PyData.depth, PyData.depthAll, w1, w2]
        refine ⟨_, .tuple [.str "host", .str w0], Im.dp _ _ (idd.to (Tk.same v6) _ _), .tup (SqT.of upd_same) (.cons (.str _) (.cons (.str _) .nil)), sh, sh, ?_⟩
        rw [show PyData.eqv (hostR (w0, 1)) (PyData.tuple [.str "host", .str w0]) = true from PySem.SeqAt.eqv_refl _ (SeqAt.canLay_of_shaped sh)]
        exact ⟨_, rfl, q' _ (u6.trans v6)⟩
      · exact if_false_of (decide_eq_false h) (q' _ u4)
    have hq12 := s12 _ _ hq11
    have j12 : Jug H12 p 358 := j11.but fun o e => s12 _ _ e
    have b12 := b11.trans (But.same s12)
    clear hq11 hTR11 j11 b11 s12 fy gr1 fa1
    refine seq_ifNH (b := false) (fun G => But p H12 G ∧ Jug G p 365) (fun Q' q' => ?_) (fun _ _ c => nomatch c) (fun H13 h13 _ => ?_)
    · exact ⟨_, rfl, _, rfl, p, q, ws, 358, rfl, j12, by decide, hq12, lw, nd, nm, fun X bX jX => ⟨true, rfl, q' _ ⟨bX, jX⟩⟩⟩
    obtain ⟨b13', j13⟩ := h13
    have hq13 := b13' q _ nqp hq12
    have b13 := b12.trans b13'
    clear hq12 j12 b12 b13'
    obtain ⟨As, hAs⟩ : ∃ As, As = ws.take 4 := ⟨_, rfl⟩
    obtain ⟨Bs, hBs⟩ : ∃ Bs, Bs = ws.drop 4 := ⟨_, rfl⟩
    have lA : As.length = 4 := by rw [hAs, List.length_take]; omega
    have lB : Bs.length = 4 := by rw [hBs, List.length_drop]; omega
    have cA : cutV (ws.map V.str) none (some 4) = As.map V.str := by
      unfold cutV
      rw [show HT.sIx (ws.map V.str).length 0 none = 0 from rfl, show (some (4 : Int)) = some ((4 : Nat) : Int) from rfl, HT.sIx_nat, List.length_map, lw, List.drop_zero, hAs, List.map_take]
      rfl
    have cB : cutV (ws.map V.str) (some 4) none = Bs.map V.str := by
      unfold cutV
      rw [show HT.sIx (ws.map V.str).length (ws.map V.str).length none = (ws.map V.str).length from rfl, show (some (4 : Int)) = some ((4 : Nat) : Int) from rfl, HT.sIx_nat, List.length_map, lw, hBs, List.map_drop]
      exact List.take_of_length_le (by rw [List.length_drop, List.length_map, lw]; decide)
    have eAB : As ++ Bs = ws := by rw [hAs, hBs, List.take_append_drop]
    have fw : Fairish (sideW As 4) (sideW Bs 4) none := fair_words (by rw [eAB]; exact nd) (by rw [eAB]; exact nm) (by omega) (by omega) (by omega) (by omega) (by decide) (by decide) (fun k e => by cases e)
    refine ⟨_, rfl, _, rfl, q, _, rfl, SqL.of hq13, fun LA nLA => ?_⟩
    have vLA := same_new (o := .lst (cutV (ws.map V.str) none (some 4))) (Same.refl H13) nLA
    have hLA : upd H13 LA (.lst (cutV (ws.map V.str) none (some 4))) LA = some (.lst (As.map V.str)) := by rw [upd_same, cA]
    generalize upd H13 LA (.lst (cutV (ws.map V.str) none (some 4))) = X1 at vLA hLA ⊢
    refine ⟨LA, rfl, ⟨_, SqL.of hLA⟩, fun D1 nD1 => ?_⟩
    refine lc_list (K := K) (a := LA) (xs := As.map V.str) (fun j X => ∃ xs, X D1 = some (.lst xs) ∧ xs.length = j ∧ ImAll K X xs ((sideW (As.take j) 4).map pD) ∧ Same X1 X) ⟨[], upd_same, rfl, .nil, same_new (Same.refl _) nD1⟩ (fun j X _ ⟨_, _, _, _, z⟩ => SqL.of (z _ _ hLA)) ?_ ?_
    · rintro j y' X hj ⟨xs, z1, lx, im, sX⟩
      obtain ⟨u, hu, rfl⟩ : ∃ u, As[j]? = some u ∧ y' = V.str u := by
        rw [List.getElem?_map] at hj
        cases e : As[j]? with
        | none => rw [e] at hj; cases hj
        | some u => rw [e] at hj; exact ⟨u, rfl, (Option.some.inj hj).symm⟩
      have hj8 : j < As.length := (List.getElem?_eq_some_iff.mp hu).1
      have e1 : sideW (As.take (j + 1)) 4 = sideW (As.take j) 4 ++ [(u, 4)] := by rw [List.take_add_one, hu, sideW, List.map_append]; rfl
      refine ⟨rfl, tyes (iteT ⟨_, rfl, (by show 2 ≤ sizeLine; decide), fun t nt => ?_⟩)⟩
      obtain ⟨acc, w1, w2, xs', w3, w4, w5, w6⟩ := acc_word (u := u) (c := 4) (b := 0) (ws := []) nD1 (by omega) z1 im sX nt
      exact ⟨acc, w1, w2, xs', w3, by rw [w4, lx], by rw [e1]; exact w5, w6⟩
    rintro Y1 ⟨xsD1, zD1, lxD1, imD1, sD1⟩
    rw [List.length_map, List.take_length] at imD1
    refine ⟨D1, _, rfl, .inl ⟨SqL.of zD1, fun TA nTA => ?_⟩⟩
    have vA := same_new (o := .tup xsD1) (Same.refl Y1) nTA
    have iA : Im K (upd Y1 TA (.tup xsD1)) (.ref TA) (sideD (sideW As 4)) := .tup (SqT.of upd_same) (imD1.to (Tk.same vA) _ _)
    have sA : Same H13 (upd Y1 TA (.tup xsD1)) := (vLA.trans sD1).trans vA
    generalize upd Y1 TA (.tup xsD1) = Z1 at iA sA ⊢
    clear imD1 zD1 sD1 lxD1 vA nTA nD1 nLA hLA vLA
    refine ⟨_, rfl, _, rfl, ?_⟩
    dsimp only [tNoPart]
    refine ⟨q, _, rfl, SqL.of (sA _ _ hq13), fun LB' nLB => ?_⟩
    have vLB := same_new (o := .lst (cutV (ws.map V.str) (some 4) none)) (Same.refl Z1) nLB
    have hLB' : upd Z1 LB' (.lst (cutV (ws.map V.str) (some 4) none)) LB' = some (.lst (Bs.map V.str)) := by rw [upd_same, cB]
    generalize upd Z1 LB' (.lst (cutV (ws.map V.str) (some 4) none)) = X2 at vLB hLB' ⊢
    refine ⟨LB', rfl, ⟨_, SqL.of hLB'⟩, fun D2 nD2 => ?_⟩
    refine lc_list (K := K) (a := LB') (xs := Bs.map V.str) (fun j X => ∃ xs, X D2 = some (.lst xs) ∧ xs.length = j ∧ ImAll K X xs ((sideW (Bs.take j) 4).map pD) ∧ Same X2 X) ⟨[], upd_same, rfl, .nil, same_new (Same.refl _) nD2⟩ (fun j X _ ⟨_, _, _, _, z⟩ => SqL.of (z _ _ hLB')) ?_ ?_
    · rintro j y' X hj ⟨xs, z1, lx, im, sX⟩
      obtain ⟨u, hu, rfl⟩ : ∃ u, Bs[j]? = some u ∧ y' = V.str u := by
        rw [List.getElem?_map] at hj
        cases e : Bs[j]? with
        | none => rw [e] at hj; cases hj
        | some u => rw [e] at hj; exact ⟨u, rfl, (Option.some.inj hj).symm⟩
      have hj8 : j < Bs.length := (List.getElem?_eq_some_iff.mp hu).1
      have e1 : sideW (Bs.take (j + 1)) 4 = sideW (Bs.take j) 4 ++ [(u, 4)] := by rw [List.take_add_one, hu, sideW, List.map_append]; rfl
      refine ⟨rfl, tyes (iteT ⟨_, rfl, (by show 2 ≤ sizeLine; decide), fun t nt => ?_⟩)⟩
      obtain ⟨acc, w1, w2, xs', w3, w4, w5, w6⟩ := acc_word (u := u) (c := 4) (b := 0) (ws := []) nD2 (by omega) z1 im sX nt
      exact ⟨acc, w1, w2, xs', w3, by rw [w4, lx], by rw [e1]; exact w5, w6⟩
    rintro Y2 ⟨xsD2, zD2, lxD2, imD2, sD2⟩
    rw [List.length_map, List.take_length] at imD2
    refine ⟨D2, _, rfl, .inl ⟨SqL.of zD2, fun TB nTB => ?_⟩⟩
    have vB := same_new (o := .tup xsD2) (Same.refl Y2) nTB
    have iB : Im K (upd Y2 TB (.tup xsD2)) (.ref TB) (sideD (sideW Bs 4)) := .tup (SqT.of upd_same) (imD2.to (Tk.same vB) _ _)
    have sB : Same Z1 (upd Y2 TB (.tup xsD2)) := (vLB.trans sD2).trans vB
    generalize upd Y2 TB (.tup xsD2) = Z2 at iB sB ⊢
    clear imD2 zD2 sD2 lxD2 vB nTB nD2 nLB hLB' vLB
    refine fun yw dxw hx hd hn => ?_
    refine madeZ (t := none) (iA.to (Tk.same sB) _ _) iB fw hx hd hn fun H14 s14 fyw => ?_
    refine ⟨rfl, ?_⟩
    have u14 := (sA.trans sB).trans s14
    have j14 : Jug H14 p 365 := j13.but fun o e => u14 _ _ e
    have b14 := b13.trans (But.same u14)
    clear j13 b13 u14 iA iB sA sB s14 hx hd hq13
    refine nxt ?_
    refine ⟨4, rfl, by omega, by omega, fun D nD => ?_⟩
    have nDp : D ≠ p := j14.ne nD
    refine lc_range (lo := 0) (n := (4 : Int).toNat) (fun j G => ∃ (as : List Addr) (g : Grid), as.length = j ∧ G D = some (.lst (as.map V.ref)) ∧ RowsAt K G as g ∧ (∀ r ∈ g, r.length = 4 ∧ ∀ x ∈ r, 0 ≤ x ∧ x ≤ 1) ∧ But p H14 G ∧ Jug G p (365 + 4 * j))
      ⟨[], [], rfl, upd_same, trivial, (fun _ h => nomatch h), But.new But.refl nD, j14.new nD⟩ ?_ ?_
    · rintro j G hj ⟨as, g, la, gD, rg, bd, bG, jG⟩
      have hj4 : j < 4 := hj
      refine ⟨rfl, tyes (iteT ⟨4, rfl, by omega, by omega, fun D2 nD2 => ?_⟩)⟩
      have nD2p := jG.ne nD2
      refine lc_range (lo := 0) (n := (4 : Int).toNat) (fun i X => ∃ ns : List Int, ns.length = i ∧ X D2 = some (.lst (ns.map V.int)) ∧ (∀ x ∈ ns, 0 ≤ x ∧ x ≤ 1) ∧ But p G X ∧ Jug X p (365 + 4 * j + i))
        ⟨[], rfl, upd_same, (fun _ h => nomatch h), But.new But.refl nD2, jG.new nD2⟩ ?_ ?_
      · rintro i X hi ⟨ns, ln, xD, bn, bX, jX⟩
        have hi4 : i < 4 := hi
        refine ⟨rfl, tyes (iteT ⟨_, rfl, p, 2, 365 + 4 * j + i, rfl, jX, by omega, by decide, by decide, fun x X' x0 x1 b' j' => ?_⟩)⟩
        have xD' := b' D2 _ nD2p xD
        refine ⟨_, xD', ?_, ns ++ [x], by rw [List.length_append, ln]; rfl, ?_, ?_, ?_, ?_⟩
        · rw [List.length_map]
          exact Nat.lt_of_lt_of_le (show _ < 100 by omega) (by decide)
        · rw [upd_same, List.map_append]
          rfl
        · intro z hz
          rcases List.mem_append.mp hz with hz | hz
          · exact bn z hz
          · rw [List.mem_singleton] at hz
            subst hz
            exact ⟨x0, by omega⟩
        · exact (bX.trans b').mut nD2
        · exact (j'.but fun o e => (upd_ne nD2p.symm).trans e).le (by omega)
      · rintro X ⟨ns, ln, xD, bn, bX, jX⟩
        have ln4 : ns.length = 4 := ln
        refine ⟨D2, _, rfl, .inl ⟨SqL.of xD, fun T' nT => ?_⟩⟩
        have xDD := bX D _ nDp gD
        have bT := bX.new (o := .tup (ns.map V.int)) nT
        have nTD : D ≠ T' := ne_of_none xDD nT
        have xDT := (upd_ne (o := .tup (ns.map V.int)) nTD).trans xDD
        have rT : RowsAt K (upd X T' (.tup (ns.map V.int))) as g := rg.to (Tk.jug bT jG)
        refine ⟨_, xDT, ?_, as ++ [T'], g ++ [ns], by rw [List.length_append, la]; rfl, ?_, ?_, ?_, ?_, ?_⟩
        · rw [List.length_map]
          exact Nat.lt_of_lt_of_le (show _ < 100 by omega) (by decide)
        · rw [upd_same, List.map_append]
          rfl
        · exact (rT.snoc (SqT.of upd_same)).to (Tk.mut xDT)
        · intro r hr
          rcases List.mem_append.mp hr with hr | hr
          · exact bd r hr
          · rw [List.mem_singleton] at hr
            subst hr
            exact ⟨ln4, bn⟩
        · exact (bG.trans bT).mut nD
        · exact ((jX.new nT).but fun o e => (upd_ne nDp.symm).trans e).le (show 365 + 4 * j + 4 ≤ 365 + 4 * (j + 1) by omega)
    rintro G ⟨as, g, la, gD, rg, bd, bG, jG⟩
    have la4 : as.length = 4 := la
    refine ⟨D, _, rfl, .inl ⟨SqL.of gD, fun TO nT => ?_⟩⟩
    have lg : as.length = g.length := rg.length
    have vT := same_new (o := .tup (as.map V.ref)) (Same.refl G) nT
    have iO : Im K (upd G TO (.tup (as.map V.ref))) (.ref TO) (gridD g) := im_of_grid (SqT.of upd_same) (rg.to (Tk.same vT))
    have fy15 := (fyw.jug bG j14).same vT
    have b15 : But p H (upd G TO (.tup (as.map V.ref))) := (b14.trans bG).new nT
    generalize upd G TO (.tup (as.map V.ref)) = H15 at iO fy15 b15 ⊢
    clear vT nT gD rg bG jG fyw b14 j14 nD
    have lsA : (sideW As 4).length = 4 := by rw [sideW, List.length_map, lA]
    have lsB : (sideW Bs 4).length = 4 := by rw [sideW, List.length_map, lB]
    have go : Gridish g (sideW As 4).length (sideW Bs 4).length := by
      rw [lsA, lsB]
      exact ⟨by omega, fun r hr => (bd r hr).1, fun r hr x hx => ((bd r hr).2 x hx).1, fun r hr x hx => by have := ((bd r hr).2 x hx).2; omega⟩
    have hb4 : ∀ z ∈ sideW As 4 ++ sideW Bs 4, z.2 = 4 := by
      intro z hz
      rcases List.mem_append.mp hz with h | h
      · obtain ⟨w, _, rfl⟩ := List.mem_map.mp h; rfl
      · obtain ⟨w, _, rfl⟩ := List.mem_map.mp h; rfl
    refine nxt ?_
    refine ⟨_, rfl, _, g, rfl, iO, by omega, fun r hr => by rw [(bd r hr).1]; decide, fun qf H16 s16 hf => ⟨qf, _, rfl, .inr hf, rfl, flat_ints _, _, rfl, ?_⟩⟩
    have iO16 := iO.to (Tk.same s16) _ _
    have fy16 := fy15.same s16
    have b16 := b15.trans (But.same s16)
    rw [inV_int]
    by_cases c : (1 : Int) ∈ g.flatten
    · refine if_true_of (by simp [c]) ?_
      refine nxt ?_
      dsimp only
      refine ⟨_, rfl, _, rfl, yw, _, _, _, none, g, rfl, fy16, fw, iO16, go, fun m Ha sa im => ?_⟩
      have em : m = 1 := by
        have h := load_wide hb4 (by omega) go (by omega) (by omega) (fun r hr x hx => ((bd r hr).2 x hx).2) (lb_of fw go im)
        rw [if_pos c] at h
        exact h
      subst em
      refine ⟨_, rfl, _, rfl, yw, _, _, _, none, g, rfl, fy16.same sa, fw, iO16.to (Tk.same sa) _ _, go, fun u m' Hb sb im' told => ?_⟩
      have em' := max_one im im'
      refine ⟨rfl, ?_⟩
      have un : u ≠ .non := by
        rcases told with ⟨h0, _⟩ | ⟨h0, j, d, fj, ed, idd⟩
        · omega
        · obtain ⟨ts, ets⟩ := reason_tuple go (t := none) (m', d) (List.mem_of_getElem? (i := j) (by rw [List.getElem?_zip_eq_some]; exact ⟨fj.1, ed⟩)) h0
          have ets : d = .tuple ts := ets
          subst ets
          cases idd with
          | tup h1 h2 => intro e; cases e
      rw [decide_eq_false un]
      have hz : Sh (.list [.int 1, .bool false]) 1 2 := (ShA.cons (Sh.int (by decide)) (ShA.cons (Sh.bl false) (ShA.nil (b := 0)))).lst
      obtain ⟨e1', e2', e3', e4'⟩ := hz.fits (by decide) (by decide)
      refine ⟨(by show 2 ≤ sizeLine; decide), fun z nz => ⟨.ref z, _, rfl, .lst (SqL.of upd_same) (.cons (.int _) (.cons (.bl _) .nil)), e1', e2', e3', e4', ?_⟩⟩
      have uz := same_new (o := .lst [.int 1, .bl false]) (sa.trans sb) nz
      refine ⟨_, rfl, _, rfl, rfl, ?_⟩
      rw [show decide (V.int 1 = V.int 0) = false from decide_eq_false (fun e => by cases e)]
      refine ⟨(by show 2 ≤ sizeLine; decide), fun z2 nz2 => ⟨.ref z2, _, rfl, .lst (SqL.of upd_same) (.cons (.int _) (.cons (.bl _) .nil)), e1', e2', e3', e4', rfl, ?_⟩⟩
      show Q (.bl (decide (_ = _))) _
      rw [decide_eq_true rfl]
      exact k _ (b16.trans (But.same (same_new uz nz2)))
    · refine if_false_of (by simp [c]) ?_
      refine nxt ?_
      dsimp only
      refine ⟨_, rfl, _, rfl, yw, _, _, _, none, g, rfl, fy16, fw, iO16, go, fun m Ha sa im => ?_⟩
      have em : m = 0 := by
        have h := load_wide hb4 (by omega) go (by omega) (by omega) (fun r hr x hx => ((bd r hr).2 x hx).2) (lb_of fw go im)
        rw [if_neg c] at h
        exact h
      subst em
      refine ⟨_, rfl, _, rfl, yw, _, _, _, none, g, rfl, fy16.same sa, fw, iO16.to (Tk.same sa) _ _, go, fun u m' Hb sb im' told => ?_⟩
      have em' := max_one im im'
      refine ⟨rfl, ?_⟩
      have un : u = .non := by
        rcases told with ⟨_, e⟩ | ⟨h0, _⟩
        · exact e
        · omega
      rw [decide_eq_true un]
      have hz : Sh (.list [.int 0, .bool true]) 1 2 := (ShA.cons (Sh.int (by decide)) (ShA.cons (Sh.bl true) (ShA.nil (b := 0)))).lst
      obtain ⟨e1', e2', e3', e4'⟩ := hz.fits (by decide) (by decide)
      refine ⟨(by show 2 ≤ sizeLine; decide), fun z nz => ⟨.ref z, _, rfl, .lst (SqL.of upd_same) (.cons (.int _) (.cons (.bl _) .nil)), e1', e2', e3', e4', ?_⟩⟩
      have uz := same_new (o := .lst [.int 0, .bl true]) (sa.trans sb) nz
      refine ⟨_, rfl, _, rfl, rfl, ?_⟩
      rw [show decide (V.int 0 = V.int 0) = true from decide_eq_true rfl]
      refine ⟨(by show 2 ≤ sizeLine; decide), fun z2 nz2 => ⟨.ref z2, _, rfl, .lst (SqL.of upd_same) (.cons (.int _) (.cons (.bl _) .nil)), e1', e2', e3', e4', rfl, ?_⟩⟩
      show Q (.bl (decide (_ = _))) _
      rw [decide_eq_true rfl]
      exact k _ (b16.trans (But.same (same_new uz nz2)))
end
end F02
namespace F02
open PySem PySem.Spec PyProof.Rows L2 MG SP
section
variable {P : Program} {w : World} {K : PySem.W.Frag} {mg : Str → Option Value} {base : Heap} {C : Addr}
abbrev s_law : Stmt := top 55
theorem sc_law : FnScope ["_law_script", "_law_at"] ["_law_script"] (defScope s_law) := ⟨rfl, rfl, rfl, by decide +kernel, rfl, by decide +kernel, by decide +kernel⟩
def sp_law (K : PySem.W.Frag) : Sp := fun vs H Q _ => ∃ (a : Addr) (ns : List Int), vs = [.ref a] ∧ SqL K H a (ns.map V.int) ∧ ns.length ≤ 63 ∧ ∀ H', Q (.bl true) H'
structure TxL (K : PySem.W.Frag) (mg : Str → Option Value) (f_l_right f_l_jug : Addr) : Prop where
  n_range : mg "range" = none
  n_max : mg "max" = none
  n_min : mg "min" = none
  n_len : mg "len" = none
  g_l_right : mg "_law_right" = some (.ref f_l_right)
  k_l_right : PySem.W.keepIn K (.ref f_l_right) = true
  g_l_jug : mg "_law_jug" = some (.ref f_l_jug)
  k_l_jug : PySem.W.keepIn K (.ref f_l_jug) = true
theorem ok_law {f f_l_right f_l_jug : Addr} {fd fd_l_right fd_l_jug : FuncData} (F : Fun K "law" "law" s_law f fd) (T : TxL K mg f_l_right f_l_jug)
    (G_l_right : FnG P w K mg base CX0 8 f_l_right fd_l_right ["_law_jug_here"] sp_l_right) (b_l_right : Binds K fd_l_right ["_law_jug_here"] [])
    (G_l_jug1 : FnOk P w K mg base CX0 1 f_l_jug fd_l_jug ["_law_script", "_law_at"] (sp_l_jug K)) (b_l_jug : Binds K fd_l_jug ["_law_script", "_law_at"] []) :
    FnG P w K mg base CX0 9 f fd ["_law_script"] (sp_law K) := by
  have G_l_jug := G_l_jug1.mono (show 1 ≤ 8 by decide)
  refine okG F sc_law (fun vs H Q E h => ?_) (fun cdv A outer s H vs Q E hgd hr h => ?_)
  · obtain ⟨a, ns, rfl, _⟩ := h
    rfl
  · obtain ⟨a, ns, rfl, ha, hl, k⟩ := h
    refine ⟨_, (pss_cons (ps_for PassesOwn.never rfl (pi_range1 rfl T.n_range (pa_cons (pe_callB (call_max2 rfl) (by rfl) T.n_max (by decide +kernel) (pa_cons pe_int (pa_cons (pe_callB (call_min2 rfl) (by rfl) T.n_min (by decide +kernel) (pa_cons (pe_callB call_len_seq (by rfl) T.n_len PySem.boot_len (pa_cons (pv 0) pa_nil)) (pa_cons pe_int pa_nil))) pa_nil))) pa_nil)) (pg_name (i := 1) sc_law.nd rfl (Or.inl rfl))
        (pss_one (ps_if (pt_not (pt_val (pe_callG G_l_right hgd hr rfl T.g_l_right T.k_l_right b_l_right .nil pass0 (pa_cons (pe_call G_l_jug hr rfl T.g_l_jug T.k_l_jug b_l_jug .nil pass0 (pa_cons (pv 0) (pa_cons (pv 1) pa_nil))) pa_nil))))
        (pss_one ps_never)
        pss_nil)))
      (pss_one (ps_ret pe_bl))), ?_⟩
    have top5 : ∀ n : Int, 0 ≤ n → 2 ≤ (if (if (6 : Int) < n then (6 : Int) else n) > 2 then (if (6 : Int) < n then (6 : Int) else n) else 2) ∧ (if (if (6 : Int) < n then (6 : Int) else n) > 2 then (if (6 : Int) < n then (6 : Int) else n) else 2) ≤ 6 := fun n hn => by
      split <;> split <;> omega
    obtain ⟨j2, j5⟩ := top5 (((ns.map V.int).length : Nat) : Int) (by omega)
    refine ⟨_, rfl, a, _, rfl, .inl ha, _, _, rfl, _, _, rfl, _, rfl, by omega, by omega, ?_⟩
    generalize (if (if (6 : Int) < (((ns.map V.int).length : Nat) : Int) then (6 : Int) else (((ns.map V.int).length : Nat) : Int)) > 2 then (if (6 : Int) < (((ns.map V.int).length : Nat) : Int) then (6 : Int) else (((ns.map V.int).length : Nat) : Int)) else 2) = j at j2 j5 ⊢
    refine for_range (lo := 0) (n := j.toNat) (fun i σ G => (∃ v : Option V, σ = [some (.ref a), v]) ∧ Same H G) ⟨⟨none, rfl⟩, Same.refl H⟩ ?_ ?_
    · rintro i σ G hi ⟨⟨v, rfl⟩, sG⟩
      refine nxt ?_
      refine ⟨_, rfl, _, rfl, a, ns, _, rfl, sG.seq ha, hl, by omega, by omega, fun p G1 s1 np j1 => ?_⟩
      refine ⟨p, rfl, j1, fun G2 b2 => ⟨true, rfl, iteF ?_⟩⟩
      exact ⟨⟨_, rfl⟩, sG.trans fun b o e => b2 b o (ne_of_none e np) (s1 _ _ e)⟩
    · rintro σ G ⟨⟨v, rfl⟩, sG⟩
      exact k _
end
end F02
namespace TopG
open PySem PySem.Spec PyProof.Rows L2 MG
section
variable {P : Program} {w : World} {K : PySem.W.Frag} {mg mb : Str → Option Value}
variable {k : Nat} {fa a : Addr} {fd : FuncData} {x : Str} {sp : Sp} {s₁ : Shared}
variable {vs : List Value} {ns : List Int}
/-- what stands at the law's call, from a view H in which at most the script is tracked -/
theorem env_top {H : Hp} (KX : K.In s₁.heap) (hns : s₁.heap.Ns mainGlobals mg)
    (hb : s₁.heap.Ns builtinsNs mb) (hbb : ∀ x : Str, x ≠ "__name__" → mb x = bootBuiltins x)
    (hlim : s₁.heap.NoLimit) (hg : s₁.gens = #[])
    (ha : s₁.heap.get? a = some { cls := .type "list", data := .seq vs.toArray })
    (hok : HOk P w H s₁.heap) (one : ∀ b, b ≠ a → H b = none)
    (own : H a ≠ none → K.lookup a = none) :
    K.In (hidT s₁.heap H) ∧ (hidT s₁.heap H).Ns mainGlobals mg ∧
      Env0 P w K mg (hidT s₁.heap H) callerA [] s₁ H := by
  have seqA : ∀ (b : Addr) (o : Obj) (es : Array DictEntry) (ep : Nat),
      s₁.heap.get? b = some o → o.data = .dict es ep → H b = none := by
    intro b o es ep e d
    refine one b fun q => ?_
    rw [q, ha] at e
    obtain rfl := Option.some.inj e
    exact nomatch (show Data.seq vs.toArray _ = Data.dict es ep from d)
  have ns1 : ∀ (b : Addr) (m : Str → Option Value),
      s₁.heap.Ns b m → (hidT s₁.heap H).Ns b m := by
    rintro b m ⟨o, es, ep, e, d, r⟩
    exact ⟨o, es, ep, hidT_get e (seqA b o es ep e d), d, r⟩
  have kin : K.In (hidT s₁.heap H) := by
    intro b o e
    refine hidT_get (KX b o e) ?_
    by_cases hb : b = a
    · subst hb
      by_cases hn : H b = none
      · exact hn
      · rw [own hn] at e
        exact nomatch e
    · exact one b hb
  obtain ⟨mc, c1, c2⟩ := hlim
  have md : Mod K mg (hidT s₁.heap H) :=
    ⟨kin, ns1 _ _ hns, ⟨mb, ns1 _ _ hb, hbb⟩, mc, ns1 _ _ c1, c2⟩
  exact ⟨kin, ns1 _ _ hns, rfl, md, fun b o e => of_hidT e,
    Nat.le_of_eq (hidT_size _ _), trivial, (fun b hb => nomatch hb), hok, .of_eq hg⟩
/-- the law's def, called from the top -/
theorem run_top {H : Hp} (KX : K.In s₁.heap) (hns : s₁.heap.Ns mainGlobals mg)
    (hb : s₁.heap.Ns builtinsNs mb) (hbb : ∀ x : Str, x ≠ "__name__" → mb x = bootBuiltins x)
    (hlim : s₁.heap.NoLimit) (hg : s₁.gens = #[])
    (ha : s₁.heap.get? a = some { cls := .type "list", data := .seq vs.toArray })
    (hok : HOk P w H s₁.heap) (one : ∀ b, b ≠ a → H b = none)
    (own : H a ≠ none → K.lookup a = none) (frz : ∀ b, H b = none ∨ ∃ o xs, H b = some (.frz o (.lst xs)))
    (hr : Room k callerA)
    (F : ∀ base : Heap, K.In base → base.Ns mainGlobals mg →
      FnG P w K mg base CX0 k fa fd [x] sp)
    (hbind : ∀ (s : Shared) (u : Value), BindsTo s fd ⟨[u], []⟩ [(x, u)])
    (hsp : sp [.ref a] H (fun v _ => v = .bl true) fun _ _ _ => False) :
    codeAny (model P w) callerA (.call (.ref fa) ⟨[.ref a], []⟩)
      (fun r s' => r = .ok (.ret (.bool true)) ∧ OldK s₁.heap s'.heap ∧
        s'.os = s₁.os ∧ AllBare s'.gens) s₁ := by
  obtain ⟨kin, nsm, e0⟩ := env_top KX hns hb hbb hlim hg ha hok one own
  have run := (F _ kin nsm).run callerA [] s₁ H ⟨[.ref a], []⟩ [.ref a] [.ref a] _ _ rfl hr e0
    (hbind s₁ (.ref a)) (.cons rfl .nil) hsp
  refine codeAny_mono run fun r s' h => ?_
  match r, h with
  | .error e, h => exact h.elim
  | .ok (.ret u), h =>
    obtain ⟨v, H', os, bare, un, hok', ru, ev⟩ := h
    have ev' : v = .bl true := ev
    subst ev'
    obtain rfl : u = Value.bool true := ru
    refine ⟨rfl, OldK.of_keep (fun b o e => ?_), os, bare⟩
    rcases frz b with z | ⟨ob, xs, z⟩
    · exact un.keep b o e z (fun m => nomatch m) (fun m => nomatch m)
    · obtain ⟨e1, _⟩ := hok b _ z
      obtain ⟨e2, _⟩ := hok' b _ (un.frzs b ob _ z)
      rw [e1] at e
      obtain rfl := Option.some.inj e
      exact e2
/-- the script is tracked, unless it is one of the module's own objects -/
theorem call_top (KX : K.In s₁.heap) (hns : s₁.heap.Ns mainGlobals mg)
    (hb : s₁.heap.Ns builtinsNs mb) (hbb : ∀ x : Str, x ≠ "__name__" → mb x = bootBuiltins x)
    (hlim : s₁.heap.NoLimit) (hg : s₁.gens = #[])
    (ha : s₁.heap.get? a = some { cls := .type "list", data := .seq vs.toArray })
    (hi : IntsAre vs ns) (hl : ns.length ≤ sizeLine) (hr : Room k callerA)
    (F : ∀ base : Heap, K.In base → base.Ns mainGlobals mg →
      FnG P w K mg base CX0 k fa fd [x] sp)
    (hbind : ∀ (s : Shared) (u : Value), BindsTo s fd ⟨[u], []⟩ [(x, u)])
    (hsp : ∀ H : Hp, SqL K H a (ns.map V.int) →
      sp [.ref a] H (fun v _ => v = .bl true) fun _ _ _ => False) :
    codeAny (model P w) callerA (.call (.ref fa) ⟨[.ref a], []⟩)
      (fun r s' => r = .ok (.ret (.bool true)) ∧ OldK s₁.heap s'.heap ∧
        s'.os = s₁.os ∧ AllBare s'.gens) s₁ := by
  have vi := vals_ints hi
  have lv := hi.length
  cases hk : K.lookup a with
  | some o =>
    have e := KX a o hk
    rw [ha] at e
    obtain rfl := Option.some.inj e
    have sq : SqL K (fun _ => none) a (ns.map V.int) :=
      .inr ⟨_, vs.toArray, _, hk, rfl, rfl, rfl, by rw [List.size_toArray, lv]; exact hl, vi⟩
    exact run_top (H := fun _ => none) KX hns hb hbb hlim hg ha (fun b u z => nomatch z)
      (fun _ _ => rfl) (fun z => absurd rfl z) (fun _ => .inl rfl) hr F hbind (hsp _ sq)
  | none =>
    let o : Obj := { cls := .type "list", data := .seq vs.toArray }
    let H : Hp := fun b => if b = a then some (.frz o (.lst (ns.map V.int))) else none
    have Ha : H a = some (.frz o (.lst (ns.map V.int))) := if_pos rfl
    have Hn : ∀ b, b ≠ a → H b = none := fun b hb => if_neg hb
    refine run_top (H := H) KX hns hb hbb hlim hg ha (fun b u z => ?_) Hn (fun _ => hk)
      (fun b => ?_) hr F hbind (hsp H (.inl (.inr ⟨o, Ha⟩)))
    · by_cases hba : b = a
      · subst hba
        rw [Ha] at z
        obtain rfl := Option.some.inj z
        exact ⟨ha, by rw [List.length_map]; exact hl, vs, _, vi, ha⟩
      · rw [Hn b hba] at z
        exact nomatch z
    · by_cases hba : b = a
      · subst hba
        exact .inr ⟨_, _, Ha⟩
      · exact .inl (Hn b hba)
end
/-- the goal that the head leaves, from the law's promise -/
theorem walkG {l : PySem.W.OpenLaw} {n k : Nat} {q : Program} {loose : List Str}
    {XP : (Str → Option Value) → Heap → Prop} {YP : World → Heap → Prop} {d : DefRec}
    {K : Params → PySem.W.Frag} {sp : PySem.W.Frag → Sp} {x : Str}
    (hn : l.most = some n) (hn2 : n ≤ sizeLine) (hdf : d.params.defaults = [])
    (hr : Room k callerA) (hY : ∀ (w : World) (h : Heap), YP w h → (K w.params).In h)
    (F : ∀ (w : World) (mg : Str → Option Value) (fa : Addr) (h : Heap),
      (K w.params).In h → h.Ns mainGlobals mg → mg d.name = some (.ref fa) →
      ∃ fd : FuncData, (∀ (s : Shared) (u : Value), BindsTo s fd ⟨[u], []⟩ [(x, u)]) ∧
        ∀ base : Heap, (K w.params).In base → base.Ns mainGlobals mg →
          FnG l.prog w (K w.params) mg base CX0 k fa fd [x] (sp (K w.params)))
    (hsp : ∀ (K : PySem.W.Frag) (H : Hp) (a : Addr) (ns : List Int), ns.length ≤ n →
      SqL K H a (ns.map V.int) →
      sp K [.ref a] H (fun v _ => v = .bl true) fun _ _ _ => False) :
    PySem.W.WalkO q loose XP YP l.row.toRowW d [] (fun f vs => PySem.call f vs) := by
  refine Att.attach_call hn hdf ?_
  intro w s₀ s₁ mg mb fa o pm cd doc a vs ns G Y ho hd hcd hmg hobj hints hlen hg
  have KX := hY w _ Y
  obtain ⟨fd, hb, hF⟩ := F w mg fa _ KX G.T.g hmg
  exact call_top KX G.T.g G.T.b G.T.builtins G.T.nolimit hg hobj hints
    (Nat.le_trans hlen hn2) hr hF hb (fun H hS => hsp _ H a ns hlen hS)
end TopG
namespace F02
open PySem PySem.Spec PyProof.Rows L2 MG SP LT KW
theorem all_mk {l : PySem.W.OpenLaw} {w : World} {K : PySem.W.Frag} {h : Heap} {mg : Str → Option Value} {fa C : Addr} (X : K.In h) (G : h.Ns mainGlobals mg) (hfa : mg "law" = some (.ref fa))
    {f_is_integer f_is_name f_is_member f_fault f_names_of f_text_of f_is_row f_table_fault f_lines_of f_limits_of f_ceiling f_reasons f_check_fair f_check_meetings f_needs f_least_rounds f_load f_binding f_l_jug f_l_pour f_l_word f_l_words f_l_parts f_l_number f_l_grid f_l_in_rows f_l_flat f_l_some f_l_alike f_l_square_right f_l_right f_law dI dF f_init dT p_hosts f_hosts p_guests f_guests p_tables f_tables : Addr}
    {odT odI odF od_is_integer an_is_integer od_is_name an_is_name od_is_member an_is_member od_fault an_fault od_names_of an_names_of od_text_of an_text_of od_is_row an_is_row od_table_fault an_table_fault od_lines_of an_lines_of od_limits_of an_limits_of od_ceiling an_ceiling od_reasons an_reasons od_check_fair an_check_fair od_check_meetings an_check_meetings od_needs an_needs od_least_rounds an_least_rounds od_load an_load od_binding an_binding od_l_jug an_l_jug od_l_pour an_l_pour od_l_word an_l_word od_l_words an_l_words od_l_parts an_l_parts od_l_number an_l_number od_l_grid an_l_grid od_l_in_rows an_l_in_rows od_l_flat an_l_flat od_l_some an_l_some od_l_alike an_l_alike od_l_square_right an_l_square_right od_l_right an_l_right od_law an_law od_init an_init od_hosts an_hosts od_guests an_guests od_tables an_tables : Option Addr} {slT slI slF sl_is_integer sl_is_name sl_is_member sl_fault sl_names_of sl_text_of sl_is_row sl_table_fault sl_lines_of sl_limits_of sl_ceiling sl_reasons sl_check_fair sl_check_meetings sl_needs sl_least_rounds sl_load sl_binding sl_l_jug sl_l_pour sl_l_word sl_l_words sl_l_parts sl_l_number sl_l_grid sl_l_in_rows sl_l_flat sl_l_some sl_l_alike sl_l_square_right sl_l_right sl_law sl_init sl_hosts sl_guests sl_tables : Array (Option Value)}
    {ocT ocI ocF oc_is_integer kV_is_integer dc_is_integer pm_is_integer cd_is_integer ct_is_integer oc_is_name kV_is_name dc_is_name pm_is_name cd_is_name ct_is_name oc_is_member kV_is_member dc_is_member pm_is_member cd_is_member ct_is_member oc_fault kV_fault dc_fault pm_fault cd_fault ct_fault oc_names_of kV_names_of dc_names_of pm_names_of cd_names_of ct_names_of oc_text_of kV_text_of dc_text_of pm_text_of cd_text_of ct_text_of oc_is_row kV_is_row dc_is_row pm_is_row cd_is_row ct_is_row oc_table_fault kV_table_fault dc_table_fault pm_table_fault cd_table_fault ct_table_fault oc_lines_of kV_lines_of dc_lines_of pm_lines_of cd_lines_of ct_lines_of oc_limits_of kV_limits_of dc_limits_of pm_limits_of cd_limits_of ct_limits_of oc_ceiling kV_ceiling dc_ceiling pm_ceiling cd_ceiling ct_ceiling oc_reasons kV_reasons dc_reasons pm_reasons cd_reasons ct_reasons oc_check_fair kV_check_fair dc_check_fair pm_check_fair cd_check_fair ct_check_fair oc_check_meetings kV_check_meetings dc_check_meetings pm_check_meetings cd_check_meetings ct_check_meetings oc_needs kV_needs dc_needs pm_needs cd_needs ct_needs oc_least_rounds kV_least_rounds dc_least_rounds pm_least_rounds cd_least_rounds ct_least_rounds oc_load kV_load dc_load pm_load cd_load ct_load oc_binding kV_binding dc_binding pm_binding cd_binding ct_binding oc_l_jug kV_l_jug dc_l_jug pm_l_jug cd_l_jug ct_l_jug oc_l_pour kV_l_pour dc_l_pour pm_l_pour cd_l_pour ct_l_pour oc_l_word kV_l_word dc_l_word pm_l_word cd_l_word ct_l_word oc_l_words kV_l_words dc_l_words pm_l_words cd_l_words ct_l_words oc_l_parts kV_l_parts dc_l_parts pm_l_parts cd_l_parts ct_l_parts oc_l_number kV_l_number dc_l_number pm_l_number cd_l_number ct_l_number oc_l_grid kV_l_grid dc_l_grid pm_l_grid cd_l_grid ct_l_grid oc_l_in_rows kV_l_in_rows dc_l_in_rows pm_l_in_rows cd_l_in_rows ct_l_in_rows oc_l_flat kV_l_flat dc_l_flat pm_l_flat cd_l_flat ct_l_flat oc_l_some kV_l_some dc_l_some pm_l_some cd_l_some ct_l_some oc_l_alike kV_l_alike dc_l_alike pm_l_alike cd_l_alike ct_l_alike oc_l_square_right kV_l_square_right dc_l_square_right pm_l_square_right cd_l_square_right ct_l_square_right oc_l_right kV_l_right dc_l_right pm_l_right cd_l_right ct_l_right oc_law kV_law dc_law pm_law cd_law ct_law oc_init kV_init dc_init pm_init cd_init ct_init oc_hosts kV_hosts dc_hosts pm_hosts cd_hosts ct_hosts oc_guests kV_guests dc_guests pm_guests cd_guests ct_guests oc_tables kV_tables dc_tables pm_tables cd_tables ct_tables : Value} {nT nI nF : Nat} {rest_hosts rest_guests rest_tables : List Value} {tkMOST_MEETINGS tkMOST_SIDE tkMOST_BOUND tkMOST_TABLES tk_LONGEST_NAME tk_FIRST_SIGNS tk_SIGNS : Tok}
    (aC : PySem.W.nsIn K mainGlobals "Fair" = some (some (.ref C)))
    (a_is_integer : PySem.W.nsIn K mainGlobals "is_integer" = some (some (.ref f_is_integer)))
    (l_is_integer : K.lookup f_is_integer = some ⟨oc_is_integer, od_is_integer, .func (PySem.W.fnOf "is_integer" "is_integer" (defArgs s_is_integer) (defBody s_is_integer) (defScope s_is_integer) (.ref dI) kV_is_integer dc_is_integer pm_is_integer an_is_integer cd_is_integer ct_is_integer), sl_is_integer⟩)
    (c_is_integer : PySem.W.codeIn K cd_is_integer "is_integer" = true)
    (k_is_integer : PySem.W.keepIn K (.ref f_is_integer) = true)
    (a_is_name : PySem.W.nsIn K mainGlobals "is_name" = some (some (.ref f_is_name)))
    (l_is_name : K.lookup f_is_name = some ⟨oc_is_name, od_is_name, .func (PySem.W.fnOf "is_name" "is_name" (defArgs s_is_name) (defBody s_is_name) (defScope s_is_name) .none kV_is_name dc_is_name pm_is_name an_is_name cd_is_name ct_is_name), sl_is_name⟩)
    (c_is_name : PySem.W.codeIn K cd_is_name "is_name" = true)
    (k_is_name : PySem.W.keepIn K (.ref f_is_name) = true)
    (a_is_member : PySem.W.nsIn K mainGlobals "_is_member" = some (some (.ref f_is_member)))
    (l_is_member : K.lookup f_is_member = some ⟨oc_is_member, od_is_member, .func (PySem.W.fnOf "_is_member" "_is_member" (defArgs s_is_member) (defBody s_is_member) (defScope s_is_member) .none kV_is_member dc_is_member pm_is_member an_is_member cd_is_member ct_is_member), sl_is_member⟩)
    (c_is_member : PySem.W.codeIn K cd_is_member "_is_member" = true)
    (k_is_member : PySem.W.keepIn K (.ref f_is_member) = true)
    (a_fault : PySem.W.nsIn K mainGlobals "_fault" = some (some (.ref f_fault)))
    (l_fault : K.lookup f_fault = some ⟨oc_fault, od_fault, .func (PySem.W.fnOf "_fault" "_fault" (defArgs s_fault) (defBody s_fault) (defScope s_fault) .none kV_fault dc_fault pm_fault an_fault cd_fault ct_fault), sl_fault⟩)
    (c_fault : PySem.W.codeIn K cd_fault "_fault" = true)
    (k_fault : PySem.W.keepIn K (.ref f_fault) = true)
    (a_names_of : PySem.W.nsIn K mainGlobals "_names_of" = some (some (.ref f_names_of)))
    (l_names_of : K.lookup f_names_of = some ⟨oc_names_of, od_names_of, .func (PySem.W.fnOf "_names_of" "_names_of" (defArgs s_names_of) (defBody s_names_of) (defScope s_names_of) .none kV_names_of dc_names_of pm_names_of an_names_of cd_names_of ct_names_of), sl_names_of⟩)
    (c_names_of : PySem.W.codeIn K cd_names_of "_names_of" = true)
    (k_names_of : PySem.W.keepIn K (.ref f_names_of) = true)
    (a_text_of : PySem.W.nsIn K mainGlobals "_text_of" = some (some (.ref f_text_of)))
    (l_text_of : K.lookup f_text_of = some ⟨oc_text_of, od_text_of, .func (PySem.W.fnOf "_text_of" "_text_of" (defArgs s_text_of) (defBody s_text_of) (defScope s_text_of) .none kV_text_of dc_text_of pm_text_of an_text_of cd_text_of ct_text_of), sl_text_of⟩)
    (c_text_of : PySem.W.codeIn K cd_text_of "_text_of" = true)
    (k_text_of : PySem.W.keepIn K (.ref f_text_of) = true)
    (a_is_row : PySem.W.nsIn K mainGlobals "_is_row" = some (some (.ref f_is_row)))
    (l_is_row : K.lookup f_is_row = some ⟨oc_is_row, od_is_row, .func (PySem.W.fnOf "_is_row" "_is_row" (defArgs s_is_row) (defBody s_is_row) (defScope s_is_row) .none kV_is_row dc_is_row pm_is_row an_is_row cd_is_row ct_is_row), sl_is_row⟩)
    (c_is_row : PySem.W.codeIn K cd_is_row "_is_row" = true)
    (k_is_row : PySem.W.keepIn K (.ref f_is_row) = true)
    (a_table_fault : PySem.W.nsIn K mainGlobals "table_fault" = some (some (.ref f_table_fault)))
    (l_table_fault : K.lookup f_table_fault = some ⟨oc_table_fault, od_table_fault, .func (PySem.W.fnOf "table_fault" "table_fault" (defArgs s_table_fault) (defBody s_table_fault) (defScope s_table_fault) (.ref dF) kV_table_fault dc_table_fault pm_table_fault an_table_fault cd_table_fault ct_table_fault), sl_table_fault⟩)
    (c_table_fault : PySem.W.codeIn K cd_table_fault "table_fault" = true)
    (k_table_fault : PySem.W.keepIn K (.ref f_table_fault) = true)
    (a_lines_of : PySem.W.nsIn K mainGlobals "lines_of" = some (some (.ref f_lines_of)))
    (l_lines_of : K.lookup f_lines_of = some ⟨oc_lines_of, od_lines_of, .func (PySem.W.fnOf "lines_of" "lines_of" (defArgs s_lines_of) (defBody s_lines_of) (defScope s_lines_of) .none kV_lines_of dc_lines_of pm_lines_of an_lines_of cd_lines_of ct_lines_of), sl_lines_of⟩)
    (c_lines_of : PySem.W.codeIn K cd_lines_of "lines_of" = true)
    (k_lines_of : PySem.W.keepIn K (.ref f_lines_of) = true)
    (a_limits_of : PySem.W.nsIn K mainGlobals "limits_of" = some (some (.ref f_limits_of)))
    (l_limits_of : K.lookup f_limits_of = some ⟨oc_limits_of, od_limits_of, .func (PySem.W.fnOf "limits_of" "limits_of" (defArgs s_limits_of) (defBody s_limits_of) (defScope s_limits_of) .none kV_limits_of dc_limits_of pm_limits_of an_limits_of cd_limits_of ct_limits_of), sl_limits_of⟩)
    (c_limits_of : PySem.W.codeIn K cd_limits_of "limits_of" = true)
    (k_limits_of : PySem.W.keepIn K (.ref f_limits_of) = true)
    (a_ceiling : PySem.W.nsIn K mainGlobals "ceiling" = some (some (.ref f_ceiling)))
    (l_ceiling : K.lookup f_ceiling = some ⟨oc_ceiling, od_ceiling, .func (PySem.W.fnOf "ceiling" "ceiling" (defArgs s_ceiling) (defBody s_ceiling) (defScope s_ceiling) .none kV_ceiling dc_ceiling pm_ceiling an_ceiling cd_ceiling ct_ceiling), sl_ceiling⟩)
    (c_ceiling : PySem.W.codeIn K cd_ceiling "ceiling" = true)
    (k_ceiling : PySem.W.keepIn K (.ref f_ceiling) = true)
    (a_reasons : PySem.W.nsIn K mainGlobals "_reasons" = some (some (.ref f_reasons)))
    (l_reasons : K.lookup f_reasons = some ⟨oc_reasons, od_reasons, .func (PySem.W.fnOf "_reasons" "_reasons" (defArgs s_reasons) (defBody s_reasons) (defScope s_reasons) .none kV_reasons dc_reasons pm_reasons an_reasons cd_reasons ct_reasons), sl_reasons⟩)
    (c_reasons : PySem.W.codeIn K cd_reasons "_reasons" = true)
    (k_reasons : PySem.W.keepIn K (.ref f_reasons) = true)
    (a_check_fair : PySem.W.nsIn K mainGlobals "check_fair" = some (some (.ref f_check_fair)))
    (l_check_fair : K.lookup f_check_fair = some ⟨oc_check_fair, od_check_fair, .func (PySem.W.fnOf "check_fair" "check_fair" (defArgs s_check_fair) (defBody s_check_fair) (defScope s_check_fair) .none kV_check_fair dc_check_fair pm_check_fair an_check_fair cd_check_fair ct_check_fair), sl_check_fair⟩)
    (c_check_fair : PySem.W.codeIn K cd_check_fair "check_fair" = true)
    (k_check_fair : PySem.W.keepIn K (.ref f_check_fair) = true)
    (a_check_meetings : PySem.W.nsIn K mainGlobals "check_meetings" = some (some (.ref f_check_meetings)))
    (l_check_meetings : K.lookup f_check_meetings = some ⟨oc_check_meetings, od_check_meetings, .func (PySem.W.fnOf "check_meetings" "check_meetings" (defArgs s_check_meetings) (defBody s_check_meetings) (defScope s_check_meetings) .none kV_check_meetings dc_check_meetings pm_check_meetings an_check_meetings cd_check_meetings ct_check_meetings), sl_check_meetings⟩)
    (c_check_meetings : PySem.W.codeIn K cd_check_meetings "check_meetings" = true)
    (k_check_meetings : PySem.W.keepIn K (.ref f_check_meetings) = true)
    (a_needs : PySem.W.nsIn K mainGlobals "_needs" = some (some (.ref f_needs)))
    (l_needs : K.lookup f_needs = some ⟨oc_needs, od_needs, .func (PySem.W.fnOf "_needs" "_needs" (defArgs s_needs) (defBody s_needs) (defScope s_needs) .none kV_needs dc_needs pm_needs an_needs cd_needs ct_needs), sl_needs⟩)
    (c_needs : PySem.W.codeIn K cd_needs "_needs" = true)
    (k_needs : PySem.W.keepIn K (.ref f_needs) = true)
    (a_least_rounds : PySem.W.nsIn K mainGlobals "least_rounds" = some (some (.ref f_least_rounds)))
    (l_least_rounds : K.lookup f_least_rounds = some ⟨oc_least_rounds, od_least_rounds, .func (PySem.W.fnOf "least_rounds" "least_rounds" (defArgs s_least_rounds) (defBody s_least_rounds) (defScope s_least_rounds) .none kV_least_rounds dc_least_rounds pm_least_rounds an_least_rounds cd_least_rounds ct_least_rounds), sl_least_rounds⟩)
    (c_least_rounds : PySem.W.codeIn K cd_least_rounds "least_rounds" = true)
    (k_least_rounds : PySem.W.keepIn K (.ref f_least_rounds) = true)
    (a_load : PySem.W.nsIn K mainGlobals "load" = some (some (.ref f_load)))
    (l_load : K.lookup f_load = some ⟨oc_load, od_load, .func (PySem.W.fnOf "load" "load" (defArgs s_load) (defBody s_load) (defScope s_load) .none kV_load dc_load pm_load an_load cd_load ct_load), sl_load⟩)
    (c_load : PySem.W.codeIn K cd_load "load" = true)
    (k_load : PySem.W.keepIn K (.ref f_load) = true)
    (a_binding : PySem.W.nsIn K mainGlobals "binding" = some (some (.ref f_binding)))
    (l_binding : K.lookup f_binding = some ⟨oc_binding, od_binding, .func (PySem.W.fnOf "binding" "binding" (defArgs s_binding) (defBody s_binding) (defScope s_binding) .none kV_binding dc_binding pm_binding an_binding cd_binding ct_binding), sl_binding⟩)
    (c_binding : PySem.W.codeIn K cd_binding "binding" = true)
    (k_binding : PySem.W.keepIn K (.ref f_binding) = true)
    (a_l_jug : PySem.W.nsIn K mainGlobals "_law_jug" = some (some (.ref f_l_jug)))
    (l_l_jug : K.lookup f_l_jug = some ⟨oc_l_jug, od_l_jug, .func (PySem.W.fnOf "_law_jug" "_law_jug" (defArgs s_l_jug) (defBody s_l_jug) (defScope s_l_jug) .none kV_l_jug dc_l_jug pm_l_jug an_l_jug cd_l_jug ct_l_jug), sl_l_jug⟩)
    (c_l_jug : PySem.W.codeIn K cd_l_jug "_law_jug" = true)
    (k_l_jug : PySem.W.keepIn K (.ref f_l_jug) = true)
    (a_l_pour : PySem.W.nsIn K mainGlobals "_law_pour" = some (some (.ref f_l_pour)))
    (l_l_pour : K.lookup f_l_pour = some ⟨oc_l_pour, od_l_pour, .func (PySem.W.fnOf "_law_pour" "_law_pour" (defArgs s_l_pour) (defBody s_l_pour) (defScope s_l_pour) .none kV_l_pour dc_l_pour pm_l_pour an_l_pour cd_l_pour ct_l_pour), sl_l_pour⟩)
    (c_l_pour : PySem.W.codeIn K cd_l_pour "_law_pour" = true)
    (k_l_pour : PySem.W.keepIn K (.ref f_l_pour) = true)
    (a_l_word : PySem.W.nsIn K mainGlobals "_law_word" = some (some (.ref f_l_word)))
    (l_l_word : K.lookup f_l_word = some ⟨oc_l_word, od_l_word, .func (PySem.W.fnOf "_law_word" "_law_word" (defArgs s_l_word) (defBody s_l_word) (defScope s_l_word) .none kV_l_word dc_l_word pm_l_word an_l_word cd_l_word ct_l_word), sl_l_word⟩)
    (c_l_word : PySem.W.codeIn K cd_l_word "_law_word" = true)
    (k_l_word : PySem.W.keepIn K (.ref f_l_word) = true)
    (a_l_words : PySem.W.nsIn K mainGlobals "_law_words" = some (some (.ref f_l_words)))
    (l_l_words : K.lookup f_l_words = some ⟨oc_l_words, od_l_words, .func (PySem.W.fnOf "_law_words" "_law_words" (defArgs s_l_words) (defBody s_l_words) (defScope s_l_words) .none kV_l_words dc_l_words pm_l_words an_l_words cd_l_words ct_l_words), sl_l_words⟩)
    (c_l_words : PySem.W.codeIn K cd_l_words "_law_words" = true)
    (k_l_words : PySem.W.keepIn K (.ref f_l_words) = true)
    (a_l_parts : PySem.W.nsIn K mainGlobals "_law_parts" = some (some (.ref f_l_parts)))
    (l_l_parts : K.lookup f_l_parts = some ⟨oc_l_parts, od_l_parts, .func (PySem.W.fnOf "_law_parts" "_law_parts" (defArgs s_l_parts) (defBody s_l_parts) (defScope s_l_parts) .none kV_l_parts dc_l_parts pm_l_parts an_l_parts cd_l_parts ct_l_parts), sl_l_parts⟩)
    (c_l_parts : PySem.W.codeIn K cd_l_parts "_law_parts" = true)
    (k_l_parts : PySem.W.keepIn K (.ref f_l_parts) = true)
    (a_l_number : PySem.W.nsIn K mainGlobals "_law_number" = some (some (.ref f_l_number)))
    (l_l_number : K.lookup f_l_number = some ⟨oc_l_number, od_l_number, .func (PySem.W.fnOf "_law_number" "_law_number" (defArgs s_l_number) (defBody s_l_number) (defScope s_l_number) .none kV_l_number dc_l_number pm_l_number an_l_number cd_l_number ct_l_number), sl_l_number⟩)
    (c_l_number : PySem.W.codeIn K cd_l_number "_law_number" = true)
    (k_l_number : PySem.W.keepIn K (.ref f_l_number) = true)
    (a_l_grid : PySem.W.nsIn K mainGlobals "_law_grid" = some (some (.ref f_l_grid)))
    (l_l_grid : K.lookup f_l_grid = some ⟨oc_l_grid, od_l_grid, .func (PySem.W.fnOf "_law_grid" "_law_grid" (defArgs s_l_grid) (defBody s_l_grid) (defScope s_l_grid) .none kV_l_grid dc_l_grid pm_l_grid an_l_grid cd_l_grid ct_l_grid), sl_l_grid⟩)
    (c_l_grid : PySem.W.codeIn K cd_l_grid "_law_grid" = true)
    (k_l_grid : PySem.W.keepIn K (.ref f_l_grid) = true)
    (a_l_in_rows : PySem.W.nsIn K mainGlobals "_law_in_rows" = some (some (.ref f_l_in_rows)))
    (l_l_in_rows : K.lookup f_l_in_rows = some ⟨oc_l_in_rows, od_l_in_rows, .func (PySem.W.fnOf "_law_in_rows" "_law_in_rows" (defArgs s_l_in_rows) (defBody s_l_in_rows) (defScope s_l_in_rows) .none kV_l_in_rows dc_l_in_rows pm_l_in_rows an_l_in_rows cd_l_in_rows ct_l_in_rows), sl_l_in_rows⟩)
    (c_l_in_rows : PySem.W.codeIn K cd_l_in_rows "_law_in_rows" = true)
    (k_l_in_rows : PySem.W.keepIn K (.ref f_l_in_rows) = true)
    (a_l_flat : PySem.W.nsIn K mainGlobals "_law_flat" = some (some (.ref f_l_flat)))
    (l_l_flat : K.lookup f_l_flat = some ⟨oc_l_flat, od_l_flat, .func (PySem.W.fnOf "_law_flat" "_law_flat" (defArgs s_l_flat) (defBody s_l_flat) (defScope s_l_flat) .none kV_l_flat dc_l_flat pm_l_flat an_l_flat cd_l_flat ct_l_flat), sl_l_flat⟩)
    (c_l_flat : PySem.W.codeIn K cd_l_flat "_law_flat" = true)
    (k_l_flat : PySem.W.keepIn K (.ref f_l_flat) = true)
    (a_l_some : PySem.W.nsIn K mainGlobals "_law_some" = some (some (.ref f_l_some)))
    (l_l_some : K.lookup f_l_some = some ⟨oc_l_some, od_l_some, .func (PySem.W.fnOf "_law_some" "_law_some" (defArgs s_l_some) (defBody s_l_some) (defScope s_l_some) .none kV_l_some dc_l_some pm_l_some an_l_some cd_l_some ct_l_some), sl_l_some⟩)
    (c_l_some : PySem.W.codeIn K cd_l_some "_law_some" = true)
    (k_l_some : PySem.W.keepIn K (.ref f_l_some) = true)
    (a_l_alike : PySem.W.nsIn K mainGlobals "_law_alike" = some (some (.ref f_l_alike)))
    (l_l_alike : K.lookup f_l_alike = some ⟨oc_l_alike, od_l_alike, .func (PySem.W.fnOf "_law_alike" "_law_alike" (defArgs s_l_alike) (defBody s_l_alike) (defScope s_l_alike) .none kV_l_alike dc_l_alike pm_l_alike an_l_alike cd_l_alike ct_l_alike), sl_l_alike⟩)
    (c_l_alike : PySem.W.codeIn K cd_l_alike "_law_alike" = true)
    (k_l_alike : PySem.W.keepIn K (.ref f_l_alike) = true)
    (a_l_square_right : PySem.W.nsIn K mainGlobals "_law_square_right" = some (some (.ref f_l_square_right)))
    (l_l_square_right : K.lookup f_l_square_right = some ⟨oc_l_square_right, od_l_square_right, .func (PySem.W.fnOf "_law_square_right" "_law_square_right" (defArgs s_l_square_right) (defBody s_l_square_right) (defScope s_l_square_right) .none kV_l_square_right dc_l_square_right pm_l_square_right an_l_square_right cd_l_square_right ct_l_square_right), sl_l_square_right⟩)
    (c_l_square_right : PySem.W.codeIn K cd_l_square_right "_law_square_right" = true)
    (k_l_square_right : PySem.W.keepIn K (.ref f_l_square_right) = true)
    (a_l_right : PySem.W.nsIn K mainGlobals "_law_right" = some (some (.ref f_l_right)))
    (l_l_right : K.lookup f_l_right = some ⟨oc_l_right, od_l_right, .func (PySem.W.fnOf "_law_right" "_law_right" (defArgs s_l_right) (defBody s_l_right) (defScope s_l_right) .none kV_l_right dc_l_right pm_l_right an_l_right cd_l_right ct_l_right), sl_l_right⟩)
    (c_l_right : PySem.W.codeIn K cd_l_right "_law_right" = true)
    (k_l_right : PySem.W.keepIn K (.ref f_l_right) = true)
    (a_law : PySem.W.nsIn K mainGlobals "law" = some (some (.ref f_law)))
    (l_law : K.lookup f_law = some ⟨oc_law, od_law, .func (PySem.W.fnOf "law" "law" (defArgs s_law) (defBody s_law) (defScope s_law) .none kV_law dc_law pm_law an_law cd_law ct_law), sl_law⟩)
    (c_law : PySem.W.codeIn K cd_law "law" = true)
    (k_law : PySem.W.keepIn K (.ref f_law) = true)
    (lI : K.lookup dI = some ⟨ocI, odI, .seq #[Value.none] nI, slI⟩)
    (lF : K.lookup dF = some ⟨ocF, odF, .seq #[Value.none] nF, slF⟩)
    (a_init : PySem.W.findIn K (.ref C) "__init__" = some (some (.ref f_init)))
    (i_init : PySem.W.isFn K (.ref f_init) = true)
    (l_init : K.lookup f_init = some ⟨oc_init, od_init, .func (PySem.W.fnOf "__init__" "Fair.__init__" (defArgs s_init) (defBody s_init) (defScope s_init) (.ref dT) kV_init dc_init pm_init an_init cd_init ct_init), sl_init⟩)
    (c_init : PySem.W.codeIn K cd_init "Fair.__init__" = true)
    (k_init : PySem.W.keepIn K (.ref f_init) = true)
    (lT : K.lookup dT = some ⟨ocT, odT, .seq #[Value.none] nT, slT⟩)
    (a_hosts : PySem.W.findIn K (.ref C) "hosts" = some (some (.ref p_hosts)))
    (g_hosts : PySem.W.specialIn K (.ref p_hosts) "__get__" = some (some (.builtin "property.__get__")))
    (t_hosts : PySem.W.takesIn K (.ref p_hosts) = some true)
    (r_hosts : PySem.W.recIn K p_hosts "property" = some (.ref f_hosts :: rest_hosts))
    (l_hosts : K.lookup f_hosts = some ⟨oc_hosts, od_hosts, .func (PySem.W.fnOf "hosts" "Fair.hosts" (defArgs s_hosts) (defBody s_hosts) (defScope s_hosts) .none kV_hosts dc_hosts pm_hosts an_hosts cd_hosts ct_hosts), sl_hosts⟩)
    (c_hosts : PySem.W.codeIn K cd_hosts "Fair.hosts" = true)
    (k_hosts : PySem.W.keepIn K (.ref f_hosts) = true)
    (a_guests : PySem.W.findIn K (.ref C) "guests" = some (some (.ref p_guests)))
    (g_guests : PySem.W.specialIn K (.ref p_guests) "__get__" = some (some (.builtin "property.__get__")))
    (t_guests : PySem.W.takesIn K (.ref p_guests) = some true)
    (r_guests : PySem.W.recIn K p_guests "property" = some (.ref f_guests :: rest_guests))
    (l_guests : K.lookup f_guests = some ⟨oc_guests, od_guests, .func (PySem.W.fnOf "guests" "Fair.guests" (defArgs s_guests) (defBody s_guests) (defScope s_guests) .none kV_guests dc_guests pm_guests an_guests cd_guests ct_guests), sl_guests⟩)
    (c_guests : PySem.W.codeIn K cd_guests "Fair.guests" = true)
    (k_guests : PySem.W.keepIn K (.ref f_guests) = true)
    (a_tables : PySem.W.findIn K (.ref C) "tables" = some (some (.ref p_tables)))
    (g_tables : PySem.W.specialIn K (.ref p_tables) "__get__" = some (some (.builtin "property.__get__")))
    (t_tables : PySem.W.takesIn K (.ref p_tables) = some true)
    (r_tables : PySem.W.recIn K p_tables "property" = some (.ref f_tables :: rest_tables))
    (l_tables : K.lookup f_tables = some ⟨oc_tables, od_tables, .func (PySem.W.fnOf "tables" "Fair.tables" (defArgs s_tables) (defBody s_tables) (defScope s_tables) .none kV_tables dc_tables pm_tables an_tables cd_tables ct_tables), sl_tables⟩)
    (c_tables : PySem.W.codeIn K cd_tables "Fair.tables" = true)
    (k_tables : PySem.W.keepIn K (.ref f_tables) = true)
    (pg : PySem.W.plainGet K C Str.empty = true)
    (hd : PySem.W.hasDictIn K C = true)
    (po : PySem.W.plainOver K C = true)
    (sa : PySem.W.findIn K (.ref C) "__setattr__" = some (some (.builtin "object.__setattr__")))
    (mk : PySem.W.makesIn K C = true)
    (kc : PySem.W.keepIn K (.ref C) = true)
    (nH : PySem.W.findIn K (.ref C) "_hosts" = some none)
    (nG : PySem.W.findIn K (.ref C) "_guests" = some none)
    (nT_ : PySem.W.findIn K (.ref C) "_tables" = some none)
    (nN : PySem.W.findIn K (.ref C) "_names" = some none)
    (nX : PySem.W.findIn K (.ref C) "_text" = some none)
    (ha : PySem.W.findIn K (.ref C) "__class__" = some (some (.builtin "object.__class__")))
    (hn : PySem.W.specialIn K (.builtin "object.__class__") "__get__" = some (some (.builtin "getset_descriptor.__get__")))
    (htk : PySem.W.takesIn K (.builtin "object.__class__") = some true)
    (hm : PySem.W.mroIn K C (.type "object") = some true)
    (kC : PySem.W.kitOne K (.ref C) (.ref C) = some true)
    (kN : PySem.W.kitOne K (.type "NoneType") (.ref C) = some false)
    (kI : PySem.W.kitOne K (.type "int") (.ref C) = some false)
    (kS : PySem.W.kitOne K (.type "str") (.ref C) = some false)
    (kT : PySem.W.kitOne K (.type "tuple") (.ref C) = some false)
    (kL : PySem.W.kitOne K (.type "list") (.ref C) = some false)
    (fC : PySem.W.notFirst K C (.ref C) = true)
    (fN : PySem.W.notFirst K C (.type "NoneType") = true)
    (fI : PySem.W.notFirst K C (.type "int") = true)
    (fS : PySem.W.notFirst K C (.type "str") = true)
    (fT : PySem.W.notFirst K C (.type "tuple") = true)
    (fL : PySem.W.notFirst K C (.type "list") = true)
    (nB : PySem.W.findIn K (.ref C) "__bool__" = some none)
    (ne : PySem.W.findIn K (.ref C) "__ne__" = some (some (.builtin "object.__ne__")))
    (z_range : PySem.W.nsIn K mainGlobals "range" = some none)
    (z_str : PySem.W.nsIn K mainGlobals "str" = some none)
    (z_len : PySem.W.nsIn K mainGlobals "len" = some none)
    (z_tuple : PySem.W.nsIn K mainGlobals "tuple" = some none)
    (z_bool : PySem.W.nsIn K mainGlobals "bool" = some none)
    (z_isinstance : PySem.W.nsIn K mainGlobals "isinstance" = some none)
    (z_int : PySem.W.nsIn K mainGlobals "int" = some none)
    (z_divmod : PySem.W.nsIn K mainGlobals "divmod" = some none)
    (z_abs : PySem.W.nsIn K mainGlobals "abs" = some none)
    (z_max : PySem.W.nsIn K mainGlobals "max" = some none)
    (z_min : PySem.W.nsIn K mainGlobals "min" = some none)
    (z_all : PySem.W.nsIn K mainGlobals "all" = some none)
    (z_enumerate : PySem.W.nsIn K mainGlobals "enumerate" = some none)
    (z_list : PySem.W.nsIn K mainGlobals "list" = some none)
    (z_sum : PySem.W.nsIn K mainGlobals "sum" = some none)
    (z_zip : PySem.W.nsIn K mainGlobals "zip" = some none)
    (z_repr : PySem.W.nsIn K mainGlobals "repr" = some none)
    (mMOST_MEETINGS : PySem.W.nsIn K mainGlobals "MOST_MEETINGS" = some (some (.int 1000000000000000000000000000000 tkMOST_MEETINGS)))
    (mMOST_SIDE : PySem.W.nsIn K mainGlobals "MOST_SIDE" = some (some (.int 4 tkMOST_SIDE)))
    (mMOST_BOUND : PySem.W.nsIn K mainGlobals "MOST_BOUND" = some (some (.int 4 tkMOST_BOUND)))
    (mMOST_TABLES : PySem.W.nsIn K mainGlobals "MOST_TABLES" = some (some (.int 12 tkMOST_TABLES)))
    (m_LONGEST_NAME : PySem.W.nsIn K mainGlobals "_LONGEST_NAME" = some (some (.int 8 tk_LONGEST_NAME)))
    (m_FIRST_SIGNS : PySem.W.nsIn K mainGlobals "_FIRST_SIGNS" = some (some (.str "abcdefghijklmnopqrstuvwxyz" tk_FIRST_SIGNS)))
    (m_SIGNS : PySem.W.nsIn K mainGlobals "_SIGNS" = some (some (.str SIGNS tk_SIGNS)))
    : ∃ fd : FuncData, (∀ (s : Shared) (v : Value), BindsTo s fd ⟨[v], []⟩ [("_law_script", v)]) ∧ ∀ base : Heap, K.In base → base.Ns mainGlobals mg → FnG l.prog w K mg base CX0 9 fa fd ["_law_script"] (sp_law K) := by
  have e := hfa.symm.trans (PySem.W.mg_of X G a_law)
  cases e
  have F_is_integer : FII K f_is_integer _ := ⟨⟨_, _, _, _, _, _, _, _, _, _, rfl, l_is_integer, c_is_integer, .inr ⟨by simp, dI, _, [Value.none], nI, rfl, lI, rfl, .cons rfl .nil⟩, .inl rfl⟩, k_is_integer⟩
  have b_is_integer := b_is_integer3 F_is_integer
  have v_is_integer := PySem.W.mg_of X G a_is_integer
  have F_is_name := fun_mk (st := s_is_name) l_is_name c_is_name k_is_name
  have b_is_name := F_is_name.binds (ps := ["value"]) fun _ _ _ _ _ _ us hl => match us, hl with | [_], _ => rfl
  have v_is_name := PySem.W.mg_of X G a_is_name
  have F_is_member := fun_mk (st := s_is_member) l_is_member c_is_member k_is_member
  have b_is_member := F_is_member.binds (ps := ["value"]) fun _ _ _ _ _ _ us hl => match us, hl with | [_], _ => rfl
  have v_is_member := PySem.W.mg_of X G a_is_member
  have F_fault := fun_mk (st := s_fault) l_fault c_fault k_fault
  have b_fault := F_fault.binds (ps := ["side", "taken"]) fun _ _ _ _ _ _ us hl => match us, hl with | [_, _], _ => rfl
  have v_fault := PySem.W.mg_of X G a_fault
  have F_names_of := fun_mk (st := s_names_of) l_names_of c_names_of k_names_of
  have b_names_of := F_names_of.binds (ps := ["side"]) fun _ _ _ _ _ _ us hl => match us, hl with | [_], _ => rfl
  have v_names_of := PySem.W.mg_of X G a_names_of
  have F_text_of := fun_mk (st := s_text_of) l_text_of c_text_of k_text_of
  have b_text_of := F_text_of.binds (ps := ["hosts", "guests", "tables"]) fun _ _ _ _ _ _ us hl => match us, hl with | [_, _, _], _ => rfl
  have v_text_of := PySem.W.mg_of X G a_text_of
  have F_is_row := fun_mk (st := s_is_row) l_is_row c_is_row k_is_row
  have b_is_row := F_is_row.binds (ps := ["value", "guests", "most"]) fun _ _ _ _ _ _ us hl => match us, hl with | [_, _, _], _ => rfl
  have v_is_row := PySem.W.mg_of X G a_is_row
  have F_table_fault : FIT K f_table_fault _ := ⟨⟨_, _, _, _, _, _, _, _, _, _, rfl, l_table_fault, c_table_fault, .inr ⟨by simp, dF, _, [Value.none], nF, rfl, lF, rfl, .cons rfl .nil⟩, .inl rfl⟩, k_table_fault⟩
  have b_table_fault := b_table_fault4 F_table_fault
  have v_table_fault := PySem.W.mg_of X G a_table_fault
  have F_lines_of := fun_mk (st := s_lines_of) l_lines_of c_lines_of k_lines_of
  have b_lines_of := F_lines_of.binds (ps := ["table"]) fun _ _ _ _ _ _ us hl => match us, hl with | [_], _ => rfl
  have v_lines_of := PySem.W.mg_of X G a_lines_of
  have F_limits_of := fun_mk (st := s_limits_of) l_limits_of c_limits_of k_limits_of
  have b_limits_of := F_limits_of.binds (ps := ["fair"]) fun _ _ _ _ _ _ us hl => match us, hl with | [_], _ => rfl
  have v_limits_of := PySem.W.mg_of X G a_limits_of
  have F_ceiling := fun_mk (st := s_ceiling) l_ceiling c_ceiling k_ceiling
  have b_ceiling := F_ceiling.binds (ps := ["number", "by"]) fun _ _ _ _ _ _ us hl => match us, hl with | [_, _], _ => rfl
  have v_ceiling := PySem.W.mg_of X G a_ceiling
  have F_reasons := fun_mk (st := s_reasons) l_reasons c_reasons k_reasons
  have b_reasons := F_reasons.binds (ps := ["fair"]) fun _ _ _ _ _ _ us hl => match us, hl with | [_], _ => rfl
  have v_reasons := PySem.W.mg_of X G a_reasons
  have F_check_fair := fun_mk (st := s_check_fair) l_check_fair c_check_fair k_check_fair
  have b_check_fair := F_check_fair.binds (ps := ["fair"]) fun _ _ _ _ _ _ us hl => match us, hl with | [_], _ => rfl
  have v_check_fair := PySem.W.mg_of X G a_check_fair
  have F_check_meetings := fun_mk (st := s_check_meetings) l_check_meetings c_check_meetings k_check_meetings
  have b_check_meetings := F_check_meetings.binds (ps := ["fair", "meetings"]) fun _ _ _ _ _ _ us hl => match us, hl with | [_, _], _ => rfl
  have v_check_meetings := PySem.W.mg_of X G a_check_meetings
  have F_needs := fun_mk (st := s_needs) l_needs c_needs k_needs
  have b_needs := F_needs.binds (ps := ["fair", "meetings"]) fun _ _ _ _ _ _ us hl => match us, hl with | [_, _], _ => rfl
  have v_needs := PySem.W.mg_of X G a_needs
  have F_least_rounds := fun_mk (st := s_least_rounds) l_least_rounds c_least_rounds k_least_rounds
  have b_least_rounds := F_least_rounds.binds (ps := ["fair", "meetings"]) fun _ _ _ _ _ _ us hl => match us, hl with | [_, _], _ => rfl
  have v_least_rounds := PySem.W.mg_of X G a_least_rounds
  have F_load := fun_mk (st := s_load) l_load c_load k_load
  have b_load := F_load.binds (ps := ["fair", "meetings"]) fun _ _ _ _ _ _ us hl => match us, hl with | [_, _], _ => rfl
  have v_load := PySem.W.mg_of X G a_load
  have F_binding := fun_mk (st := s_binding) l_binding c_binding k_binding
  have b_binding := F_binding.binds (ps := ["fair", "meetings"]) fun _ _ _ _ _ _ us hl => match us, hl with | [_, _], _ => rfl
  have v_binding := PySem.W.mg_of X G a_binding
  have F_l_jug := fun_mk (st := s_l_jug) l_l_jug c_l_jug k_l_jug
  have b_l_jug := F_l_jug.binds (ps := ["_law_script", "_law_at"]) fun _ _ _ _ _ _ us hl => match us, hl with | [_, _], _ => rfl
  have v_l_jug := PySem.W.mg_of X G a_l_jug
  have F_l_pour := fun_mk (st := s_l_pour) l_l_pour c_l_pour k_l_pour
  have b_l_pour := F_l_pour.binds (ps := ["_law_jug_here", "_law_many"]) fun _ _ _ _ _ _ us hl => match us, hl with | [_, _], _ => rfl
  have v_l_pour := PySem.W.mg_of X G a_l_pour
  have F_l_word := fun_mk (st := s_l_word) l_l_word c_l_word k_l_word
  have b_l_word := F_l_word.binds (ps := ["_law_jug_here"]) fun _ _ _ _ _ _ us hl => match us, hl with | [_], _ => rfl
  have v_l_word := PySem.W.mg_of X G a_l_word
  have F_l_words := fun_mk (st := s_l_words) l_l_words c_l_words k_l_words
  have b_l_words := F_l_words.binds (ps := ["_law_jug_here", "_law_many"]) fun _ _ _ _ _ _ us hl => match us, hl with | [_, _], _ => rfl
  have v_l_words := PySem.W.mg_of X G a_l_words
  have F_l_parts := fun_mk (st := s_l_parts) l_l_parts c_l_parts k_l_parts
  have b_l_parts := F_l_parts.binds (ps := ["_law_jug_here", "_law_most_here", "_law_most_there"]) fun _ _ _ _ _ _ us hl => match us, hl with | [_, _, _], _ => rfl
  have v_l_parts := PySem.W.mg_of X G a_l_parts
  have F_l_number := fun_mk (st := s_l_number) l_l_number c_l_number k_l_number
  have b_l_number := F_l_number.binds (ps := ["_law_jug_here", "_law_way"]) fun _ _ _ _ _ _ us hl => match us, hl with | [_, _], _ => rfl
  have v_l_number := PySem.W.mg_of X G a_l_number
  have F_l_grid := fun_mk (st := s_l_grid) l_l_grid c_l_grid k_l_grid
  have b_l_grid := F_l_grid.binds (ps := ["_law_jug_here", "_law_parts_here", "_law_way"]) fun _ _ _ _ _ _ us hl => match us, hl with | [_, _, _], _ => rfl
  have v_l_grid := PySem.W.mg_of X G a_l_grid
  have F_l_in_rows := fun_mk (st := s_l_in_rows) l_l_in_rows c_l_in_rows k_l_in_rows
  have b_l_in_rows := F_l_in_rows.binds (ps := ["_law_grid_here"]) fun _ _ _ _ _ _ us hl => match us, hl with | [_], _ => rfl
  have v_l_in_rows := PySem.W.mg_of X G a_l_in_rows
  have F_l_flat := fun_mk (st := s_l_flat) l_l_flat c_l_flat k_l_flat
  have b_l_flat := F_l_flat.binds (ps := ["_law_grid_here"]) fun _ _ _ _ _ _ us hl => match us, hl with | [_], _ => rfl
  have v_l_flat := PySem.W.mg_of X G a_l_flat
  have F_l_some := fun_mk (st := s_l_some) l_l_some c_l_some k_l_some
  have b_l_some := F_l_some.binds (ps := ["_law_jug_here", "_law_most"]) fun _ _ _ _ _ _ us hl => match us, hl with | [_, _], _ => rfl
  have v_l_some := PySem.W.mg_of X G a_l_some
  have F_l_alike := fun_mk (st := s_l_alike) l_l_alike c_l_alike k_l_alike
  have b_l_alike := F_l_alike.binds (ps := ["_law_many", "_law_number_here"]) fun _ _ _ _ _ _ us hl => match us, hl with | [_, _], _ => rfl
  have v_l_alike := PySem.W.mg_of X G a_l_alike
  have F_l_square_right := fun_mk (st := s_l_square_right) l_l_square_right c_l_square_right k_l_square_right
  have b_l_square_right := F_l_square_right.binds (ps := ["_law_jug_here", "_law_words_here"]) fun _ _ _ _ _ _ us hl => match us, hl with | [_, _], _ => rfl
  have v_l_square_right := PySem.W.mg_of X G a_l_square_right
  have F_l_right := fun_mk (st := s_l_right) l_l_right c_l_right k_l_right
  have b_l_right := F_l_right.binds (ps := ["_law_jug_here"]) fun _ _ _ _ _ _ us hl => match us, hl with | [_], _ => rfl
  have v_l_right := PySem.W.mg_of X G a_l_right
  have F_law := fun_mk (st := s_law) l_law c_law k_law
  have F_hosts := fun_mk (st := s_hosts) l_hosts c_hosts k_hosts
  have b_hosts := F_hosts.binds (ps := ["self"]) fun _ _ _ _ _ _ us hl => match us, hl with | [_], _ => rfl
  have F_guests := fun_mk (st := s_guests) l_guests c_guests k_guests
  have b_guests := F_guests.binds (ps := ["self"]) fun _ _ _ _ _ _ us hl => match us, hl with | [_], _ => rfl
  have F_tables := fun_mk (st := s_tables) l_tables c_tables k_tables
  have b_tables := F_tables.binds (ps := ["self"]) fun _ _ _ _ _ _ us hl => match us, hl with | [_], _ => rfl
  have y_range := PySem.W.mg_none_of X G z_range
  have y_str := PySem.W.mg_none_of X G z_str
  have y_len := PySem.W.mg_none_of X G z_len
  have y_tuple := PySem.W.mg_none_of X G z_tuple
  have y_bool := PySem.W.mg_none_of X G z_bool
  have y_isinstance := PySem.W.mg_none_of X G z_isinstance
  have y_int := PySem.W.mg_none_of X G z_int
  have y_divmod := PySem.W.mg_none_of X G z_divmod
  have y_abs := PySem.W.mg_none_of X G z_abs
  have y_max := PySem.W.mg_none_of X G z_max
  have y_min := PySem.W.mg_none_of X G z_min
  have y_all := PySem.W.mg_none_of X G z_all
  have y_enumerate := PySem.W.mg_none_of X G z_enumerate
  have y_list := PySem.W.mg_none_of X G z_list
  have y_sum := PySem.W.mg_none_of X G z_sum
  have y_zip := PySem.W.mg_none_of X G z_zip
  have y_repr := PySem.W.mg_none_of X G z_repr
  have wMOST_MEETINGS := PySem.W.mg_of X G mMOST_MEETINGS
  have wMOST_SIDE := PySem.W.mg_of X G mMOST_SIDE
  have wMOST_BOUND := PySem.W.mg_of X G mMOST_BOUND
  have wMOST_TABLES := PySem.W.mg_of X G mMOST_TABLES
  have w_LONGEST_NAME := PySem.W.mg_of X G m_LONGEST_NAME
  have w_FIRST_SIGNS := PySem.W.mg_of X G m_FIRST_SIGNS
  have w_SIGNS := PySem.W.mg_of X G m_SIGNS
  have FI0 : FI K f_init _ := ⟨⟨_, _, _, _, _, _, _, _, _, _, rfl, l_init, c_init, .inr ⟨by simp, dT, _, [Value.none], nT, rfl, lT, rfl, .cons rfl .nil⟩, .inl rfl⟩, k_init⟩
  have cl : Cls K C := ⟨pg, hd, po, sa⟩
  have vC := PySem.W.mg_of X G aC
  have T : TxC K mg C := ⟨cl, nH, nG, nT_, nN, nX, vC, ha, hn, htk, hm, kC, kN, kI, kS, kT, kL, fC, fN, fI, fS, fT, fL, nB, ne, y_isinstance, y_str, y_len⟩
  have D : TxG K C p_hosts p_guests p_tables f_hosts f_guests f_tables := ⟨⟨a_hosts, g_hosts, t_hosts, _, r_hosts⟩, ⟨a_guests, g_guests, t_guests, _, r_guests⟩, ⟨a_tables, g_tables, t_tables, _, r_tables⟩⟩
  have M : Mk K C f_init := ⟨mk, a_init, i_init, kc⟩
  refine ⟨PySem.W.fnOf "law" "law" (defArgs s_law) (defBody s_law) (defScope s_law) .none kV_law dc_law pm_law an_law cd_law ct_law, fun s v => .of_eq rfl, fun base _ _ => ?_⟩
  have G_is_integer := ok_is_integer (P := l.prog) (w := w) (base := base) F_is_integer (mg := mg) ⟨y_isinstance, y_int, y_bool⟩
  have G_is_name := ok_is_name (P := l.prog) (w := w) (base := base) F_is_name (mg := mg) ⟨y_isinstance, y_str, y_len, y_all, ⟨_, w_LONGEST_NAME⟩, ⟨_, w_FIRST_SIGNS⟩, ⟨_, w_SIGNS⟩⟩
  have G_is_member := ok_is_member (P := l.prog) (w := w) (base := base) F_is_member (mg := mg) ⟨y_isinstance, y_tuple, y_len, ⟨_, wMOST_BOUND⟩, v_is_name, k_is_name, v_is_integer, k_is_integer⟩ G_is_name b_is_name G_is_integer b_is_integer
  have G_names_of := ok_names_of (P := l.prog) (w := w) (base := base) F_names_of (mg := mg) y_tuple
  have G_text_of := ok_text_of (P := l.prog) (w := w) (base := base) (mg := mg) F_text_of
  have G_fault := ok_fault (P := l.prog) (w := w) (base := base) F_fault (mg := mg) ⟨y_isinstance, y_tuple, y_list, y_enumerate, ⟨_, wMOST_SIDE⟩, v_is_member, k_is_member⟩ G_is_member b_is_member
  have G_init := ok_init (P := l.prog) (w := w) (base := base) FI0 (mg := mg) ⟨cl, nH, nG, nT_, nN, nX, ⟨_, wMOST_TABLES⟩, v_fault, k_fault, v_names_of, k_names_of, v_is_integer, k_is_integer, v_text_of, k_text_of⟩ G_fault b_fault G_names_of b_names_of G_is_integer b_is_integer G_text_of b_text_of
  have G_l_pour := ok_l_pour (P := l.prog) (w := w) (base := base) (K := K) F_l_pour (mg := mg) ⟨y_divmod, y_int⟩
  have G_l_jug := ok_l_jug (P := l.prog) (w := w) (base := base) (K := K) F_l_jug (mg := mg) ⟨y_len, y_int, y_abs⟩
  have G_l_word := ok_l_word (P := l.prog) (w := w) (base := base) F_l_word (mg := mg) ⟨y_range, v_l_pour, k_l_pour⟩ G_l_pour b_l_pour
  have G_l_words := ok_l_words (P := l.prog) (w := w) (base := base) F_l_words (mg := mg) ⟨y_range, y_str, v_l_word, k_l_word⟩ G_l_word b_l_word
  have G_l_parts := ok_l_parts (P := l.prog) (w := w) (base := base) F_l_parts (mg := mg) ⟨y_tuple, v_l_pour, k_l_pour, v_l_words, k_l_words⟩ G_l_pour b_l_pour G_l_words b_l_words
  have GG : GG3 l.prog w K mg base C f_hosts f_guests f_tables _ _ _ := ⟨ok_hosts F_hosts cl nH, ok_guests F_guests cl nG, ok_tables F_tables cl nT_, b_hosts, b_guests, b_tables⟩
  have G_is_row := ok_is_row (P := l.prog) (w := w) (base := base) F_is_row (mg := mg) ⟨y_isinstance, y_tuple, y_len, y_all, v_is_integer, k_is_integer⟩ G_is_integer b_is_integer
  have G_table_fault := ok_table_fault (P := l.prog) (w := w) (base := base) F_table_fault (mg := mg) ⟨y_isinstance, y_tuple, y_len, y_enumerate, v_is_row, k_is_row⟩ G_is_row b_is_row
  have G_lines_of := ok_lines_of (P := l.prog) (w := w) (base := base) (K := K) F_lines_of (mg := mg) ⟨y_sum, y_zip⟩
  have G_limits_of := ok_limits_of (P := l.prog) (w := w) (base := base) F_limits_of (mg := mg) T D GG
  have G_ceiling := ok_ceiling (P := l.prog) (w := w) (base := base) (K := K) (mg := mg) F_ceiling
  have G_check_fair := ok_check_fair (P := l.prog) (w := w) (base := base) (mg := mg) F_check_fair T
  have G_check_meetings := ok_check_meetings (P := l.prog) (w := w) (base := base) (mg := mg) F_check_meetings T D GG ⟨⟨_, wMOST_MEETINGS⟩, v_table_fault, k_table_fault⟩ G_table_fault b_table_fault
  have G_needs := ok_needs (P := l.prog) (w := w) (base := base) (mg := mg) (C := C) F_needs ⟨y_zip, v_lines_of, k_lines_of, v_limits_of, k_limits_of, v_ceiling, k_ceiling⟩ G_lines_of b_lines_of G_limits_of b_limits_of G_ceiling b_ceiling
  have G_least_rounds := ok_least_rounds (P := l.prog) (w := w) (base := base) (mg := mg) (C := C) F_least_rounds y_max v_needs k_needs G_needs b_needs
  have G_load := ok_load (P := l.prog) (w := w) (base := base) (mg := mg) (C := C) F_load ⟨v_check_fair, k_check_fair, v_check_meetings, k_check_meetings, v_least_rounds, k_least_rounds⟩ G_check_fair b_check_fair G_check_meetings b_check_meetings G_least_rounds b_least_rounds
  have G_l_number := ok_l_number (P := l.prog) (w := w) (base := base) (K := K) (mg := mg) F_l_number v_l_pour k_l_pour G_l_pour b_l_pour
  have G_l_grid := ok_l_grid (P := l.prog) (w := w) (base := base) (mg := mg) F_l_grid ⟨y_tuple, v_l_number, k_l_number⟩ G_l_number b_l_number
  have G_reasons := ok_reasons (P := l.prog) (w := w) (base := base) F_reasons (mg := mg) T D GG
  have G_binding := ok_binding (P := l.prog) (w := w) (base := base) (mg := mg) (C := C) F_binding ⟨y_max, v_check_fair, k_check_fair, v_check_meetings, k_check_meetings, v_needs, k_needs, v_reasons, k_reasons⟩ G_check_fair b_check_fair G_check_meetings b_check_meetings G_needs b_needs G_reasons b_reasons
  have G_l_in_rows := ok_l_in_rows (P := l.prog) (w := w) (base := base) (mg := mg) (K := K) F_l_in_rows y_sum y_list
  have G_l_flat := ok_l_flat (P := l.prog) (w := w) (base := base) (mg := mg) (K := K) F_l_flat
  have G_l_some := ok_l_some (P := l.prog) (w := w) (base := base) (mg := mg) (K := K) F_l_some ⟨y_int, v_l_pour, k_l_pour⟩ G_l_pour b_l_pour
  have G_l_alike := ok_l_alike (P := l.prog) (w := w) (base := base) (mg := mg) (K := K) F_l_alike y_range y_tuple
  have G_l_square_right := ok_l_square_right (P := l.prog) (w := w) (base := base) (mg := mg) (K := K) F_l_square_right vC ⟨y_tuple, v_l_pour, k_l_pour, v_l_some, k_l_some, v_l_alike, k_l_alike, v_load, k_load⟩ M FI0 G_init G_l_pour b_l_pour G_l_some b_l_some G_l_alike b_l_alike G_load b_load
  have G_l_right := ok_l_right (P := l.prog) (w := w) (base := base) F_l_right (mg := mg) vC ⟨y_sum, y_list, y_tuple, y_range, y_repr, v_l_words, k_l_words, v_l_parts, k_l_parts, v_l_grid, k_l_grid, v_l_pour, k_l_pour, v_l_in_rows, k_l_in_rows, v_l_flat, k_l_flat, v_l_some, k_l_some, v_l_square_right, k_l_square_right, v_load, k_load, v_binding, k_binding⟩ M FI0 G_init G_l_words b_l_words G_l_parts b_l_parts G_l_grid b_l_grid G_l_pour b_l_pour G_l_in_rows b_l_in_rows G_l_flat b_l_flat G_l_some b_l_some G_l_square_right b_l_square_right G_load b_load G_binding b_binding
  exact ok_law (P := l.prog) (w := w) (base := base) F_law (mg := mg) ⟨y_range, y_max, y_min, y_len, v_l_right, k_l_right, v_l_jug, k_l_jug⟩ G_l_right b_l_right G_l_jug b_l_jug
end F02
open PySem PySem.W PyProof.Rows in
set_option maxRecDepth 100000 in
set_option maxHeartbeats 0 in
theorem PySem.Challenge.cw_meetrounds_k11_known_loads_holds : PySem.Challenge.rw_meetrounds_k11_known_loads.Holds := by
  w_on; o_law; k_head; (case hw => w_witness2)
  k_fill
  refine TopG.walkG (l := PySem.Challenge.rw_meetrounds_k11_known_loads) (n := 63) (k := 9) (x := "_law_script") (sp := F02.sp_law) rfl (by decide) rfl ⟨rfl, by decide, by decide⟩ (fun w h Y => PySem.W.kIn_of Y) ?F (fun K H a ns hl hS => ⟨a, ns, rfl, hS, hl, fun _ => rfl⟩)
  case F =>
    intro w mg fa h KX G hmg
    refine' F02.all_mk KX G hmg ?aC ?a_is_integer ?l_is_integer ?c_is_integer ?k_is_integer ?a_is_name ?l_is_name ?c_is_name ?k_is_name ?a_is_member ?l_is_member ?c_is_member ?k_is_member ?a_fault ?l_fault ?c_fault ?k_fault ?a_names_of ?l_names_of ?c_names_of ?k_names_of ?a_text_of ?l_text_of ?c_text_of ?k_text_of ?a_is_row ?l_is_row ?c_is_row ?k_is_row ?a_table_fault ?l_table_fault ?c_table_fault ?k_table_fault ?a_lines_of ?l_lines_of ?c_lines_of ?k_lines_of ?a_limits_of ?l_limits_of ?c_limits_of ?k_limits_of ?a_ceiling ?l_ceiling ?c_ceiling ?k_ceiling ?a_reasons ?l_reasons ?c_reasons ?k_reasons ?a_check_fair ?l_check_fair ?c_check_fair ?k_check_fair ?a_check_meetings ?l_check_meetings ?c_check_meetings ?k_check_meetings ?a_needs ?l_needs ?c_needs ?k_needs ?a_least_rounds ?l_least_rounds ?c_least_rounds ?k_least_rounds ?a_load ?l_load ?c_load ?k_load ?a_binding ?l_binding ?c_binding ?k_binding ?a_l_jug ?l_l_jug ?c_l_jug ?k_l_jug ?a_l_pour ?l_l_pour ?c_l_pour ?k_l_pour ?a_l_word ?l_l_word ?c_l_word ?k_l_word ?a_l_words ?l_l_words ?c_l_words ?k_l_words ?a_l_parts ?l_l_parts ?c_l_parts ?k_l_parts ?a_l_number ?l_l_number ?c_l_number ?k_l_number ?a_l_grid ?l_l_grid ?c_l_grid ?k_l_grid ?a_l_in_rows ?l_l_in_rows ?c_l_in_rows ?k_l_in_rows ?a_l_flat ?l_l_flat ?c_l_flat ?k_l_flat ?a_l_some ?l_l_some ?c_l_some ?k_l_some ?a_l_alike ?l_l_alike ?c_l_alike ?k_l_alike ?a_l_square_right ?l_l_square_right ?c_l_square_right ?k_l_square_right ?a_l_right ?l_l_right ?c_l_right ?k_l_right ?a_law ?l_law ?c_law ?k_law ?lI ?lF ?a_init ?i_init ?l_init ?c_init ?k_init ?lT ?a_hosts ?g_hosts ?t_hosts ?r_hosts ?l_hosts ?c_hosts ?k_hosts ?a_guests ?g_guests ?t_guests ?r_guests ?l_guests ?c_guests ?k_guests ?a_tables ?g_tables ?t_tables ?r_tables ?l_tables ?c_tables ?k_tables ?pg ?hd ?po ?sa ?mk ?kc ?nH ?nG ?nT_ ?nN ?nX ?ha ?hn ?htk ?hm ?kC ?kN ?kI ?kS ?kT ?kL ?fC ?fN ?fI ?fS ?fT ?fL ?nB ?ne ?z_range ?z_str ?z_len ?z_tuple ?z_bool ?z_isinstance ?z_int ?z_divmod ?z_abs ?z_max ?z_min ?z_all ?z_enumerate ?z_list ?z_sum ?z_zip ?z_repr ?mMOST_MEETINGS ?mMOST_SIDE ?mMOST_BOUND ?mMOST_TABLES ?m_LONGEST_NAME ?m_FIRST_SIGNS ?m_SIGNS
    (case aC => k_is)
    (case a_is_integer => k_is)
    (case l_is_integer => k_is)
    (case c_is_integer => k_is)
    (case k_is_integer => k_is)
    (case a_is_name => k_is)
    (case l_is_name => k_is)
    (case c_is_name => k_is)
    (case k_is_name => k_is)
    (case a_is_member => k_is)
    (case l_is_member => k_is)
    (case c_is_member => k_is)
    (case k_is_member => k_is)
    (case a_fault => k_is)
    (case l_fault => k_is)
    (case c_fault => k_is)
    (case k_fault => k_is)
    (case a_names_of => k_is)
    (case l_names_of => k_is)
    (case c_names_of => k_is)
    (case k_names_of => k_is)
    (case a_text_of => k_is)
    (case l_text_of => k_is)
    (case c_text_of => k_is)
    (case k_text_of => k_is)
    (case a_is_row => k_is)
    (case l_is_row => k_is)
    (case c_is_row => k_is)
    (case k_is_row => k_is)
    (case a_table_fault => k_is)
    (case l_table_fault => k_is)
    (case c_table_fault => k_is)
    (case k_table_fault => k_is)
    (case a_lines_of => k_is)
    (case l_lines_of => k_is)
    (case c_lines_of => k_is)
    (case k_lines_of => k_is)
    (case a_limits_of => k_is)
    (case l_limits_of => k_is)
    (case c_limits_of => k_is)
    (case k_limits_of => k_is)
    (case a_ceiling => k_is)
    (case l_ceiling => k_is)
    (case c_ceiling => k_is)
    (case k_ceiling => k_is)
    (case a_reasons => k_is)
    (case l_reasons => k_is)
    (case c_reasons => k_is)
    (case k_reasons => k_is)
    (case a_check_fair => k_is)
    (case l_check_fair => k_is)
    (case c_check_fair => k_is)
    (case k_check_fair => k_is)
    (case a_check_meetings => k_is)
    (case l_check_meetings => k_is)
    (case c_check_meetings => k_is)
    (case k_check_meetings => k_is)
    (case a_needs => k_is)
    (case l_needs => k_is)
    (case c_needs => k_is)
    (case k_needs => k_is)
    (case a_least_rounds => k_is)
    (case l_least_rounds => k_is)
    (case c_least_rounds => k_is)
    (case k_least_rounds => k_is)
    (case a_load => k_is)
    (case l_load => k_is)
    (case c_load => k_is)
    (case k_load => k_is)
    (case a_binding => k_is)
    (case l_binding => k_is)
    (case c_binding => k_is)
    (case k_binding => k_is)
    (case a_l_jug => k_is)
    (case l_l_jug => k_is)
    (case c_l_jug => k_is)
    (case k_l_jug => k_is)
    (case a_l_pour => k_is)
    (case l_l_pour => k_is)
    (case c_l_pour => k_is)
    (case k_l_pour => k_is)
    (case a_l_word => k_is)
    (case l_l_word => k_is)
    (case c_l_word => k_is)
    (case k_l_word => k_is)
    (case a_l_words => k_is)
    (case l_l_words => k_is)
    (case c_l_words => k_is)
    (case k_l_words => k_is)
    (case a_l_parts => k_is)
    (case l_l_parts => k_is)
    (case c_l_parts => k_is)
    (case k_l_parts => k_is)
    (case a_l_number => k_is)
    (case l_l_number => k_is)
    (case c_l_number => k_is)
    (case k_l_number => k_is)
    (case a_l_grid => k_is)
    (case l_l_grid => k_is)
    (case c_l_grid => k_is)
    (case k_l_grid => k_is)
    (case a_l_in_rows => k_is)
    (case l_l_in_rows => k_is)
    (case c_l_in_rows => k_is)
    (case k_l_in_rows => k_is)
    (case a_l_flat => k_is)
    (case l_l_flat => k_is)
    (case c_l_flat => k_is)
    (case k_l_flat => k_is)
    (case a_l_some => k_is)
    (case l_l_some => k_is)
    (case c_l_some => k_is)
    (case k_l_some => k_is)
    (case a_l_alike => k_is)
    (case l_l_alike => k_is)
    (case c_l_alike => k_is)
    (case k_l_alike => k_is)
    (case a_l_square_right => k_is)
    (case l_l_square_right => k_is)
    (case c_l_square_right => k_is)
    (case k_l_square_right => k_is)
    (case a_l_right => k_is)
    (case l_l_right => k_is)
    (case c_l_right => k_is)
    (case k_l_right => k_is)
    (case a_law => k_is)
    (case l_law => k_is)
    (case c_law => k_is)
    (case k_law => k_is)
    (case lI => k_is)
    (case lF => k_is)
    (case a_init => k_is)
    (case i_init => k_is)
    (case l_init => k_is)
    (case c_init => k_is)
    (case k_init => k_is)
    (case lT => k_is)
    (case a_hosts => k_is)
    (case g_hosts => k_is)
    (case t_hosts => k_is)
    (case r_hosts => k_is)
    (case l_hosts => k_is)
    (case c_hosts => k_is)
    (case k_hosts => k_is)
    (case a_guests => k_is)
    (case g_guests => k_is)
    (case t_guests => k_is)
    (case r_guests => k_is)
    (case l_guests => k_is)
    (case c_guests => k_is)
    (case k_guests => k_is)
    (case a_tables => k_is)
    (case g_tables => k_is)
    (case t_tables => k_is)
    (case r_tables => k_is)
    (case l_tables => k_is)
    (case c_tables => k_is)
    (case k_tables => k_is)
    (case pg => k_is)
    (case hd => k_is)
    (case po => k_is)
    (case sa => k_is)
    (case mk => k_is)
    (case kc => k_is)
    (case nH => k_is)
    (case nG => k_is)
    (case nT_ => k_is)
    (case nN => k_is)
    (case nX => k_is)
    (case ha => k_is)
    (case hn => k_is)
    (case htk => k_is)
    (case hm => k_is)
    (case kC => kit_is)
    (case kN => kit_is)
    (case kI => kit_is)
    (case kS => kit_is)
    (case kT => kit_is)
    (case kL => kit_is)
    (case fC => k_is)
    (case fN => k_is)
    (case fI => k_is)
    (case fS => k_is)
    (case fT => k_is)
    (case fL => k_is)
    (case nB => k_is)
    (case ne => k_is)
    (case z_range => k_is)
    (case z_str => k_is)
    (case z_len => k_is)
    (case z_tuple => k_is)
    (case z_bool => k_is)
    (case z_isinstance => k_is)
    (case z_int => k_is)
    (case z_divmod => k_is)
    (case z_abs => k_is)
    (case z_max => k_is)
    (case z_min => k_is)
    (case z_all => k_is)
    (case z_enumerate => k_is)
    (case z_list => k_is)
    (case z_sum => k_is)
    (case z_zip => k_is)
    (case z_repr => k_is)
    (case mMOST_MEETINGS => k_is)
    (case mMOST_SIDE => k_is)
    (case mMOST_BOUND => k_is)
    (case mMOST_TABLES => k_is)
    (case m_LONGEST_NAME => k_is)
    (case m_FIRST_SIGNS => k_is)
    (case m_SIGNS => k_is)
