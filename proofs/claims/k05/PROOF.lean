import PyProof.Rows.All
import Wide.All
import OpenK.AllK
import Wide.FinOn
import PyProof.EqAt
import PyProof.EqKinds
import PyProof.TupleCall
import PyProof.ReprRoads
import HandS.Base
import HandS.Call
import HandS.List
import HandS.Comp
import HandS.Ends
import HandS.Dict
import HandS.Iter
import HandS.Text
import HandS.Words
import HandS.WordsList
import HandS.Wide
import HandS.WideBits
import PySem.Challenge.RW_meetrounds_k05_whole_fairs_by_their_text
import HandS.IsInst
import HandS.FStr
import HandS.RaiseMore
import HandS.Walk
import HandS.Defaults
import KE.GoesMore
import HandS.DictSub
import KE.KCallOwn
import PyProof.InstEq
import HandS.Property
import HandS.MakeKwOnly
import HandS.MakeKw
import PyProof.ReprBulk
import PyProof.ReprReads
import HandS.DictComp
import HandS.ClsMeth
import OpenK.KMore
import KE.RegKIsAll
set_option Elab.async false
set_option linter.all false
set_option maxRecDepth 100000
set_option maxHeartbeats 4000000
namespace MG
open PySem PySem.Spec PyProof.Rows L2

/-- a def's promise where no builtin of the printing kind is under way around the call -/
structure FnG (P : Program) (w : World) (K : PySem.W.Frag) (mg : Str → Option Value) (base : Heap) (CX : CXT)
    (k : Nat) (f : Addr) (fd : FuncData) (ps : List Str) (sp : Sp) : Prop where
  len : ∀ vs H Q E, sp vs H Q E → vs.length = ps.length
  run : ∀ (A : Around) (outer : List Env) (s : Shared) (H : Hp) (args : Args) (us : List Value)
    (vs : List V) (Q : VK) (E : XK), A.guards = some [] → Room k A → Env0 P w K mg base A outer s H →
    BindsTo s fd args (ps.zip us) → Vals vs us → sp vs H Q E →
    codeAny (model P w) A (.call (.ref f) args) (CR CX outer P w H s Q E) s

section
variable {P : Program} {w : World} {K : PySem.W.Frag} {mg : Str → Option Value} {base : Heap}

theorem FnG.of {CX : CXT} {k : Nat} {f : Addr} {fd : FuncData} {ps : List Str} {sp : Sp}
    (F : FnOk P w K mg base CX k f fd ps sp) : FnG P w K mg base CX k f fd ps sp where
  len := F.len
  run := fun A outer s H args us vs Q E _ => F.run A outer s H args us vs Q E

/-- the body of a def at one place where it is called -/
theorem body_atC {CX : CXT} {x qual : Str} {st : Stmt} {f : Addr} {fd : FuncData} {N ps : List Str}
    {A : Around} {outer : List Env} {s : Shared} {H : Hp} {args : Args} {us : List Value}
    {vs : List V} {Q : VK} {E : XK} {k : Nat}
    (F : Fun K x qual st f fd) (S : FnScope N ps (defScope st)) (hl : vs.length = ps.length)
    (hr : Room (k + 1) A) (e0 : Env0 P w K mg base A outer s H) (hb : BindsTo s fd args (ps.zip us))
    (r : Vals vs us)
    (hbody : ∀ cdv : Value, fd.code = cdv → ∃ t,
      PSs (cxOf CX P w K mg base N qual (defScope st) f cdv A outer s H E) (defBody st) t ∧
      t { nx := fun _ H' => Q .non H', rt := Q } (start N vs) H) :
    codeAny (model P w) A (.call (.ref f) args) (CR CX outer P w H s Q E) s := by
  obtain ⟨oc, od, kV, doc, pm, an, cdv, ct, osl, rfl, lk, hcd⟩ := F.ex
  have KX : K.In s.heap := e0.mod.kin.keeps (fun b o e => (e0.bs b o e).1)
  have lim : s.heap.NoLimit := e0.mod.nolimit.keeps (fun b o e => (e0.bs b o e).1)
  have hkind : ∀ y ∈ ps.zip us, (defScope st).names.lookup y.1 = some .local ∨
      ((defScope st).names.lookup y.1 = some .cell ∧
        ((cellsFrom (s.heap.objs.size + 1) (defScope st).names []).lookup y.1).isSome = true) := by
    rintro ⟨n, v⟩ hy
    cases S.par n (List.of_mem_zip hy).1 with
    | inl q => exact Or.inl q
    | inr q => exact Or.inr ⟨q, PySem.W.cellsFrom_some _ _ _ (Or.inl q)⟩
  refine codeAny_call_function hr.depth (KX _ _ lk) rfl S.co S.gen rfl
    (PySem.W.codeRec_of KX hcd) (hb _ _ _ _ ?_)
  refine wpAny_newFunctionEnv_cells S.kind hkind (fun env he s1 x => ?_)
  subst he
  refine ⟨lim.keeps x.toInCall.keep, codeAny_func ?_⟩
  obtain ⟨t, ht, hq⟩ := hbody cdv rfl
  have I := inv_start (CX := CX) (E := E) S hr.hd e0 hl r x
  refine wpAny_mono (ht.run [] s1 (start N vs) H _ I hq) (fun fl s' hs => ?_) (fun e s' hs => hs)
  cases fl with
  | next =>
    obtain ⟨σ', H', J, q⟩ := hs
    exact ⟨V.non, H', J.os, J.bare, J.base, J.hok, rfl, q⟩
  | ret u =>
    obtain ⟨v, σ', H', J, rv, q⟩ := hs
    exact ⟨v, H', J.os, J.bare, J.base, J.hok, rv, q⟩
  | brk => obtain ⟨_, _, _, q⟩ := hs; exact q.elim
  | cont => obtain ⟨_, _, _, q⟩ := hs; exact q.elim

/-- .. whatever its code object is -/
theorem body_at {CX : CXT} {x qual : Str} {st : Stmt} {f : Addr} {fd : FuncData} {N ps : List Str}
    {A : Around} {outer : List Env} {s : Shared} {H : Hp} {args : Args} {us : List Value}
    {vs : List V} {Q : VK} {E : XK} {k : Nat}
    (F : Fun K x qual st f fd) (S : FnScope N ps (defScope st)) (hl : vs.length = ps.length)
    (hr : Room (k + 1) A) (e0 : Env0 P w K mg base A outer s H) (hb : BindsTo s fd args (ps.zip us))
    (r : Vals vs us)
    (hbody : ∀ cdv : Value, ∃ t,
      PSs (cxOf CX P w K mg base N qual (defScope st) f cdv A outer s H E) (defBody st) t ∧
      t { nx := fun _ H' => Q .non H', rt := Q } (start N vs) H) :
    codeAny (model P w) A (.call (.ref f) args) (CR CX outer P w H s Q E) s :=
  body_atC F S hl hr e0 hb r fun cdv _ => hbody cdv

/-- a def of the text that lets nothing out, by its body -/
theorem okG {x qual : Str} {st : Stmt} {f : Addr} {fd : FuncData} {N ps : List Str} {k : Nat} {sp : Sp}
    (F : Fun K x qual st f fd) (S : FnScope N ps (defScope st))
    (len : ∀ vs H Q E, sp vs H Q E → vs.length = ps.length)
    (hbody : ∀ (cdv : Value) (A : Around) (outer : List Env) (s : Shared) (H : Hp) (vs : List V)
      (Q : VK) (E : XK), A.guards = some [] →
      Room k (A.deeper (envOfC qual (defScope st) s.heap.objs.size f cdv)) → sp vs H Q E →
      ∃ t, PSs (cxOf CX0 P w K mg base N qual (defScope st) f cdv A outer s H E).nox (defBody st) t ∧
        t { nx := fun _ H' => Q .non H', rt := Q } (start N vs) H) :
    FnG P w K mg base CX0 (k + 1) f fd ps sp := by
  refine ⟨len, fun A outer s H args us vs Q E hg hr e0 hb r hsp => ?_⟩
  refine body_at F S (len _ _ _ _ hsp) hr e0 hb r (fun cdv => ?_)
  obtain ⟨t, h, q⟩ := hbody cdv A outer s H vs Q E hg (hr.deeper _) hsp
  exact ⟨t, h.nox, q⟩
end

section
variable {X : Cx} {CX : CXT} {k : Nat} {f : Addr} {fd : FuncData} {ps : List Str} {sp : Sp}
  {dvs : List V} {ds : List Value} {E : XK}

theorem run_fnG {pins : List (Addr × Obj)} {σ : L2.St} {H : Hp} {s : Shared} {Q : VK} {us : List Value}
    {vs : List V} (F : FnG X.prog X.w X.K X.mg X.base CX k f fd ps sp) (hg : X.A.guards = some [])
    (hr : Room k X.A) (hb : Binds X.K fd ps ds) (hd : Vals dvs ds) (hx : Passes CX X E)
    (I : Inv X pins σ H s) (r : Vals vs us) (h : sp (vs ++ dvs) H Q E) :
    wpAny (model X.prog X.w) X.A (call (.ref f) us) (EP X pins σ Q) X.xe s := by
  have r2 : Vals (vs ++ dvs) (us ++ ds) := r.append hd
  have hl : (us ++ ds).length = ps.length := r2.length ▸ F.len _ _ _ _ h
  have step := F.run X.A X.stack s H ⟨us, []⟩ (us ++ ds) (vs ++ dvs) Q E hg hr I.env0
    (hb s us I.kIn hl) r2 h
  refine wpAny_call (codeAny_mono step (fun res s' hq => ?_))
  match res, hq with
  | .error e, hq => exact hx pins σ H s e s' I hq
  | .ok (.ret u), hq => exact I.after hq

/-- f(e, ..) -/
theorem pe_callG {x : Str} {p pos : Pos} {e : Expr} {es : List Expr} {t : TA}
    (F : FnG X.prog X.w X.K X.mg X.base CX k f fd ps sp) (hgd : X.A.guards = some [])
    (hr : Room k X.A) (hg : Gl X x) (hm : X.mg x = some (.ref f))
    (hk : PySem.W.keepIn X.K (.ref f) = true) (hb : Binds X.K fd ps ds) (hd : Vals dvs ds)
    (hx : Passes CX X E) (ha : PA X (e :: es) t) (hdb : (x == ("__debug__" : Str)) = false := by decide)
    (he : starEach (e :: es) X.env = (false, eval e X.env) :: starEach es X.env := by rfl)
    (hpl : (backTo pos (starEach es X.env)).any (·.1) = false := by rfl) :
    PE X (.Call (.Name x p) (e :: es) [] pos) (tCall sp dvs E t) := by
  constructor
  intro pins s σ H Q I h
  refine wpAny_Call_Name_kw (ld_glob I hg hm ?_ hdb)
  refine PySem.W.callWith_K (h₀ := X.base) I.ok.mod.kin hk (thn (ha.run pos pins s σ H _ I h)
    (fun us s1 hh => ?_)) he hpl
  obtain ⟨vs, H1, I1, r, q⟩ := hh
  exact ⟨I1.kIn, run_fnG F hgd hr hb hd hx I1 r q⟩

/-- repr(x), x data of nothing but None, bools, ints, texts, lists, tuples -/
def rRepr (K : PySem.W.Frag) : List V → Hp → VK → Prop := fun xs H Q => ∃ x d, xs = [x] ∧ Dp K H x d ∧
  d.showable = true ∧ d.hasDict = false ∧ d.depth ≤ 60 ∧ d.shown.length ≤ 16777216 ∧ Q (.str d.shown) H
theorem call_repr (hgd : X.A.guards = some []) (hr : Room k X.A) : CallR X (.builtin "repr") (rRepr X.K) := by
  intro pins s σ H vs us Q I r h
  obtain ⟨x, d, rfl, hd, hs, hn, hp, hz, q⟩ := h
  cases r with
  | cons rx rn =>
    cases rn
    rename_i u
    obtain ⟨as, rd⟩ := Dp.reads I d x u hd rx
    have hun := hr.un
    cases rd with
    | list h1 h2 h3 h4 =>
      refine repr_of_reads' (.list h1 h2 h3 h4) hs (fun z => by rw [hn] at z; cases z) hgd (by omega) (fun _ _ e => e) (fun h' tk tk' keep => ?_) (by rw [sizeLine_eq]; exact hz)
      exact ⟨.str _, H, I.kept keep, ⟨_, rfl⟩, q⟩
    | tuple h1 h2 h3 h4 =>
      refine repr_of_reads' (.tuple h1 h2 h3 h4) hs (fun z => by rw [hn] at z; cases z) hgd (by omega) (fun _ _ e => e) (fun h' tk tk' keep => ?_) (by rw [sizeLine_eq]; exact hz)
      exact ⟨.str _, H, I.kept keep, ⟨_, rfl⟩, q⟩
    | none => exact P.repr_of_none ⟨.str "None", H, I.tok _, ⟨_, rfl⟩, q⟩
    | bool b => exact P.repr_of_bool ⟨.str (if b then "True" else "False"), H, I.tok _, ⟨_, rfl⟩, q⟩
    | int i t =>
      have hb : i.natAbs.log2 < 1920 := of_decide_eq_true hs
      exact P.repr_of_int hb ⟨.str (toString i), H, I.tok _, ⟨_, rfl⟩, q⟩
    | str y t => exact P.repr_of_str (by exact ⟨.str (reprText y), H, I.tok _, ⟨_, rfl⟩, q⟩) (by rw [sizeLine_eq]; exact hz)
    | dict _ _ _ _ _ => cases hn
end
end MG
namespace F02
open PySem PySem.Spec PyProof.Rows L2 MG
def top (i : Nat) : Stmt := PySem.Challenge.pw_meetrounds_k05_whole_fairs_by_their_text.main.body.getD i (.Pass ⟨0, 0, 0, 0⟩)

/-! ### heaps -/
def But (p : Addr) (H H' : Hp) : Prop := ∀ b o, b ≠ p → H b = some o → H' b = some o
theorem But.refl {p : Addr} {H : Hp} : But p H H := fun _ _ _ h => h
theorem But.trans {p : Addr} {H H1 H2 : Hp} (a : But p H H1) (b : But p H1 H2) : But p H H2 := fun c o n h => b c o n (a c o n h)
theorem But.own {p : Addr} {H H1 : Hp} {o : HO} (a : But p H H1) : But p H (upd H1 p o) := fun c u n h => by
  rw [upd_ne n]; exact a c u n h
theorem But.new {p q : Addr} {H H1 : Hp} {o : HO} (a : But p H H1) (h : H1 q = none) : But p H (upd H1 q o) := fun c u n e => by
  rw [upd_ne (ne_of_none (a c u n e) h)]; exact a c u n e
def Jug (H : Hp) (p : Addr) (N : Nat) : Prop := ∃ a b c : Int, H p = some (.lst [.int a, .int b, .int c]) ∧ 0 ≤ a ∧ 0 ≤ b ∧ b < 9223372036854775783 ∧ 0 ≤ c ∧ c ≤ (N : Int)

section
variable {P : Program} {w : World} {K : PySem.W.Frag} {mg : Str → Option Value} {base : Heap}
abbrev s_l_pour : Stmt := top 26
theorem sc_l_pour : FnScope ["_law_jug_here", "_law_many", "_law_digit", "_law_mixed"] ["_law_jug_here", "_law_many"] (defScope s_l_pour) := ⟨rfl, rfl, rfl, by decide +kernel, rfl, by decide +kernel, by decide +kernel⟩
theorem lg16 {m : Int} (h1 : 1 ≤ m) (h2 : m < 10000000000000000) : m.natAbs.log2 < 9000 := Nat.lt_trans ((Nat.log2_lt (by omega)).mpr (show m.natAbs < 2 ^ 64 by omega)) (by decide)
/-- a number below m; the jug is one draw further -/
def sp_l_pour : Sp := fun vs H Q _ => ∃ (p : Addr) (m : Int) (N : Nat), vs = [.ref p, .int m] ∧ Jug H p N ∧ N < 1000000 ∧ 1 ≤ m ∧ m < 10000000000000000 ∧
  ∀ (r : Int) (H' : Hp), 0 ≤ r → r < m → But p H H' → Jug H' p (N + 1) → Q (.int r) H'
structure TxP (mg : Str → Option Value) : Prop where
  n_divmod : mg "divmod" = none
  n_int : mg "int" = none
theorem ok_l_pour {f : Addr} {fd : FuncData} (F : Fun K "_law_pour" "_law_pour" s_l_pour f fd) (T : TxP mg) : FnOk P w K mg base CX0 1 f fd ["_law_jug_here", "_law_many"] sp_l_pour := by
  refine F.ok sc_l_pour (fun vs H Q E h => ?_) (fun cdv A outer s H vs Q E hr h => ?_)
  · obtain ⟨p, m, N, rfl, _⟩ := h
    rfl
  · obtain ⟨p, m, N, rfl, ⟨a, b, c, hp, ha, hb0, hb1, hc0, hc1⟩, hN, m1, m2, k⟩ := h
    refine ⟨_, (pss_cons (ps_if (pt_cmpR op_gt (pe_ix ix_list (pv 0) pe_int (fun _ _ => rfl)) pe_int (nomark _))
        (pss_cons (ps_asg (pe_callB call_divmodW (by rfl) T.n_divmod (by decide +kernel) (pa_cons (pe_ix ix_list (pv 0) pe_int (fun _ _ => rfl)) (pa_cons (pv 1) pa_nil))) (pg_tup rfl (pgs_cons (pg_sub (pv 0) pe_int set_list) (pgs_cons (pg_name (i := 2) sc_l_pour.nd rfl (Or.inl rfl)) pgs_nil))))
      (pss_one (ps_ret (pv 2))))
        pss_nil)
      (pss_cons (ps_asg (pe_op op_add (pe_ix ix_list (pv 0) pe_int (fun _ _ => rfl)) pe_int) (pg_sub (pv 0) pe_int set_list))
      (pss_cons (ps_set (i := 3) sc_l_pour.nd rfl (Or.inl rfl) (pe_op op_add (pe_op op_mul (pe_ix ix_list (pv 0) pe_int (fun _ _ => rfl)) pe_int) (pe_op op_mul (pe_op op_mul pe_int (pe_ix ix_list (pv 0) pe_int (fun _ _ => rfl))) (pe_ix ix_list (pv 0) pe_int (fun _ _ => rfl)))))
      (pss_cons (ps_asg (pe_op op_mod (pe_callTy call_int1 (by rfl) T.n_int (by decide +kernel) (pa_cons (pe_op op_add (pv 3) pe_int) pa_nil)) pe_int) (pg_sub (pv 0) pe_int set_list))
      (pss_one (ps_ret (pe_op op_mod (pe_callTy call_int1 (by rfl) T.n_int (by decide +kernel) (pa_cons (pe_op op_fdiv (pe_ix ix_list (pv 0) pe_int (fun _ _ => rfl)) pe_int) pa_nil)) (pv 1)))))))), ?_⟩
    refine ⟨_, rfl, p, _, _, _, rfl, rfl, SqL.of hp, rfl, _, _, rfl, rfl, _, rfl, ?_⟩
    refine ite2 (fun h0 => ?_) (fun h0 => ?_)
    · have ha' : 0 < a := of_decide_eq_true h0
      refine ⟨_, rfl, p, _, _, _, rfl, rfl, SqL.of hp, rfl, _, rfl, _, _, rfl, ⟨by omega, PyProof.noPylong_of_log2 (lg16 m1 m2)⟩, fun t ht => ?_⟩
      have np : p ≠ t := ne_of_none hp ht
      refine ⟨t, _, rfl, SqT.of upd_same, rfl, _, _, rfl, _, rfl, p, _, 0, 0, rfl, rfl, (upd_ne np).trans hp, rfl, _, _, rfl, rfl, _, rfl, ?_⟩
      refine k _ _ (Int.emod_nonneg _ (by omega)) (Int.emod_lt_of_pos _ (by omega)) (But.own (But.new But.refl ht)) ⟨_, b, c, upd_same, Int.ediv_nonneg ha (by omega), hb0, hb1, hc0, by omega⟩
    · refine ⟨_, rfl, p, _, _, _, rfl, rfl, SqL.of hp, rfl, _, _, rfl, rfl, _, rfl, p, _, 2, 2, rfl, rfl, hp, rfl, ?_⟩
      have h1 : (upd H p (.lst [.int a, .int b, .int (c + 1)])) p = some (.lst [.int a, .int b, .int (c + 1)]) := upd_same
      refine ⟨_, rfl, p, _, _, _, rfl, rfl, SqL.of h1, rfl, _, _, rfl, rfl, .inl ⟨by omega, by omega⟩, _, rfl, p, _, _, _, rfl, rfl, SqL.of h1, rfl, _, _, rfl, rfl, .inl ⟨by omega, by omega⟩,
        _, rfl, p, _, _, _, rfl, rfl, SqL.of h1, rfl, _, _, rfl, rfl, .inr ⟨by omega, by omega⟩, _, _, rfl, rfl, ?_⟩
      refine ⟨_, rfl, _, _, rfl, rfl, (.inl ⟨_, rfl, _, _, rfl, rfl, (show (0 : Int) < 9223372036854775783 by decide), _, rfl, p, _, 1, 1, rfl, rfl, h1, rfl, ?_⟩)⟩
      refine ⟨_, rfl, p, _, _, _, rfl, rfl, SqL.of upd_same, rfl, _, _, rfl, rfl, ⟨by decide, by decide⟩, .inl ⟨_, rfl, _, rfl, _, _, rfl, rfl, (show (0 : Int) < m by omega), ?_⟩⟩
      refine k _ _ (Int.emod_nonneg _ (by omega)) (Int.emod_lt_of_pos _ (by omega)) (But.own (But.own But.refl)) ⟨a, _, c + 1, upd_same, ha, Int.emod_nonneg _ (by decide), Int.emod_lt_of_pos _ (by decide), by omega, by omega⟩

theorem if_true_of {b : Bool} {A B : Prop} (h : b = true) (x : A) : if b = true then A else B := by
  rw [if_pos h]; exact x
theorem if_false_of {b : Bool} {A B : Prop} (h : b = false) (x : B) : if b = true then A else B := by
  rw [h, if_neg Bool.false_ne_true]; exact x
theorem seq_set {te : TE} {i : Nat} {ts : TS} {D : Ends} {σ : L2.St} {H : Hp} (P : V → Prop) (hv : ∃ v, P v ∧ ∀ Q' : VK, Q' v H → te σ H Q') (k : ∀ v, P v → ts D (σ.set i (some v)) H) : tSeq (tAsg te (gName i)) ts D σ H := by
  obtain ⟨v, p, h⟩ := hv
  exact h _ (k v p)
theorem same_new {H H1 : Hp} {q : Addr} {o : HO} (a : Same H H1) (h : H1 q = none) : Same H (upd H1 q o) := fun c u e => by
  rw [upd_ne (ne_of_none (a c u e) h)]; exact a c u e
abbrev s_l_jug : Stmt := top 25
theorem sc_l_jug : FnScope ["_law_script", "_law_at", "_law_own", "_law_mixed", "_law_each"] ["_law_script", "_law_at"] (defScope s_l_jug) := ⟨rfl, rfl, rfl, by decide +kernel, rfl, by decide +kernel, by decide +kernel⟩
def sp_l_jug (K : PySem.W.Frag) : Sp := fun vs H Q _ => ∃ (a : Addr) (ns : List Int) (i : Int), vs = [.ref a, .int i] ∧ SqL K H a (ns.map V.int) ∧ ns.length ≤ 63 ∧ 0 ≤ i ∧ i ≤ 62 ∧
  ∀ (p : Addr) (H' : Hp), Same H H' → H p = none → Jug H' p 0 → Q (.ref p) H'
structure TxJ (mg : Str → Option Value) : Prop where
  n_len : mg "len" = none
  n_int : mg "int" = none
  n_abs : mg "abs" = none
theorem getI {ns : List Int} {i : Int} (h0 : 0 ≤ i) (h : i < (ns.length : Int)) : ∃ z : Int, atI (ns.map V.int) i = some (.int z) := by
  have hk : i.toNat < ns.length := by omega
  refine ⟨ns[i.toNat], ?_⟩
  unfold atI ixN
  rw [if_pos h0, List.length_map, if_pos h]
  show (ns.map V.int)[i.toNat]? = _
  rw [List.getElem?_map, List.getElem?_eq_getElem hk] <;> rfl
theorem ok_l_jug {f : Addr} {fd : FuncData} (F : Fun K "_law_jug" "_law_jug" s_l_jug f fd) (T : TxJ mg) : FnOk P w K mg base CX0 1 f fd ["_law_script", "_law_at"] (sp_l_jug K) := by
  refine F.ok sc_l_jug (fun vs H Q E h => ?_) (fun cdv A outer s H vs Q E hr h => ?_)
  · obtain ⟨a, ns, i, rfl, _⟩ := h
    rfl
  · obtain ⟨a, ns, i, rfl, hS, hlen, i0, i1, k⟩ := h
    refine ⟨_, (pss_cons (ps_set (i := 2) sc_l_jug.nd rfl (Or.inl rfl) (pe_ifExp (pt_cmpR op_lt (pv 1) (pe_callB call_len_seq (by rfl) T.n_len PySem.boot_len (pa_cons (pv 0) pa_nil)) (nomark _)) (pe_ix ix_list (pv 0) (pv 1) (fun _ _ => rfl)) (pe_op op_add pe_int (pv 1))))
      (pss_cons (ps_set (i := 3) sc_l_jug.nd rfl (Or.inl rfl) (pe_op op_mul pe_int (pe_op op_add (pv 1) pe_int)))
      (pss_cons (ps_for PassesOwn.never rfl (pi_list (pe_op op_cat (pe_slice sl_list (pv 0) po_none (po_some pe_int)) (pe_lst (pa_cons (pv 2) pa_nil)))) (pg_name (i := 4) sc_l_jug.nd rfl (Or.inl rfl))
        (pss_cons (ps_set (i := 3) sc_l_jug.nd rfl (Or.inl rfl) (pe_op op_add (pe_op op_mul (pv 3) pe_int) (pe_op op_mod (pe_callTy call_int1 (by rfl) T.n_int (by decide +kernel) (pa_cons (pv 4) pa_nil)) pe_int)))
      (pss_one (ps_set (i := 3) sc_l_jug.nd rfl (Or.inl rfl) (pe_op op_mod (pe_callTy call_int1 (by rfl) T.n_int (by decide +kernel) (pa_cons (pe_op op_add (pv 3) pe_int) pa_nil)) pe_int)))))
      (pss_one (ps_ret (pe_lst (pa_cons (pe_ifExp (pt_cmpR op_ge (pe_callB call_abs (by rfl) T.n_abs (by decide +kernel) (pa_cons (pv 2) pa_nil)) (pe_op op_pow pe_int pe_int) (nomark _)) (pe_callB call_abs (by rfl) T.n_abs (by decide +kernel) (pa_cons (pv 2) pa_nil)) pe_int) (pa_cons (pv 3) (pa_cons pe_int pa_nil))))))))), ?_⟩
    refine seq_set (fun v => ∃ z : Int, v = .int z) ?_ ?_
    · by_cases c : i < (ns.length : Int)
      · obtain ⟨z, hz⟩ := getI i0 c
        refine ⟨_, ⟨z, rfl⟩, fun Q' q => ⟨_, rfl, _, rfl, a, _, rfl, .inl hS, _, _, rfl, rfl, _, rfl, ?_⟩⟩
        rw [List.length_map]
        refine if_true_of (decide_eq_true c) ?_
        exact ⟨_, rfl, _, rfl, a, _, i, _, rfl, rfl, hS, hz, q⟩
      · refine ⟨_, ⟨40 + i, rfl⟩, fun Q' q => ⟨_, rfl, _, rfl, a, _, rfl, .inl hS, _, _, rfl, rfl, _, rfl, ?_⟩⟩
        rw [List.length_map]
        refine if_false_of (decide_eq_false c) ?_
        exact ⟨_, rfl, _, _, rfl, rfl, q⟩
    rintro _ ⟨own, rfl⟩
    refine ⟨_, rfl, _, _, rfl, rfl, _, _, rfl, rfl, .inl ⟨by decide, by decide⟩, ?_⟩
    refine ⟨_, rfl, 3, rfl, a, _, rfl, hS, fun q1 n1 => ?_⟩
    have s1 : Same H (upd H q1 (.lst (cutV (ns.map V.int) none (some 3)))) := same_new (Same.refl H) n1
    refine ⟨_, rfl, (by show 1 ≤ sizeLine; decide), fun q2 n2 => ?_⟩
    have s2 := same_new (o := .lst [V.int own]) s1 n2
    have h1 : (upd (upd H q1 (.lst (cutV (ns.map V.int) none (some 3)))) q2 (.lst [V.int own])) q1 = some (.lst (cutV (ns.map V.int) none (some 3))) := (upd_ne (ne_of_none upd_same n2)).trans upd_same
    have hlc : (cutV (ns.map V.int) none (some 3)).length ≤ 63 := by
      unfold cutV
      rw [List.length_take, List.length_drop, List.length_map]
      omega
    refine ⟨q1, q2, _, _, rfl, rfl, h1, upd_same, Nat.le_trans (Nat.add_le_add_right hlc 1) (by decide), fun q3 n3 => ?_⟩
    have s3 := same_new (o := .lst (cutV (ns.map V.int) none (some 3) ++ [V.int own])) s2 n3
    have all : ∀ (j : Nat) (y : V), (cutV (ns.map V.int) none (some 3) ++ [V.int own])[j]? = some y → ∃ z : Int, y = .int z := by
      intro j y e
      have m := List.mem_of_getElem? e
      rcases List.mem_append.mp m with m | m
      · unfold cutV at m
        have m2 := List.mem_of_mem_drop (List.mem_of_mem_take m)
        obtain ⟨z, _, ez⟩ := List.mem_map.mp m2
        exact ⟨z, ez.symm⟩
      · rw [List.mem_singleton] at m
        exact ⟨own, m⟩
    refine ⟨q3, rfl, ⟨_, SqL.of upd_same⟩, for_list (K := K) (a := q3) (xs := cutV (ns.map V.int) none (some 3) ++ [V.int own])
      (fun j σ H' => ∃ (m : Int) (v : Option V), σ = [some (.ref a), some (.int i), some (.int own), some (.int m), v] ∧ 0 ≤ m ∧ m < 9223372036854775783 ∧ Same H H' ∧ H' q3 = some (.lst (cutV (ns.map V.int) none (some 3) ++ [V.int own])))
      ⟨_, none, rfl, by omega, by omega, s3, upd_same⟩ (fun j σ H' _ ⟨_, _, _, _, _, _, e⟩ => SqL.of e) ?_ ?_⟩
    · rintro j y σ H' hj ⟨m, v, rfl, m0, m1, sm, hq⟩
      obtain ⟨z, rfl⟩ := all j y hj
      refine ⟨_, rfl, _, _, rfl, rfl, .inl ⟨by omega, by omega⟩, _, rfl, .inl ⟨z, rfl, _, _, rfl, rfl, (show (0 : Int) < 9223372036854775337 by decide), _, _, rfl, rfl, ?_⟩⟩
      refine ⟨_, rfl, _, _, rfl, rfl, .inl ⟨_, rfl, _, _, rfl, rfl, (show (0 : Int) < 9223372036854775783 by decide), ?_⟩⟩
      exact ⟨_, _, rfl, Int.emod_nonneg _ (by decide), Int.emod_lt_of_pos _ (by decide), sm, hq⟩
    · rintro σ H' ⟨m, v, rfl, m0, m1, sm, hq⟩
      refine ⟨_, rfl, _, rfl, _, _, rfl, rfl, ⟨by decide, by decide, by decide⟩, _, _, rfl, rfl, _, rfl, ?_⟩
      have abs0 : (0 : Int) ≤ (if own < 0 then -own else own) := by
        by_cases g : own < 0
        · rw [if_pos g]; omega
        · rw [if_neg g]; omega
      refine ite2 (fun _ => ?_) (fun _ => ?_)
      · refine ⟨_, rfl, _, rfl, _, rfl, (by show 3 ≤ sizeLine; decide), fun p np => ?_⟩
        exact k p _ (same_new sm np) (sm.free np) ⟨_, m, 0, upd_same, abs0, m0, m1, Int.le_refl _, Int.le_refl _⟩
      · refine ⟨_, rfl, (by show 3 ≤ sizeLine; decide), fun p np => ?_⟩
        exact k p _ (same_new sm np) (sm.free np) ⟨_, m, 0, upd_same, Int.le_refl _, m0, m1, Int.le_refl _, Int.le_refl _⟩
end
end F02
namespace F02
open PySem PySem.Spec PyProof.Rows L2 MG
theorem Jug.le {H : Hp} {p : Addr} {N M : Nat} (j : Jug H p N) (h : N ≤ M) : Jug H p M := by
  obtain ⟨a, b, c, e, h1, h2, h3, h4, h5⟩ := j
  exact ⟨a, b, c, e, h1, h2, h3, h4, by omega⟩
/-! ### names -/
def lowB (c : Nat) : Bool := decide (97 ≤ c ∧ c ≤ 122)
def signB (c : Nat) : Bool := lowB c || decide (48 ≤ c ∧ c ≤ 57)
def nameL : List Nat → Bool
  | [] => false
  | c :: r => lowB c && decide (r.length ≤ 7) && r.all signB
def Nm (x : Str) : Prop := nameL x.cps.toList = true
abbrev SIGNS : Str := "abcdefghijklmnopqrstuvwxyz0123456789"
theorem signs_at : ∀ i : _root_.Fin 36, ∃ c : Nat, SIGNS.cps.toList[i.val]? = some c ∧ signB c = true ∧ (i.val < 26 → lowB c = true) := by
  have h : ∀ i : _root_.Fin 36, SIGNS.cps.toList[i.val]? = some (SIGNS.cps.toList.getD i.val 0) ∧ signB (SIGNS.cps.toList.getD i.val 0) = true ∧ (i.val < 26 → lowB (SIGNS.cps.toList.getD i.val 0) = true) := by decide +kernel
  exact fun i => ⟨_, h i⟩
theorem atI_nat {α : Type} {xs : List α} {i : Int} {x : α} (h0 : 0 ≤ i) (h : xs[i.toNat]? = some x) : atI xs i = some x := by
  have hk : i.toNat < xs.length := (List.getElem?_eq_some_iff.mp h).1
  unfold atI ixN
  rw [if_pos h0, if_pos (by omega)]
  exact h
theorem sign_pick {i : Int} (h0 : 0 ≤ i) (h : i < 36) : ∃ c, atI SIGNS.cps.toList i = some c ∧ signB c = true ∧ (i < 26 → lowB c = true) := by
  obtain ⟨c, h1, h2, h3⟩ := signs_at ⟨i.toNat, by omega⟩
  exact ⟨c, atI_nat h0 h1, h2, fun q => h3 (show i.toNat < 26 by omega)⟩
def MENU : List V := [.str "host", .str "guest", .str "tables", .str "tables1", .str "a", .str "ab", .str "z9", .str "x"]
theorem menu_pick {i : Int} (h0 : 0 ≤ i) (h : i < 8) : ∃ x : Str, atI MENU i = some (.str x) ∧ Nm x := by
  have c : i = 0 ∨ i = 1 ∨ i = 2 ∨ i = 3 ∨ i = 4 ∨ i = 5 ∨ i = 6 ∨ i = 7 := by omega
  rcases c with rfl | rfl | rfl | rfl | rfl | rfl | rfl | rfl
  all_goals exact ⟨_, rfl, by unfold Nm; decide +kernel⟩
theorem len_pick {i : Int} (h0 : 0 ≤ i) (h : i < 4) : ∃ n : Nat, atI [V.int 0, V.int 1, V.int 2, V.int 7] i = some (.int n) ∧ n ≤ 7 := by
  have c : i = 0 ∨ i = 1 ∨ i = 2 ∨ i = 3 := by omega
  rcases c with rfl | rfl | rfl | rfl
  · exact ⟨0, rfl, by decide⟩
  · exact ⟨1, rfl, by decide⟩
  · exact ⟨2, rfl, by decide⟩
  · exact ⟨7, rfl, by decide⟩
theorem app_cps (x y : Str) : (x ++ y).cps.toList = x.cps.toList ++ y.cps.toList := by
  show (x.cps ++ y.cps).toList = _
  rw [Array.toList_append]
/-- a letter, then i signs -/
def Grown (x : Str) (i : Nat) : Prop := ∃ c r, x.cps.toList = c :: r ∧ lowB c = true ∧ r.length = i ∧ r.all signB = true
theorem Grown.nm {x : Str} {i : Nat} (g : Grown x i) (h : i ≤ 7) : Nm x := by
  obtain ⟨c, r, e, h1, h2, h3⟩ := g
  unfold Nm
  rw [e]
  show (lowB c && decide (r.length ≤ 7) && r.all signB) = true
  rw [h1, h3, h2, decide_eq_true h] <;> rfl
theorem Grown.len {x : Str} {i : Nat} (g : Grown x i) : x.length = i + 1 := by
  obtain ⟨c, r, e, h1, h2, h3⟩ := g
  show x.cps.size = _
  rw [← Array.length_toList, e, List.length_cons, h2]
theorem Grown.more {x : Str} {i c : Nat} (g : Grown x i) (h : signB c = true) : Grown (x ++ ⟨#[c]⟩) (i + 1) := by
  obtain ⟨d, r, e, h1, h2, h3⟩ := g
  refine ⟨d, r ++ [c], ?_, h1, ?_, ?_⟩
  · rw [app_cps, e] <;> rfl
  · rw [List.length_append, h2] <;> rfl
  · rw [List.all_append, h3, Bool.true_and, List.all_cons, h] <;> rfl
section
variable {P : Program} {w : World} {K : PySem.W.Frag} {mg : Str → Option Value} {base : Heap}
abbrev s_l_word : Stmt := top 27
theorem sc_l_word : FnScope ["_law_jug_here", "_law_signs", "_law_words_here", "_law_word_here", "_law_more"] ["_law_jug_here"] (defScope s_l_word) := ⟨rfl, rfl, rfl, by decide +kernel, rfl, by decide +kernel, by decide +kernel⟩
/-- a name -/
def sp_l_word : Sp := fun vs H Q _ => ∃ (p : Addr) (N : Nat), vs = [.ref p] ∧ Jug H p N ∧ N + 11 ≤ 1000000 ∧
  ∀ (x : Str) (H' : Hp), Nm x → But p H H' → Jug H' p (N + 11) → Q (.str x) H'
structure TxW (K : PySem.W.Frag) (mg : Str → Option Value) (f_l_pour : Addr) : Prop where
  n_range : mg "range" = none
  g_l_pour : mg "_law_pour" = some (.ref f_l_pour)
  k_l_pour : PySem.W.keepIn K (.ref f_l_pour) = true
theorem ok_l_word {f f_l_pour : Addr} {fd fd_l_pour : FuncData} (F : Fun K "_law_word" "_law_word" s_l_word f fd) (T : TxW K mg f_l_pour)
    (G_l_pour : FnOk P w K mg base CX0 1 f_l_pour fd_l_pour ["_law_jug_here", "_law_many"] sp_l_pour) (b_l_pour : Binds K fd_l_pour ["_law_jug_here", "_law_many"] []) :
    FnOk P w K mg base CX0 2 f fd ["_law_jug_here"] sp_l_word := by
  refine F.ok sc_l_word (fun vs H Q E h => ?_) (fun cdv A outer s H vs Q E hr h => ?_)
  · obtain ⟨p, N, rfl, _⟩ := h
    rfl
  · obtain ⟨p, N, rfl, J, hN, k⟩ := h
    refine ⟨_, (pss_cons (ps_par (i := 1) (j := 2) (by rfl) sc_l_word.nd rfl rfl (by decide) rfl rfl (pa_cons pe_str (pa_cons (pe_lst (pa_cons pe_str (pa_cons pe_str (pa_cons pe_str (pa_cons pe_str (pa_cons pe_str (pa_cons pe_str (pa_cons pe_str (pa_cons pe_str pa_nil))))))))) pa_nil)) (by rfl))
      (pss_cons (ps_if (pt_cmpR op_eq (pe_call G_l_pour hr rfl T.g_l_pour T.k_l_pour b_l_pour .nil pass0 (pa_cons (pv 0) (pa_cons pe_int pa_nil))) pe_int (nomark _))
        (pss_one (ps_ret (pe_ix ix_list (pv 2) (pe_call G_l_pour hr rfl T.g_l_pour T.k_l_pour b_l_pour .nil pass0 (pa_cons (pv 0) (pa_cons pe_int pa_nil))) (fun _ _ => rfl))))
        pss_nil)
      (pss_cons (ps_set (i := 3) sc_l_word.nd rfl (Or.inl rfl) (pe_ix ix_str (pv 1) (pe_call G_l_pour hr rfl T.g_l_pour T.k_l_pour b_l_pour .nil pass0 (pa_cons (pv 0) (pa_cons pe_int pa_nil))) (fun _ _ => rfl)))
      (pss_cons (ps_for PassesOwn.never rfl (pi_range1 rfl T.n_range (pa_cons (pe_ix ix_list (pe_lst (pa_cons pe_int (pa_cons pe_int (pa_cons pe_int (pa_cons pe_int pa_nil))))) (pe_call G_l_pour hr rfl T.g_l_pour T.k_l_pour b_l_pour .nil pass0 (pa_cons (pv 0) (pa_cons pe_int pa_nil))) (fun _ _ => rfl)) pa_nil)) (pg_name (i := 4) sc_l_word.nd rfl (Or.inl rfl))
        (pss_one (ps_set (i := 3) sc_l_word.nd rfl (Or.inl rfl) (pe_op op_add_str (pv 3) (pe_ix ix_str (pv 1) (pe_call G_l_pour hr rfl T.g_l_pour T.k_l_pour b_l_pour .nil pass0 (pa_cons (pv 0) (pa_cons pe_int pa_nil))) (fun _ _ => rfl))))))
      (pss_one (ps_ret (pv 3))))))), ?_⟩
    refine ⟨(by show 8 ≤ sizeLine; decide), fun q nq => ⟨_, _, rfl, ?_⟩⟩
    have nqp : q ≠ p := fun e => by
      obtain ⟨_, _, _, e2, _⟩ := J
      rw [e, e2] at nq
      cases nq
    have J0 : Jug (upd H q (.lst MENU)) p N := by
      obtain ⟨a, b, c, e2, r⟩ := J
      exact ⟨a, b, c, (upd_ne nqp.symm).trans e2, r⟩
    have b0 : But p H (upd H q (.lst MENU)) := But.new But.refl nq
    have hq0 : (upd H q (.lst MENU)) q = some (.lst MENU) := upd_same
    refine ⟨_, rfl, p, 4, N, rfl, J0, by omega, by decide, by decide, fun r H1 r0 r1 b1 j1 => ⟨rfl, _, rfl, ?_⟩⟩
    have hq1 := b1 q _ nqp hq0
    refine ite2 (fun c => ?_) (fun c => ?_)
    · refine ⟨_, rfl, _, rfl, p, 8, N + 1, rfl, j1, by omega, by decide, by decide, fun r2 H2 q0 q1 b2 j2 => ?_⟩
      obtain ⟨x, hx, nx⟩ := menu_pick q0 q1
      exact ⟨q, MENU, r2, _, rfl, rfl, SqL.of (b2 q _ nqp hq1), hx, k x H2 nx ((b0.trans b1).trans b2) (j2.le (by omega))⟩
    · refine ⟨_, rfl, _, rfl, p, 26, N + 1, rfl, j1, by omega, by decide, by decide, fun r2 H2 q0 q1 b2 j2 => ?_⟩
      obtain ⟨c0, hc0, _, hl0⟩ := sign_pick q0 (by omega)
      refine ⟨SIGNS, r2, c0, rfl, rfl, (by decide +kernel), hc0, ?_⟩
      have g0 : Grown ⟨#[c0]⟩ 0 := ⟨c0, [], rfl, hl0 q1, rfl, rfl⟩
      refine ⟨(by show 4 ≤ sizeLine; decide), fun t nt => ?_⟩
      have ntp : t ≠ p := fun e => by
        obtain ⟨_, _, _, e2, _⟩ := j2
        rw [e, e2] at nt
        cases nt
      have j3 : Jug (upd H2 t (.lst [.int 0, .int 1, .int 2, .int 7])) p (N + 2) := by
        obtain ⟨a, b, c, e2, r⟩ := j2
        exact ⟨a, b, c, (upd_ne ntp.symm).trans e2, r⟩
      refine ⟨_, rfl, p, 4, N + 2, rfl, j3, by omega, by decide, by decide, fun r3 H3 u0 u1 b3 j4 => ?_⟩
      obtain ⟨n, hn, hn7⟩ := len_pick u0 u1
      refine ⟨t, _, r3, _, rfl, rfl, SqL.of (b3 t _ ntp upd_same), hn, n, rfl, by omega, by omega, ?_⟩
      have b4 : But p H H3 := (((b0.trans b1).trans b2).new nt).trans b3
      refine for_range (lo := 0) (n := (n : Int).toNat) (fun i σ H' => ∃ (x : Str) (v : Option V), σ = [some (.ref p), some (.str SIGNS), some (.ref q), some (.str x), v] ∧ Grown x i ∧ But p H H' ∧ Jug H' p (N + 3 + i))
        ⟨_, none, rfl, g0, b4, j4⟩ ?_ ?_
      · rintro i σ H' hi ⟨x, v, rfl, g, bb, jj⟩
        have hi' : i < n := by omega
        refine ⟨_, rfl, _, rfl, _, rfl, p, 36, N + 3 + i, rfl, jj, by omega, by decide, by decide, fun r4 H4 w0 w1 b5 j5 => ?_⟩
        obtain ⟨c1, hc1, hs1, _⟩ := sign_pick w0 w1
        refine ⟨SIGNS, r4, c1, rfl, rfl, (by decide +kernel), hc1, _, _, rfl, rfl, ?_, ?_⟩
        · rw [g.len]
          show i + 1 + 1 ≤ sizeLine
          exact Nat.le_trans (show i + 1 + 1 ≤ 100 by omega) (by decide)
        · exact ⟨_, _, rfl, g.more hs1, bb.trans b5, j5.le (by omega)⟩
      · rintro σ H' ⟨x, v, rfl, g, bb, jj⟩
        exact ⟨_, rfl, k x H' (g.nm (by omega)) bb (jj.le (by omega))⟩

end
theorem int_small {i : Int} (h0 : 0 ≤ i) (h : i < 128) : i.natAbs.log2 < 1920 := by
  have q : ∀ j : _root_.Fin 128, j.val.log2 < 1920 := by decide +kernel
  exact q ⟨i.natAbs, by omega⟩
theorem tyes {σ : L2.St} {H : Hp} {Q : Bool → Hp → Prop} (h : Q true H) : tYes σ H Q := h
theorem But.mut {p q : Addr} {H H1 : Hp} {o : HO} (a : But p H H1) (h : H q = none) : But p H (upd H1 q o) := fun c u n e => by
  rw [upd_ne (ne_of_none e h)]; exact a c u n e
theorem Jug.but {H H1 : Hp} {p : Addr} {N : Nat} (j : Jug H p N) (h : ∀ o, H p = some o → H1 p = some o) : Jug H1 p N := by
  obtain ⟨a, b, c, e, r⟩ := j
  exact ⟨a, b, c, h _ e, r⟩
theorem Jug.ne {H : Hp} {p q : Addr} {N : Nat} (j : Jug H p N) (h : H q = none) : q ≠ p := fun e => by
  obtain ⟨_, _, _, e2, _⟩ := j
  rw [e, e2] at h
  cases h
def qn (j : Nat) : Str := ("q" : Str) ++ (toString (0 + (j : Int)) : String)
theorem qn_nm : ∀ j : _root_.Fin 8, Nm (qn j.val) := by
  have h : ∀ j : _root_.Fin 8, nameL (qn j.val).cps.toList = true := by decide +kernel
  exact h
theorem qn_nodup : ((List.range 8).map qn).Nodup := by decide +kernel
theorem qs_nodup {m : Nat} (h : m ≤ 8) : ((List.range m).map qn).Nodup := by
  refine qn_nodup.sublist ?_
  refine List.Sublist.map _ ?_
  rw [List.range_sublist]
  exact h
theorem sub_len {α : Type} [DecidableEq α] : ∀ {l m : List α}, l.Nodup → (∀ x ∈ l, x ∈ m) → l.length ≤ m.length
  | [], _, _, _ => Nat.zero_le _
  | a :: l, m, nd, h => by
    have nd' := List.nodup_cons.mp nd
    have ha := h a (List.mem_cons_self ..)
    have ih := sub_len (l := l) (m := m.erase a) nd'.2 fun x hx => by
      have hne : x ≠ a := fun e => nd'.1 (e ▸ hx)
      exact (List.mem_erase_of_ne hne).mpr (h x (List.mem_cons_of_mem _ hx))
    rw [List.length_erase_of_mem ha] at ih
    have := List.length_pos_of_mem ha
    rw [List.length_cons]
    omega
theorem inV_str (x : Str) (xs : List Str) : inV (.str x) (xs.map V.str) = decide (x ∈ xs) := by
  unfold inV
  induction xs with
  | nil => rfl
  | cons y ys ih =>
    rw [List.map_cons, List.any_cons, ih]
    show ((y == x) || decide (x ∈ ys)) = decide (x ∈ y :: ys)
    by_cases e : y = x
    · subst e
      simp
    · have e' : (y == x) = false := beq_eq_false_iff_ne.mpr e
      rw [e', Bool.false_or]
      have : x ∈ y :: ys ↔ x ∈ ys := by
        rw [List.mem_cons]
        exact ⟨fun h => h.elim (fun h => absurd h.symm e) id, Or.inr⟩
      simp only [this]
theorem flat_strs (xs : List Str) : (xs.map V.str).all flatV = true := by
  rw [List.all_eq_true]
  intro v hv
  obtain ⟨x, _, rfl⟩ := List.mem_map.mp hv
  rfl
section
variable {P : Program} {w : World} {K : PySem.W.Frag} {mg : Str → Option Value} {base : Heap}
abbrev s_l_words : Stmt := top 28
theorem sc_l_words : FnScope ["_law_jug_here", "_law_many", "_law_found", "_law_at", "_law_word_here", "_law_each", "_law_number"] ["_law_jug_here", "_law_many"] (defScope s_l_words) := ⟨rfl, rfl, rfl, by decide +kernel, rfl, by decide +kernel, by decide +kernel⟩
/-- so many different names, in a new list -/
def sp_l_words : Sp := fun vs H Q _ => ∃ (p : Addr) (m N : Nat), vs = [.ref p, .int (m : Int)] ∧ Jug H p N ∧ m ≤ 8 ∧ N + 11 * m + 11 ≤ 1000000 ∧
  ∀ (q : Addr) (xs : List Str) (H' : Hp), H q = none → H' q = some (.lst (xs.map V.str)) → xs.length = m → xs.Nodup → (∀ x ∈ xs, Nm x) → But p H H' → Jug H' p (N + 11 * m) → Q (.ref q) H'
structure TxWs (K : PySem.W.Frag) (mg : Str → Option Value) (f_l_word : Addr) : Prop where
  n_range : mg "range" = none
  n_str : mg "str" = none
  g_l_word : mg "_law_word" = some (.ref f_l_word)
  k_l_word : PySem.W.keepIn K (.ref f_l_word) = true
theorem ok_l_words {f f_l_word : Addr} {fd fd_l_word : FuncData} (F : Fun K "_law_words" "_law_words" s_l_words f fd) (T : TxWs K mg f_l_word)
    (G_l_word : FnOk P w K mg base CX0 2 f_l_word fd_l_word ["_law_jug_here"] sp_l_word) (b_l_word : Binds K fd_l_word ["_law_jug_here"] []) :
    FnOk P w K mg base CX0 3 f fd ["_law_jug_here", "_law_many"] sp_l_words := by
  refine F.ok sc_l_words (fun vs H Q E h => ?_) (fun cdv A outer s H vs Q E hr h => ?_)
  · obtain ⟨p, m, N, rfl, _⟩ := h
    rfl
  · obtain ⟨p, m, N, rfl, J, hm, hN, k⟩ := h
    refine ⟨_, (pss_cons (ps_set (i := 2) sc_l_words.nd rfl (Or.inr rfl) (pe_lst pa_nil))
      (pss_cons (ps_for PassesOwn.never rfl (pi_range1 rfl T.n_range (pa_cons (pv 1) pa_nil)) (pg_name (i := 3) sc_l_words.nd rfl (Or.inl rfl))
        (pss_cons (ps_set (i := 4) sc_l_words.nd rfl (Or.inl rfl) (pe_call G_l_word hr rfl T.g_l_word T.k_l_word b_l_word .nil pass0 (pa_cons (pv 0) pa_nil)))
      (pss_cons (ps_if (pt_cmpR op_in_seq (pv 4) (pv 2) rfl)
        (pss_one (ps_set (i := 4) sc_l_words.nd rfl (Or.inl rfl) (pe_ix ix_list (pe_lc (own := [("_law_each", 5)]) (g := gName 5) rfl sc_l_words.nd (pi_list (pe_lc (own := [("_law_number", 6)]) (g := gName 6) (tt := tYes) rfl sc_l_words.nd (pi_range1 rfl T.n_range (pa_cons (pv 1) pa_nil)) (blkOk_by (own := [("_law_number", 6)]) (N := ["_law_jug_here", "_law_many", "_law_found", "_law_at", "_law_word_here", "_law_each", "_law_number"]) (sc := defScope s_l_words) (by decide +kernel)) (fun _ _ _ _ _ => (pg_name (i := 6) sc_l_words.nd rfl (Or.inl rfl))) (fun _ _ _ _ _ => pts_nil) (fun _ _ _ _ _ => (pe_op op_add_str pe_str (pe_callTy call_str_int (by rfl) T.n_str (by decide +kernel) (pa_cons (pv 6) pa_nil)))))) (blkOk_by (own := [("_law_each", 5)]) (N := ["_law_jug_here", "_law_many", "_law_found", "_law_at", "_law_word_here", "_law_each", "_law_number"]) (sc := defScope s_l_words) (by decide +kernel)) (fun _ _ _ _ _ => (pg_name (i := 5) sc_l_words.nd rfl (Or.inl rfl))) (fun _ _ _ _ _ => (pts_one (pt_cmpR (r := rIn K true) op_notIn_seq (pv 5) (pv 2) rfl))) (fun _ _ _ _ _ => (pv 5))) pe_int (fun _ _ => rfl))))
        pss_nil)
      (pss_one (ps_expr (pe_bm PySem.F.plainAttrs_list PySem.F.slot_list_append PySem.F.type_list_append mt_append (pv 2) (pa_cons (pv 4) pa_nil)))))))
      (pss_one (ps_ret (pv 2))))), ?_⟩
    refine ⟨(by show 0 ≤ sizeLine; decide), fun q nq => ?_⟩
    have nqp : q ≠ p := J.ne nq
    have J0 : Jug (upd H q (.lst [])) p N := J.but fun o e => (upd_ne nqp.symm).trans e
    refine ⟨_, rfl, m, rfl, by omega, by omega, ?_⟩
    refine for_range (lo := 0) (n := ((m : Nat) : Int).toNat) (fun i σ H' => ∃ (xs : List Str) (v3 v4 : Option V), σ = [some (.ref p), some (.int m), some (.ref q), v3, v4, none, none] ∧ H' q = some (.lst (xs.map V.str)) ∧ xs.length = i ∧ xs.Nodup ∧ (∀ x ∈ xs, Nm x) ∧ But p H H' ∧ Jug H' p (N + 11 * i))
        ⟨[], none, none, rfl, upd_same, rfl, List.nodup_nil, (fun x h => by cases h), But.new But.refl nq, J0⟩ ?_ ?_
    · rintro i σ H' hi ⟨xs, v3, v4, rfl, hq, hl, nd, hn, bb, jj⟩
      have hi' : i < m := by omega
      refine ⟨_, rfl, p, N + 11 * i, rfl, jj, by omega, fun x H1 nx b1 j1 => ?_⟩
      have hq1 : H1 q = some (.lst (xs.map V.str)) := b1 q _ nqp hq
      have bb1 := bb.trans b1
      have last : ∀ (y : Str) (H2 : Hp) (v3 : Option V), Nm y → y ∉ xs → H2 q = some (.lst (xs.map V.str)) → But p H H2 → Jug H2 p (N + 11 * i + 11) →
          ∃ (zs : List Str) (v3' v4' : Option V), [some (V.ref p), some (.int m), some (.ref q), v3, some (.str y), none, none] = [some (.ref p), some (.int m), some (.ref q), v3', v4', none, none] ∧ (upd H2 q (.lst (xs.map V.str ++ [.str y]))) q = some (.lst (zs.map V.str)) ∧ zs.length = i + 1 ∧ zs.Nodup ∧ (∀ x ∈ zs, Nm x) ∧ But p H (upd H2 q (.lst (xs.map V.str ++ [.str y]))) ∧ Jug (upd H2 q (.lst (xs.map V.str ++ [.str y]))) p (N + 11 * (i + 1)) := by
        intro y H2 v3 ny hy h2 b2 j2
        refine ⟨xs ++ [y], _, _, rfl, ?_, ?_, ?_, ?_, b2.mut nq, ?_⟩
        · rw [upd_same, List.map_append] <;> rfl
        · rw [List.length_append, hl] <;> rfl
        · rw [List.nodup_append]
          refine ⟨nd, by simp, fun a ha b hb e => ?_⟩
          rw [List.mem_singleton] at hb
          exact hy (by rw [← hb, ← e]; exact ha)
        · intro z hz
          rcases List.mem_append.mp hz with hz | hz
          · exact hn z hz
          · rw [List.mem_singleton] at hz
            rw [hz]
            exact ny
        · exact (j2.but fun o e => (upd_ne nqp.symm).trans e).le (by omega)
      refine ⟨_, rfl, _, rfl, q, _, rfl, .inl (SqL.of hq1), rfl, flat_strs xs, _, rfl, ?_⟩
      rw [inV_str]
      refine ite2 (fun c => ?_) (fun c => ?_)
      · refine ⟨_, rfl, m, rfl, by omega, by omega, fun D1 nD1 => ?_⟩
        refine lc_range (lo := 0) (n := ((m : Nat) : Int).toNat) (fun j G => G D1 = some (.lst (((List.range j).map qn).map V.str)) ∧ Same H1 G) ⟨upd_same, same_new (Same.refl H1) nD1⟩ ?_ ?_
        · rintro j G hj ⟨g1, g2⟩
          refine ⟨rfl, ?_⟩
          refine tyes ?_
          refine iteT ?_
          have hj8 : j < 8 := by omega
          refine ⟨_, rfl, _, rfl, ?_, _, _, rfl, rfl, ?_, _, g1, ?_, ?_, ?_⟩
          · exact int_small (by omega) (by omega)
          · have := qn_nm ⟨j, hj8⟩
            exact Nat.le_trans (show 1 + (Str.ofString (toString (0 + (j : Int)))).length ≤ 100 from by
              have h : ∀ j : _root_.Fin 8, 1 + (Str.ofString (toString (0 + (j.val : Int)))).length ≤ 100 := by decide +kernel
              exact h ⟨j, hj8⟩) (by decide)
          · rw [List.length_map, List.length_map, List.length_range]
            exact Nat.lt_of_lt_of_le (show j < 100 by omega) (by decide)
          · show (upd G D1 _) D1 = _
            rw [upd_same, List.range_succ, List.map_append, List.map_append] <;> rfl
          · intro b o hb
            rw [upd_ne (ne_of_none hb nD1)]
            exact g2 b o hb
        · rintro G ⟨g1, g2⟩
          refine ⟨D1, rfl, ⟨_, SqL.of g1⟩, fun D2 nD2 => ?_⟩
          have g1' := g1
          refine lc_list (K := K) (a := D1) (xs := ((List.range ((m : Nat) : Int).toNat).map qn).map V.str) (fun j G2 => G2 D2 = some (.lst (((((List.range ((m : Nat) : Int).toNat).map qn).take j).filter fun y => decide (y ∉ xs)).map V.str)) ∧ Same G G2)
            ⟨upd_same, same_new (Same.refl G) nD2⟩ (fun j G2 _ z => SqL.of (z.2 _ _ g1)) ?_ ?_
          · rintro j y G2 hy ⟨z1, z2⟩
            obtain ⟨u, hu, rfl⟩ : ∃ u, ((List.range ((m : Nat) : Int).toNat).map qn)[j]? = some u ∧ y = V.str u := by
              rw [List.getElem?_map] at hy
              cases e : ((List.range ((m : Nat) : Int).toNat).map qn)[j]? with
              | none => rw [e] at hy; cases hy
              | some u => rw [e] at hy; exact ⟨u, rfl, (Option.some.inj hy).symm⟩
            have ht : (((List.range ((m : Nat) : Int).toNat).map qn).take (j + 1)) = (((List.range ((m : Nat) : Int).toNat).map qn).take j) ++ [u] := by
              rw [List.take_add_one, hu] <;> rfl
            have hq2 : G2 q = some (.lst (xs.map V.str)) := z2 _ _ (g2 _ _ hq1)
            refine ⟨rfl, _, rfl, _, rfl, q, _, rfl, .inl (SqL.of hq2), rfl, flat_strs xs, _, rfl, ?_⟩
            rw [inV_str]
            by_cases hu2 : u ∈ xs
            · refine if_false_of (by simp [hu2]) ⟨?_, z2⟩
              rw [z1, ht, List.filter_append, List.filter_cons_of_neg (by simp [hu2])]
              simp
            · refine if_true_of (by simp [hu2]) ⟨_, rfl, _, z1, ?_, ?_, ?_⟩
              · rw [List.length_map]
                have l1 := List.length_filter_le (fun y => decide (y ∉ xs)) (((List.range ((m : Nat) : Int).toNat).map qn).take j)
                rw [List.length_take, List.length_map, List.length_range] at l1
                exact Nat.lt_of_lt_of_le (show _ < 100 by omega) (by decide)
              · show (upd G2 D2 _) D2 = _
                rw [upd_same, ht, List.filter_append, List.filter_cons_of_pos (by simp [hu2]), List.map_append] <;> rfl
              · intro b o hb
                rw [upd_ne (ne_of_none hb nD2)]
                exact z2 b o hb
          · rintro G2 ⟨z1, z2⟩
            rw [List.length_map, List.take_length] at z1
            have hlen : ((List.range ((m : Nat) : Int).toNat).map qn).length = m := by
              rw [List.length_map, List.length_range]; omega
            have nn : ((List.range ((m : Nat) : Int).toNat).map qn).Nodup := qs_nodup (by omega)
            cases hf : ((List.range ((m : Nat) : Int).toNat).map qn).filter (fun y => decide (y ∉ xs)) with
            | nil =>
              exfalso
              have sub := sub_len nn (m := xs) (fun z hz => by
                by_cases q : z ∈ xs
                · exact q
                · have : z ∈ ((List.range ((m : Nat) : Int).toNat).map qn).filter (fun y => decide (y ∉ xs)) := List.mem_filter.mpr ⟨hz, by simp [q]⟩
                  rw [hf] at this
                  cases this)
              omega
            | cons y r =>
              have hy : y ∈ ((List.range ((m : Nat) : Int).toNat).map qn).filter (fun y => decide (y ∉ xs)) := by rw [hf]; exact List.mem_cons_self ..
              obtain ⟨hy1, hy2⟩ := List.mem_filter.mp hy
              obtain ⟨jj', hjj, rfl⟩ := List.mem_map.mp hy1
              have ny := qn_nm ⟨jj', by have := List.mem_range.mp hjj; omega⟩
              rw [hf] at z1
              have sm : Same H1 G2 := g2.trans z2
              have hq2 : G2 q = some (.lst (xs.map V.str)) := sm _ _ hq1
              refine ⟨D2, _, 0, _, rfl, rfl, SqL.of z1, atI_nat (by decide) rfl, ?_⟩
              refine ⟨_, rfl, .inl ⟨rfl, _, SqL.of hq2⟩, _, rfl, q, _, _, rfl, rfl, hq2, ?_, last _ G2 _ ny (by simpa using hy2) hq2 (fun b o nb hb => sm b o (bb1 b o nb hb)) (j1.but fun o e => sm _ _ e)⟩
              rw [List.length_map, hl]
              exact Nat.lt_of_lt_of_le (show i < 100 by omega) (by decide)
      · have hx : x ∉ xs := fun z => c (by simp [z])
        refine ⟨_, rfl, .inl ⟨rfl, _, SqL.of hq1⟩, _, rfl, q, _, _, rfl, rfl, hq1, ?_, last x H1 _ nx hx hq1 bb1 j1⟩
        rw [List.length_map, hl]
        exact Nat.lt_of_lt_of_le (show i < 100 by omega) (by decide)
    · rintro σ H' ⟨xs, v3, v4, rfl, hq, hl, nd, hn, bb, jj⟩
      have e : ((m : Nat) : Int).toNat = m := by omega
      rw [e] at hl jj
      exact ⟨_, rfl, k q xs H' nq hq hl nd hn bb jj⟩
end
end F02
namespace F02
open PySem PySem.Spec PyProof.Rows L2 MG
theorem seq_setH {te : TE} {i : Nat} {ts : TS} {D : Ends} {σ : L2.St} {H : Hp} (P : V → Hp → Prop) (hv : ∀ Q' : VK, (∀ v H', P v H' → Q' v H') → te σ H Q') (k : ∀ v H', P v H' → ts D (σ.set i (some v)) H') : tSeq (tAsg te (gName i)) ts D σ H := hv _ k
/-! ### data that cannot change: None, bools, ints, texts, tuples of such -/
mutual
inductive Im (K : PySem.W.Frag) (H : Hp) : V → PyData → Prop
  | non : Im K H .non .none
  | bl (b : Bool) : Im K H (.bl b) (.bool b)
  | int (i : Int) : Im K H (.int i) (.int i)
  | str (x : Str) : Im K H (.str x) (.str x)
  | tup {a : Addr} {xs : List V} {ds : List PyData} : SqT K H a xs → ImAll K H xs ds → Im K H (.ref a) (.tuple ds)
inductive ImAll (K : PySem.W.Frag) (H : Hp) : List V → List PyData → Prop
  | nil : ImAll K H [] []
  | cons {v : V} {vs : List V} {d : PyData} {ds : List PyData} : Im K H v d → ImAll K H vs ds → ImAll K H (v :: vs) (d :: ds)
end
/-- tuples stay -/
def Tk (H H' : Hp) : Prop := ∀ a xs, Rd H a (.tup xs) → Rd H' a (.tup xs)
theorem Tk.refl {H : Hp} : Tk H H := fun _ _ h => h
theorem Tk.trans {H H1 H2 : Hp} (a : Tk H H1) (b : Tk H1 H2) : Tk H H2 := fun x xs h => b x xs (a x xs h)
theorem Tk.same {H H' : Hp} (s : Same H H') : Tk H H' := fun a xs h => by
  rcases h with h | ⟨o, h⟩
  · exact .inl (s _ _ h)
  · exact .inr ⟨o, s _ _ h⟩
theorem Tk.but {H H' : Hp} {p : Addr} {ys : List V} (s : But p H H') (hp : H p = some (.lst ys)) : Tk H H' := fun a xs h => by
  have n : a ≠ p := fun e => by
    subst e
    rcases h with h | ⟨o, h⟩
    · rw [hp] at h; cases h
    · rw [hp] at h; cases h
  rcases h with h | ⟨o, h⟩
  · exact .inl (s _ _ n h)
  · exact .inr ⟨o, s _ _ n h⟩
theorem Tk.jug {H H' : Hp} {p : Addr} {N : Nat} (s : But p H H') (j : Jug H p N) : Tk H H' := by
  obtain ⟨_, _, _, e, _⟩ := j
  exact Tk.but s e
theorem Tk.sq {K : PySem.W.Frag} {H H' : Hp} {a : Addr} {xs : List V} (t : Tk H H') (h : SqT K H a xs) : SqT K H' a xs := by
  rcases h with h | h
  · exact .inl (t _ _ h)
  · exact .inr h
section
variable {K : PySem.W.Frag} {H H' : Hp}
mutual
theorem Im.to (t : Tk H H') : ∀ (d : PyData) (v : V), Im K H v d → Im K H' v d
  | .none, _, h => by cases h; exact .non
  | .bool b, _, h => by cases h; exact .bl b
  | .int i, _, h => by cases h; exact .int i
  | .str x, _, h => by cases h; exact .str x
  | .tuple ds, _, h => by
    cases h with
    | tup h1 h2 => exact .tup (t.sq h1) (ImAll.to t ds _ h2)
  | .list ds, _, h => by cases h
  | .dict ds, _, h => by cases h
theorem ImAll.to (t : Tk H H') : ∀ (ds : List PyData) (vs : List V), ImAll K H vs ds → ImAll K H' vs ds
  | [], _, h => by cases h; exact .nil
  | d :: ds, _, h => by
    cases h with
    | cons h1 h2 => exact .cons (Im.to t d _ h1) (ImAll.to t ds _ h2)
end
mutual
theorem Im.dp : ∀ (d : PyData) (v : V), Im K H v d → Dp K H v d
  | .none, _, h => by cases h; exact .non
  | .bool b, _, h => by cases h; exact .bl b
  | .int i, _, h => by cases h; exact .int i
  | .str x, _, h => by cases h; exact .str x
  | .tuple ds, _, h => by
    cases h with
    | tup h1 h2 => exact .tup h1 (ImAll.dp ds _ h2)
  | .list ds, _, h => by cases h
  | .dict ds, _, h => by cases h
theorem ImAll.dp : ∀ (ds : List PyData) (vs : List V), ImAll K H vs ds → DpAll K H vs ds
  | [], _, h => by cases h; exact .nil
  | d :: ds, _, h => by
    cases h with
    | cons h1 h2 => exact .cons (Im.dp d _ h1) (ImAll.dp ds _ h2)
end
theorem ImAll.length : ∀ {vs : List V} {ds : List PyData}, ImAll K H vs ds → vs.length = ds.length
  | _, _, .nil => rfl
  | _, _, .cons _ h => congrArg Nat.succ (ImAll.length h)
theorem ImAll.get : ∀ {vs : List V} {ds : List PyData} {i : Nat} {v : V}, ImAll K H vs ds → vs[i]? = some v → ∃ d, ds[i]? = some d ∧ Im K H v d
  | _, _, _, _, .nil, h => by simp at h
  | _, _, 0, _, .cons a _, h => by simp at h; subst h; exact ⟨_, rfl, a⟩
  | _, _, i + 1, _, .cons _ b, h => by
    obtain ⟨d, h1, h2⟩ := ImAll.get (i := i) b (by simpa using h)
    exact ⟨d, by simpa using h1, h2⟩
theorem ImAll.append : ∀ {vs ws : List V} {ds es : List PyData}, ImAll K H vs ds → ImAll K H ws es → ImAll K H (vs ++ ws) (ds ++ es)
  | _, _, _, _, .nil, h => h
  | _, _, _, _, .cons a b, h => .cons a (ImAll.append b h)
theorem ImAll.take : ∀ {vs : List V} {ds : List PyData} (n : Nat), ImAll K H vs ds → ImAll K H (vs.take n) (ds.take n)
  | _, _, 0, _ => .nil
  | _, _, _ + 1, .nil => .nil
  | _, _, n + 1, .cons a b => .cons a (ImAll.take n b)
theorem ImAll.drop : ∀ {vs : List V} {ds : List PyData} (n : Nat), ImAll K H vs ds → ImAll K H (vs.drop n) (ds.drop n)
  | _, _, 0, h => h
  | _, _, _ + 1, .nil => .nil
  | _, _, n + 1, .cons _ b => ImAll.drop n b
end
/-! ### the parts of a fair -/
abbrev Side := List (Str × Int)
def pD (x : Str × Int) : PyData := .tuple [.str x.1, .int x.2]
def sideD (l : Side) : PyData := .tuple (l.map pD)
def deskD : Option Int → PyData
  | none => .none
  | some k => .int k
def deskV : Option Int → V
  | none => .non
  | some k => .int k
def partsD (hs gs : Side) (t : Option Int) : PyData := .tuple [sideD hs, sideD gs, deskD t]
structure Fairish (hs gs : Side) (t : Option Int) : Prop where
  h1 : 1 ≤ hs.length
  h4 : hs.length ≤ 4
  g1 : 1 ≤ gs.length
  g4 : gs.length ≤ 4
  nd : ((hs ++ gs).map (·.1)).Nodup
  nm : ∀ z ∈ hs ++ gs, Nm z.1
  bd : ∀ z ∈ hs ++ gs, 1 ≤ z.2 ∧ z.2 ≤ 4
  tb : ∀ k, t = some k → 1 ≤ k ∧ k ≤ 12
theorem im_desk {K : PySem.W.Frag} {H : Hp} : ∀ t : Option Int, Im K H (deskV t) (deskD t)
  | none => .non
  | some k => .int k
theorem im_pairs {K : PySem.W.Frag} {G : Hp} : ∀ ps : List (Addr × Str × Int), (∀ z ∈ ps, G z.1 = some (.tup [.str z.2.1, .int z.2.2])) → ImAll K G (ps.map fun z => V.ref z.1) ((ps.map (·.2)).map pD)
  | [], _ => .nil
  | z :: ps, h => .cons (.tup (SqT.of (h z (List.mem_cons_self ..))) (.cons (.str _) (.cons (.int _) .nil))) (im_pairs ps fun y hy => h y (List.mem_cons_of_mem _ hy))
theorem cut_to {α : Type} (xs : List α) (n : Nat) : (xs.drop (HT.sIx xs.length 0 none)).take (HT.sIx xs.length xs.length (some (n : Int)) - HT.sIx xs.length 0 none) = xs.take n := by
  rw [HT.sIx_none, show HT.sIx xs.length xs.length (some (n : Int)) = min n xs.length from HT.sIx_nat xs.length _ n, List.drop_zero, Nat.sub_zero]
  by_cases h : n ≤ xs.length
  · rw [Nat.min_eq_left h]
  · rw [Nat.min_eq_right (by omega), List.take_length, List.take_of_length_le (by omega)]
theorem cut_from {α : Type} (xs : List α) (n : Nat) : (xs.drop (HT.sIx xs.length 0 (some (n : Int)))).take (HT.sIx xs.length xs.length none - HT.sIx xs.length 0 (some (n : Int))) = xs.drop n := by
  rw [HT.sIx_none, show HT.sIx xs.length 0 (some (n : Int)) = min n xs.length from HT.sIx_nat xs.length _ n]
  by_cases h : n ≤ xs.length
  · rw [Nat.min_eq_left h, List.take_of_length_le (by rw [List.length_drop]; omega)]
  · rw [Nat.min_eq_right (by omega), Nat.sub_self, List.take_zero, List.drop_of_length_le (by omega)]
end F02
namespace F02
open PySem PySem.Spec PyProof.Rows L2 MG
theorem nxt {i : Nat} {v : V} {σ : L2.St} {H : Hp} {K : L2.St → Hp → Prop} (h : K (σ.set i (some v)) H) : gName i v σ H K := h
section
variable {P : Program} {w : World} {K : PySem.W.Frag} {mg : Str → Option Value} {base : Heap}
abbrev s_l_parts : Stmt := top 29
theorem sc_l_parts : FnScope ["_law_jug_here", "_law_most_here", "_law_most_there", "_law_here", "_law_there", "_law_pairs", "_law_desks", "_law_word_here"] ["_law_jug_here", "_law_most_here", "_law_most_there"] (defScope s_l_parts) := ⟨rfl, rfl, rfl, by decide +kernel, rfl, by decide +kernel, by decide +kernel⟩
/-- hosts, guests and tables of a fair -/
def sp_l_parts (K : PySem.W.Frag) : Sp := fun vs H Q _ => ∃ (p : Addr) (a b N : Nat), vs = [.ref p, .int (a : Int), .int (b : Int)] ∧ Jug H p N ∧ 1 ≤ a ∧ a ≤ 4 ∧ 1 ≤ b ∧ b ≤ 4 ∧ N + 200 ≤ 1000000 ∧
  ∀ (v : V) (hs gs : Side) (t : Option Int) (H' : Hp), Fairish hs gs t → Im K H' v (partsD hs gs t) → But p H H' → Jug H' p (N + 200) → Q v H'
structure TxPa (K : PySem.W.Frag) (mg : Str → Option Value) (f_l_pour f_l_words : Addr) : Prop where
  n_tuple : mg "tuple" = none
  g_l_pour : mg "_law_pour" = some (.ref f_l_pour)
  k_l_pour : PySem.W.keepIn K (.ref f_l_pour) = true
  g_l_words : mg "_law_words" = some (.ref f_l_words)
  k_l_words : PySem.W.keepIn K (.ref f_l_words) = true
theorem ok_l_parts {f f_l_pour f_l_words : Addr} {fd fd_l_pour fd_l_words : FuncData} (F : Fun K "_law_parts" "_law_parts" s_l_parts f fd) (T : TxPa K mg f_l_pour f_l_words)
    (G_l_pour0 : FnOk P w K mg base CX0 1 f_l_pour fd_l_pour ["_law_jug_here", "_law_many"] sp_l_pour) (b_l_pour : Binds K fd_l_pour ["_law_jug_here", "_law_many"] [])
    (G_l_words : FnOk P w K mg base CX0 3 f_l_words fd_l_words ["_law_jug_here", "_law_many"] sp_l_words) (b_l_words : Binds K fd_l_words ["_law_jug_here", "_law_many"] []) :
    FnOk P w K mg base CX0 4 f fd ["_law_jug_here", "_law_most_here", "_law_most_there"] (sp_l_parts K) := by
  have G_l_pour := G_l_pour0.mono (show 1 ≤ 3 by decide)
  refine F.ok sc_l_parts (fun vs H Q E h => ?_) (fun cdv A outer s H vs Q E hr h => ?_)
  · obtain ⟨p, a, b, N, rfl, _⟩ := h
    rfl
  · obtain ⟨p, a, b, N, rfl, J, a1, a4, b1, b4, hN, k⟩ := h
    refine ⟨_, (pss_cons (ps_par (i := 3) (j := 4) (by rfl) sc_l_parts.nd rfl rfl (by decide) rfl rfl (pa_cons (pe_op op_add pe_int (pe_call G_l_pour hr rfl T.g_l_pour T.k_l_pour b_l_pour .nil pass0 (pa_cons (pv 0) (pa_cons (pv 1) pa_nil)))) (pa_cons (pe_op op_add pe_int (pe_call G_l_pour hr rfl T.g_l_pour T.k_l_pour b_l_pour .nil pass0 (pa_cons (pv 0) (pa_cons (pv 2) pa_nil)))) pa_nil)) (by rfl))
      (pss_cons (ps_setLc (i := 5) (own := [("_law_word_here", 7)]) (g := gName 7) (tt := tYes) rfl sc_l_parts.nd rfl rfl (sw_true rfl rfl rfl (by decide +kernel)) (pi_list (pe_call G_l_words hr rfl T.g_l_words T.k_l_words b_l_words .nil pass0 (pa_cons (pv 0) (pa_cons (pe_op op_add (pv 3) (pv 4)) pa_nil)))) (blkOk_by (own := [("_law_word_here", 7)]) (N := ["_law_jug_here", "_law_most_here", "_law_most_there", "_law_here", "_law_there", "_law_pairs", "_law_desks", "_law_word_here"]) (sc := defScope s_l_parts) (by decide +kernel)) (fun _ _ _ _ _ => (pg_name (i := 7) sc_l_parts.nd rfl (Or.inl rfl))) (fun _ _ _ _ _ => pts_nil) (fun _ _ _ _ _ => (pe_tup (pa_cons (pv 7) (pa_cons (pe_op op_add pe_int (pe_call G_l_pour hr rfl T.g_l_pour T.k_l_pour b_l_pour .nil pass0 (pa_cons (pv 0) (pa_cons pe_int pa_nil)))) pa_nil)))))
      (pss_cons (ps_set (i := 6) sc_l_parts.nd rfl (Or.inl rfl) (pe_ifExp (pt_cmpR op_eq (pe_call G_l_pour hr rfl T.g_l_pour T.k_l_pour b_l_pour .nil pass0 (pa_cons (pv 0) (pa_cons pe_int pa_nil))) pe_int (nomark _)) pe_non (pe_op op_add pe_int (pe_call G_l_pour hr rfl T.g_l_pour T.k_l_pour b_l_pour .nil pass0 (pa_cons (pv 0) (pa_cons pe_int pa_nil))))))
      (pss_one (ps_ret (pe_tup (pa_cons (pe_callTy call_tuple_of (by rfl) T.n_tuple (by decide +kernel) (pa_cons (pe_slice sl_list (pv 5) po_none (po_some (pv 3))) pa_nil)) (pa_cons (pe_callTy call_tuple_of (by rfl) T.n_tuple (by decide +kernel) (pa_cons (pe_slice sl_list (pv 5) (po_some (pv 3)) po_none) pa_nil)) (pa_cons (pv 6) pa_nil))))))))), ?_⟩
    refine ⟨_, rfl, _, rfl, p, a, N, rfl, J, by omega, by omega, by omega, fun r1 H1 r10 r11 bb1 j1 => ⟨_, _, rfl, rfl, ?_⟩⟩
    refine ⟨_, rfl, _, rfl, p, b, N + 1, rfl, j1, by omega, by omega, by omega, fun r2 H2 r20 r21 bb2 j2 => ⟨_, _, rfl, rfl, ?_⟩⟩
    refine ⟨_, _, rfl, ?_⟩
    obtain ⟨n1, rfl⟩ : ∃ n : Nat, r1 = (n : Int) := ⟨r1.toNat, by omega⟩
    obtain ⟨n2, rfl⟩ : ∃ n : Nat, r2 = (n : Int) := ⟨r2.toNat, by omega⟩
    have em : (1 + (n1 : Int)) + (1 + (n2 : Int)) = ((n1 + n2 + 2 : Nat) : Int) := by omega
    refine ⟨_, rfl, _, rfl, _, rfl, _, _, rfl, rfl, p, n1 + n2 + 2, N + 2, by rw [← em] <;> rfl, j2, by omega, by omega, fun q ws H3 nq hq hlen nd nm bb3 j3 => ?_⟩
    have nqp : q ≠ p := j2.ne nq
    refine ⟨q, rfl, ⟨_, SqL.of hq⟩, fun D nD => ?_⟩
    have nDp : D ≠ p := j3.ne nD
    have nDq : D ≠ q := fun e => by rw [e, hq] at nD; cases nD
    refine lc_list (K := K) (a := q) (xs := ws.map V.str) (fun j G => ∃ ps : List (Addr × Str × Int), ps.map (·.2.1) = ws.take j ∧ G D = some (.lst (ps.map fun z => V.ref z.1)) ∧
        (∀ z ∈ ps, G z.1 = some (.tup [.str z.2.1, .int z.2.2]) ∧ 1 ≤ z.2.2 ∧ z.2.2 ≤ 4) ∧ But p H3 G ∧ Jug G p (N + 2 + 11 * (n1 + n2 + 2) + j))
      ⟨[], rfl, upd_same, (fun z h => by cases h), But.new But.refl nD, (j3.but fun o e => (upd_ne nDp.symm).trans e)⟩ (fun j G _ ⟨ps, _, _, _, bG, _⟩ => SqL.of (bG _ _ nqp hq)) ?_ ?_
    · rintro j y G hy ⟨ps, e1, e2, e3, bG, jG⟩
      obtain ⟨u, hu, rfl⟩ : ∃ u, ws[j]? = some u ∧ y = V.str u := by
        rw [List.getElem?_map] at hy
        cases e : ws[j]? with
        | none => rw [e] at hy; cases hy
        | some u => rw [e] at hy; exact ⟨u, rfl, (Option.some.inj hy).symm⟩
      have hjl : j < ws.length := (List.getElem?_eq_some_iff.mp hu).1
      refine ⟨rfl, ?_⟩
      refine tyes ?_
      refine iteT ?_
      refine ⟨_, rfl, _, rfl, p, 4, _, rfl, jG, by omega, by decide, by decide, fun r3 G2 q30 q31 bb4 j4 => ⟨_, _, rfl, rfl, (by show 2 ≤ sizeLine; decide), fun t nt => ?_⟩⟩
      have ntp : t ≠ p := j4.ne nt
      have e2' : (upd G2 t (.tup [.str u, .int (1 + r3)])) D = some (.lst (ps.map fun z => V.ref z.1)) := (upd_ne (fun e => by rw [← e, bb4 D _ nDp e2] at nt; cases nt)).trans (bb4 D _ nDp e2)
      have lps : ps.length = j := by
        have := congrArg List.length e1
        rw [List.length_map, List.length_take] at this
        omega
      refine ⟨_, e2', ?_, ps ++ [(t, u, 1 + r3)], ?_, ?_, ?_, ?_, ?_⟩
      · rw [List.length_map, lps]
        exact Nat.lt_of_lt_of_le (show j < 100 by omega) (by decide)
      · rw [List.map_append, e1, List.take_add_one, hu] <;> rfl
      · rw [List.map_append]
        exact upd_same
      · intro z hz
        rcases List.mem_append.mp hz with hz | hz
        · obtain ⟨f1, f2⟩ := e3 z hz
          have nz : z.1 ≠ p := fun e => by
            obtain ⟨_, _, _, e9, _⟩ := jG
            rw [e, e9] at f1
            cases f1
          have f1' := bb4 _ _ nz f1
          have nzt : z.1 ≠ t := ne_of_none f1' nt
          have nzD : z.1 ≠ D := fun e => by rw [e, e2] at f1; cases f1
          exact ⟨(upd_ne nzD).trans ((upd_ne nzt).trans f1'), f2⟩
        · rw [List.mem_singleton] at hz
          subst hz
          have ntD : t ≠ D := fun e => by rw [e, bb4 D _ nDp e2] at nt; cases nt
          exact ⟨(upd_ne ntD).trans upd_same, by show 1 ≤ 1 + r3; omega, by show 1 + r3 ≤ 4; omega⟩
      · exact ((bG.trans bb4).new nt).mut nD
      · exact (j4.but fun o e => (upd_ne nDp.symm).trans ((upd_ne ntp.symm).trans e)).le (by omega)
    · rintro G ⟨ps, e1, e2, e3, bG, jG⟩
      rw [List.length_map] at e1 jG
      rw [List.take_length] at e1
      refine nxt ?_
      dsimp only
      refine seq_setH (fun v G' => ∃ t : Option Int, v = deskV t ∧ (∀ k, t = some k → 1 ≤ k ∧ k ≤ 12) ∧ But p G G' ∧ Jug G' p (N + 150)) ?_ ?_
      · intro Q' q'
        refine ⟨_, rfl, p, 3, _, rfl, jG, by omega, by decide, by decide, fun r4 G2 q40 q41 bb5 j5 => ⟨rfl, _, rfl, ?_⟩⟩
        refine ite2 (fun c => ?_) (fun c => ?_)
        · exact q' _ _ ⟨none, rfl, (fun k h => by cases h), bb5, j5.le (by omega)⟩
        · refine ⟨_, rfl, p, 12, _, rfl, j5, by omega, by decide, by decide, fun r5 G3 q50 q51 bb6 j6 => ⟨_, _, rfl, rfl, ?_⟩⟩
          exact q' _ _ ⟨some (1 + r5), rfl, (fun k h => by cases h; omega), bb5.trans bb6, j6.le (by omega)⟩
      · rintro _ G2 ⟨t, rfl, tb, bb7, j7⟩
        have e2' := bb7 D _ nDp e2
        have cutA : cutV (ps.map fun z => V.ref z.1) none (some (1 + (n1 : Int))) = (ps.take (1 + n1)).map fun z => V.ref z.1 := by
          rw [List.map_take, show (1 + (n1 : Int)) = ((1 + n1 : Nat) : Int) by omega]
          exact cut_to _ _
        have cutB : cutV (ps.map fun z => V.ref z.1) (some (1 + (n1 : Int))) none = (ps.drop (1 + n1)).map fun z => V.ref z.1 := by
          rw [List.map_drop, show (1 + (n1 : Int)) = ((1 + n1 : Nat) : Int) by omega]
          exact cut_from _ _
        refine ⟨_, rfl, _, rfl, _, rfl, D, _, rfl, SqL.of e2', fun c1 nc1 => ⟨c1, _, rfl, .inl ⟨SqL.of upd_same, fun c2 nc2 => ?_⟩⟩⟩
        have m1 : D ≠ c1 := ne_of_none e2' nc1
        have e2a : (upd G2 c1 (.lst (cutV (ps.map fun z => V.ref z.1) none (some (1 + (n1 : Int)))))) D = some (.lst (ps.map fun z => V.ref z.1)) := (upd_ne m1).trans e2'
        have m2 : D ≠ c2 := ne_of_none e2a nc2
        have e2b : (upd (upd G2 c1 (.lst (cutV (ps.map fun z => V.ref z.1) none (some (1 + (n1 : Int)))))) c2 (.tup (cutV (ps.map fun z => V.ref z.1) none (some (1 + (n1 : Int)))))) D = some (.lst (ps.map fun z => V.ref z.1)) := (upd_ne m2).trans e2a
        refine ⟨_, rfl, _, rfl, _, rfl, D, _, rfl, SqL.of e2b, fun c3 nc3 => ⟨c3, _, rfl, .inl ⟨SqL.of upd_same, fun c4 nc4 => ?_⟩⟩⟩
        refine ⟨_, rfl, (by show 3 ≤ sizeLine; decide), fun c5 nc5 => ?_⟩
        have bH : But p H G2 := (((bb1.trans bb2).trans bb3).trans bG).trans bb7
        refine k _ (ps.take (1 + n1) |>.map (·.2)) (ps.drop (1 + n1) |>.map (·.2)) t _ ?_ ?_ ((((((bH.new nc1).new nc2).new nc3).new nc4).new nc5)) ?_
        · have lps : ps.length = n1 + n2 + 2 := by
            have := congrArg List.length e1
            rw [List.length_map] at this
            omega
          have whole : (ps.take (1 + n1)).map (·.2) ++ (ps.drop (1 + n1)).map (·.2) = ps.map (·.2) := by
            rw [← List.map_append, List.take_append_drop]
          refine ⟨?_, ?_, ?_, ?_, ?_, ?_, ?_, tb⟩
          · rw [List.length_map, List.length_take]; omega
          · rw [List.length_map, List.length_take]; omega
          · rw [List.length_map, List.length_drop]; omega
          · rw [List.length_map, List.length_drop]; omega
          · rw [whole, List.map_map]
            show (ps.map (·.2.1)).Nodup
            rw [e1]
            exact nd
          · rw [whole]
            intro z hz
            obtain ⟨y, hy, rfl⟩ := List.mem_map.mp hz
            have : y.2.1 ∈ ps.map (·.2.1) := List.mem_map.mpr ⟨y, hy, rfl⟩
            rw [e1] at this
            exact nm _ this
          · rw [whole]
            intro z hz
            obtain ⟨y, hy, rfl⟩ := List.mem_map.mp hz
            exact (e3 y hy).2
        · have tk : ∀ z ∈ ps, G2 z.1 = some (.tup [.str z.2.1, .int z.2.2]) := fun z hz => by
            obtain ⟨f1, _⟩ := e3 z hz
            have nz : z.1 ≠ p := fun e => by
              obtain ⟨_, _, _, e9, _⟩ := jG
              rw [e, e9] at f1
              cases f1
            exact bb7 _ _ nz f1
          have ia := im_pairs (K := K) (ps.take (1 + n1)) fun z hz => tk z (List.mem_of_mem_take hz)
          have ib := im_pairs (K := K) (ps.drop (1 + n1)) fun z hz => tk z (List.mem_of_mem_drop hz)
          have s1 := same_new (o := .lst (cutV (ps.map fun z => V.ref z.1) none (some (1 + (n1 : Int))))) (Same.refl G2) nc1
          have s2 := same_new (o := .tup (cutV (ps.map fun z => V.ref z.1) none (some (1 + (n1 : Int))))) s1 nc2
          have s3 := same_new (o := .lst (cutV (ps.map fun z => V.ref z.1) (some (1 + (n1 : Int))) none)) s2 nc3
          have s4 := same_new (o := .tup (cutV (ps.map fun z => V.ref z.1) (some (1 + (n1 : Int))) none)) s3 nc4
          have s5 := same_new (o := .tup [.ref c2, .ref c4, deskV t]) s4 nc5
          refine .tup (SqT.of upd_same) (.cons (.tup (SqT.of (xs := (ps.take (1 + n1)).map fun z => V.ref z.1) ?_) (ia.to (Tk.same s5) _ _)) (.cons (.tup (SqT.of (xs := (ps.drop (1 + n1)).map fun z => V.ref z.1) ?_) (ib.to (Tk.same s5) _ _)) (.cons (im_desk t) .nil)))
          · rw [← cutA]
            have h2 : (upd (upd G2 c1 (.lst (cutV (ps.map fun z => V.ref z.1) none (some (1 + (n1 : Int)))))) c2 (.tup (cutV (ps.map fun z => V.ref z.1) none (some (1 + (n1 : Int)))))) c2 = some (.tup (cutV (ps.map fun z => V.ref z.1) none (some (1 + (n1 : Int))))) := upd_same
            exact (same_new (same_new (same_new (Same.refl _) nc3) nc4) nc5) _ _ h2
          · rw [← cutB]
            exact (same_new (Same.refl _) nc5) _ _ upd_same
        · exact (j7.but fun o e => (same_new (same_new (same_new (same_new (same_new (Same.refl _) nc1) nc2) nc3) nc4) nc5) _ _ e).le (by omega)
end
end F02
namespace F02
open PySem PySem.Spec PyProof.Rows L2 MG
theorem seq_if {c : TT} {t1 t2 ts : TS} {D : Ends} {σ : L2.St} {H : Hp} {b : Bool} (h : ∀ Q : Bool → Hp → Prop, Q b H → c σ H Q) (y : b = true → t1 { D with nx := ts D } σ H) (n : b = false → t2 { D with nx := ts D } σ H) : tSeq (tIfS c t1 t2) ts D σ H := by
  refine h _ ?_
  cases b with
  | true => exact iteT (y rfl)
  | false => exact iteF (n rfl)
theorem seq_ifH {c : TT} {t1 t2 ts : TS} {D : Ends} {σ : L2.St} {H : Hp} {b : Bool} (R : Hp → Prop) (h : ∀ Q : Bool → Hp → Prop, (∀ H', R H' → Q b H') → c σ H Q) (y : ∀ H', R H' → b = true → t1 { D with nx := ts D } σ H')
    (n : ∀ H', R H' → b = false → t2 { D with nx := ts D } σ H') : tSeq (tIfS c t1 t2) ts D σ H := by
  refine h _ fun H' r => ?_
  cases b with
  | true => exact iteT (y H' r rfl)
  | false => exact iteF (n H' r rfl)
theorem seq_ifN {c : TT} {t1 ts : TS} {D : Ends} {σ : L2.St} {H : Hp} {b : Bool} (h : ∀ Q : Bool → Hp → Prop, Q b H → c σ H Q) (y : b = true → t1 { D with nx := ts D } σ H) (n : b = false → ts D σ H) : tSeq (tIfS c t1 tNext) ts D σ H := seq_if h y n
theorem seq_ifNH {c : TT} {t1 ts : TS} {D : Ends} {σ : L2.St} {H : Hp} {b : Bool} (R : Hp → Prop) (h : ∀ Q : Bool → Hp → Prop, (∀ H', R H' → Q b H') → c σ H Q) (y : ∀ H', R H' → b = true → t1 { D with nx := ts D } σ H')
    (n : ∀ H', R H' → b = false → ts D σ H') : tSeq (tIfS c t1 tNext) ts D σ H := seq_ifH R h y n
section
variable {P : Program} {w : World} {K : PySem.W.Frag} {mg : Str → Option Value} {base : Heap}
/-! ### is_integer -/
abbrev s_is_integer : Stmt := top 13
theorem sc_is_integer : FnScope ["value", "least", "most"] ["value", "least", "most"] (defScope s_is_integer) := ⟨rfl, rfl, rfl, by decide +kernel, rfl, by decide +kernel, by decide +kernel⟩
def sp_is_integer : Sp := fun vs H Q _ => ∃ v a b : Int, vs = [.int v, .int a, .int b] ∧ Q (.bl (decide (a ≤ v) && decide (v ≤ b))) H
structure TxI (mg : Str → Option Value) : Prop where
  n_isinstance : mg "isinstance" = none
  n_int : mg "int" = none
  n_bool : mg "bool" = none
abbrev FII (K : PySem.W.Frag) (f : Addr) (fd : FuncData) : Prop := FunD K "is_integer" "is_integer" (defArgs s_is_integer) (defBody s_is_integer) (defScope s_is_integer) [.non] [] f fd
theorem b_is_integer3 {K : PySem.W.Frag} {f : Addr} {fd : FuncData} (F : FII K f fd) : Binds K fd ["value", "least", "most"] [] := by
  obtain ⟨ds, r, h⟩ := F.binds1 (ps := ["value", "least", "most"]) 3 1 (by simp) rfl (fun T kV doc pm an cdv ct us its l1 l2 => by
    obtain ⟨a, b, c, rfl⟩ : ∃ a b c, us = [a, b, c] := by
      match us, l1 with
      | [a, b, c], _ => exact ⟨a, b, c, rfl⟩
    obtain ⟨e, rfl⟩ : ∃ e, its = [e] := by
      match its, l2 with
      | [e], _ => exact ⟨e, rfl⟩
    exact ⟨_, rfl, rfl⟩)
  cases r
  exact h
theorem ok_is_integer {f : Addr} {fd : FuncData} (F : FII K f fd) (T : TxI mg) : FnOk P w K mg base CX0 1 f fd ["value", "least", "most"] sp_is_integer := by
  refine F.ok sc_is_integer (fun vs H Q E h => ?_) (fun cdv A outer s H vs Q E hr h => ?_)
  · obtain ⟨v, a, b, rfl, _⟩ := h
    rfl
  · obtain ⟨v, a, b, rfl, k⟩ := h
    refine ⟨_, (pss_cons (ps_if (PW.pt (pw_or (pt_not (pt_val (pe_callB call_isi (by rfl) T.n_isinstance (by decide +kernel) (pa_cons (pv 0) (pa_cons (pe_bltn (v := .ty "int") (by rfl) T.n_int (by decide +kernel) rfl) pa_nil))))) (pw_or1 (pt_val (pe_callB call_isi (by rfl) T.n_isinstance (by decide +kernel) (pa_cons (pv 0) (pa_cons (pe_bltn (v := .ty "bool") (by rfl) T.n_bool (by decide +kernel) rfl) pa_nil)))))))
        (pss_one (ps_ret pe_bl))
        pss_nil)
      (pss_one (ps_ret (pe_and (pe_cmpR op_le (pv 1) (pv 0) (nomark _)) (pe_one (pe_or (pe_cmpR op_isN (pv 2) pe_non (nomark _)) (pe_one (pe_cmpR op_le (pv 0) (pv 2) (nomark _))))))))), ?_⟩
    refine seq_ifN (b := false) (fun Q' q' => ?_) (fun c => nomatch c) (fun _ => ?_)
    · refine ⟨_, rfl, .int v, .ty "int", _, _, true, rfl, .ty "int", .base (.int v), kit_ty (by decide +kernel), _, rfl, ?_⟩
      refine iteF ⟨_, rfl, .int v, .ty "bool", _, _, false, rfl, .ty "bool", .base (.int v), kit_ty (by decide +kernel), _, rfl, ?_⟩
      exact q'
    · refine ⟨_, rfl, _, rfl, _, _, rfl, rfl, _, rfl, ?_⟩
      by_cases c : a ≤ v
      · refine if_true_of (decide_eq_true c) ⟨_, rfl, rfl, false, rfl, ?_⟩
        refine if_false_of rfl ⟨_, rfl, _, rfl, _, _, rfl, rfl, ?_⟩
        rw [decide_eq_true c, Bool.true_and] at k
        exact k
      · refine if_false_of (decide_eq_false c) ?_
        rw [decide_eq_false c, Bool.false_and] at k
        exact k
/-! ### is_name -/
theorem in_low (c : Nat) : decide (c ∈ ("abcdefghijklmnopqrstuvwxyz" : Str).cps.toList) = lowB c := by
  by_cases h : c < 128
  · have q : ∀ j : _root_.Fin 128, decide (j.val ∈ ("abcdefghijklmnopqrstuvwxyz" : Str).cps.toList) = lowB j.val := by decide +kernel
    exact q ⟨c, h⟩
  · have e : lowB c = false := by unfold lowB; exact decide_eq_false (by omega)
    rw [e]
    refine decide_eq_false fun m => ?_
    have q : ∀ x ∈ ("abcdefghijklmnopqrstuvwxyz" : Str).cps.toList, x < 128 := by decide +kernel
    exact h (q c m)
theorem in_signs (c : Nat) : decide (c ∈ SIGNS.cps.toList) = signB c := by
  by_cases h : c < 128
  · have q : ∀ j : _root_.Fin 128, decide (j.val ∈ SIGNS.cps.toList) = signB j.val := by decide +kernel
    exact q ⟨c, h⟩
  · have e : signB c = false := by
      unfold signB lowB
      rw [decide_eq_false (by omega), decide_eq_false (by omega)] <;> rfl
    rw [e]
    refine decide_eq_false fun m => ?_
    have q : ∀ x ∈ SIGNS.cps.toList, x < 128 := by decide +kernel
    exact h (q c m)
abbrev s_is_name : Stmt := top 14
theorem sc_is_name : FnScope ["value", "sign"] ["value"] (defScope s_is_name) := ⟨rfl, rfl, rfl, by decide +kernel, rfl, by decide +kernel, by decide +kernel⟩
def sp_is_name : Sp := fun vs H Q _ => ∃ x : Str, vs = [.str x] ∧ x.length ≤ 10000 ∧ ∀ H', Same H H' → Q (.bl (nameL x.cps.toList)) H'
structure TxN (mg : Str → Option Value) : Prop where
  n_isinstance : mg "isinstance" = none
  n_str : mg "str" = none
  n_len : mg "len" = none
  n_all : mg "all" = none
  g_LONGEST_NAME : ∃ t, mg "_LONGEST_NAME" = some (.int 8 t)
  g_FIRST_SIGNS : ∃ t, mg "_FIRST_SIGNS" = some (.str "abcdefghijklmnopqrstuvwxyz" t)
  g_SIGNS : ∃ t, mg "_SIGNS" = some (.str SIGNS t)
theorem ok_is_name {f : Addr} {fd : FuncData} (F : Fun K "is_name" "is_name" s_is_name f fd) (T : TxN mg) : FnOk P w K mg base CX0 1 f fd ["value"] sp_is_name := by
  obtain ⟨t1, g1⟩ := T.g_LONGEST_NAME
  obtain ⟨t2, g2⟩ := T.g_FIRST_SIGNS
  obtain ⟨t3, g3⟩ := T.g_SIGNS
  refine F.ok sc_is_name (fun vs H Q E h => ?_) (fun cdv A outer s H vs Q E hr h => ?_)
  · obtain ⟨x, rfl, _⟩ := h
    rfl
  · obtain ⟨x, rfl, hz, k⟩ := h
    refine ⟨_, (pss_cons (ps_if (PW.pt (pw_or (pt_not (pt_val (pe_callB call_isi (by rfl) T.n_isinstance (by decide +kernel) (pa_cons (pv 0) (pa_cons (pe_bltn (v := .ty "str") (by rfl) T.n_str (by decide +kernel) rfl) pa_nil))))) (pw_or1 (pt_not (pt_chain op_le op_le pe_int (pe_callB call_len (by rfl) T.n_len PySem.boot_len (pa_cons (pv 0) pa_nil)) (pe_glob (v := .int 8) rfl g1 ⟨_, rfl⟩))))))
        (pss_one (ps_ret pe_bl))
        pss_nil)
      (pss_one (ps_ret (pe_and (pe_cmpR op_in_sign (pe_ix ix_str (pv 0) pe_int (fun _ _ => rfl)) (pe_glob (v := .str "abcdefghijklmnopqrstuvwxyz") rfl g2 ⟨_, rfl⟩) rfl) (pe_one (pe_callB (cr_all rfl) (by rfl) T.n_all (by decide +kernel) (pa_cons (pe_lc (own := [("sign", 1)]) (g := gName 1) (tt := tYes) rfl sc_is_name.nd (pi_str (pv 0)) (blkOk_by (own := [("sign", 1)]) (N := ["value", "sign"]) (sc := defScope s_is_name) (by decide +kernel)) (fun _ _ _ _ _ => (pg_name (i := 1) sc_is_name.nd rfl (Or.inl rfl))) (fun _ _ _ _ _ => pts_nil) (fun _ _ _ _ _ => (pe_cmpR op_in_sign (pv 1) (pe_glob (v := .str SIGNS) rfl g3 ⟨_, rfl⟩) rfl))) pa_nil))))))), ?_⟩
    refine seq_if (b := !(decide (1 ≤ x.length) && decide (x.length ≤ 8))) (fun Q' q' => ?_) (fun c => ?_) (fun c => ?_)
    · refine ⟨_, rfl, .str x, .ty "str", _, _, true, rfl, .ty "str", .base (.str x), kit_ty (by decide +kernel), _, rfl, ?_⟩
      refine iteF ?_
      refine ⟨_, rfl, _, x.length, rfl, ⟨Nat.le_trans hz (by decide), rfl⟩, _, _, rfl, rfl, _, rfl, ?_⟩
      by_cases h1 : 1 ≤ x.length
      · refine if_true_of (decide_eq_true (by omega)) ⟨_, _, rfl, rfl, _, rfl, ?_⟩
        rw [decide_eq_true h1, Bool.true_and] at q'
        have e8 : decide ((x.length : Int) ≤ 8) = decide (x.length ≤ 8) := by
          by_cases h : x.length ≤ 8
          · rw [decide_eq_true h, decide_eq_true (by omega)]
          · rw [decide_eq_false h, decide_eq_false (by omega)]
        rw [e8]
        exact q'
      · refine if_false_of (decide_eq_false (by omega)) ⟨_, rfl, ?_⟩
        rw [decide_eq_false h1, Bool.false_and] at q'
        exact q'
    · -- too short or too long
      have e : nameL x.cps.toList = false := by
        have el : x.length = x.cps.toList.length := (Array.length_toList).symm
        cases h : x.cps.toList with
        | nil => rfl
        | cons a r =>
          rw [h, List.length_cons] at el
          show (lowB a && decide (r.length ≤ 7) && r.all signB) = false
          have : ¬ r.length ≤ 7 := fun z => by
            rw [decide_eq_true (show 1 ≤ x.length by omega), decide_eq_true (show x.length ≤ 8 by omega)] at c
            cases c
          rw [decide_eq_false this]
          simp
      have := k H (Same.refl H)
      rw [e] at this
      exact this
    · have hl : 1 ≤ x.length ∧ x.length ≤ 8 := by
        by_cases h1 : 1 ≤ x.length
        · by_cases h2 : x.length ≤ 8
          · exact ⟨h1, h2⟩
          · rw [decide_eq_true h1, decide_eq_false h2] at c; cases c
        · rw [decide_eq_false h1] at c; cases c
      have el : x.cps.toList.length = x.length := Array.length_toList
      obtain ⟨a, r, ex⟩ : ∃ a r, x.cps.toList = a :: r := by
        cases h : x.cps.toList with
        | nil => rw [h] at el; simp at el; omega
        | cons a r => exact ⟨a, r, rfl⟩
      have er : r.length ≤ 7 := by rw [ex, List.length_cons] at el; omega
      have en : nameL x.cps.toList = (lowB a && (x.cps.toList.all signB)) := by
        rw [ex]
        show (lowB a && decide (r.length ≤ 7) && r.all signB) = (lowB a && (signB a && r.all signB))
        rw [decide_eq_true er, Bool.and_true]
        cases hb : lowB a with
        | false => simp
        | true =>
          have : signB a = true := by unfold signB; rw [hb] <;> rfl
          rw [this] <;> rfl
      rw [en] at k
      refine ⟨_, rfl, x, 0, a, rfl, rfl, Nat.le_trans hz (by decide), atI_nat (by decide) (by rw [ex] <;> rfl), _, _, rfl, rfl, _, rfl, ?_⟩
      rw [in_low]
      by_cases hb : lowB a = true
      · rw [hb, Bool.true_and] at k
        refine if_true_of hb ⟨_, rfl, x, rfl, fun D nD => ?_⟩
        refine lc_it walk_str (fun j G => G D = some (.lst (((x.cps.toList.take j).map signB).map V.bl)) ∧ Same H G) ⟨upd_same, same_new (Same.refl H) nD⟩ (fun _ _ _ _ => True.intro) ?_ ?_
        · rintro j _ G _ hj ⟨z1, z2⟩ ⟨rfl, c, hc, rfl⟩
          refine ⟨rfl, ?_⟩
          refine tyes ?_
          refine iteT ?_
          refine ⟨_, rfl, c, _, rfl, rfl, _, z1, ?_, ?_, ?_⟩
          · rw [List.length_map, List.length_map, List.length_take]
            exact Nat.lt_of_lt_of_le (show _ < 100 by omega) (by decide)
          · show (upd _ D _) D = _
            have hc' : x.cps.toList[j]? = some c := by rw [Array.getElem?_toList]; exact hc
            rw [upd_same, in_signs, List.take_add_one, hc', List.map_append, List.map_append] <;> rfl
          · intro b o hb2
            rw [upd_ne (ne_of_none hb2 nD)]
            exact z2 b o hb2
        · rintro G ⟨z1, z2⟩
          rw [← Array.length_toList, List.take_length] at z1
          refine ⟨D, _, rfl, SqL.of z1, ?_⟩
          have := k G z2
          rw [List.all_map]
          exact this
      · have hb' : lowB a = false := by simpa using hb
        rw [hb', Bool.false_and] at k
        exact if_false_of hb' (k H (Same.refl H))
end
end F02
namespace F02
open PySem PySem.Spec PyProof.Rows L2 MG
section
variable {P : Program} {w : World} {K : PySem.W.Frag} {mg : Str → Option Value} {base : Heap}
theorem ty_tup {H : Hp} {a : Addr} {xs : List V} (h : SqT K H a xs) : TyX K H (.ref a) (.type "tuple") := by
  rcases h with (h | ⟨o, h⟩) | ⟨o, its, n, h1, h2, h3⟩
  · exact .base (.tup h)
  · exact .fTuple h
  · exact .kTuple h1 h2
theorem im_pair {H : Hp} {v : V} {z : Str × Int} (h : Im K H v (pD z)) : ∃ a, v = .ref a ∧ SqT K H a [.str z.1, .int z.2] := by
  cases h with
  | tup h1 h2 =>
    cases h2 with
    | cons a b =>
      cases b with
      | cons c d =>
        cases d
        cases a
        cases c
        exact ⟨_, rfl, h1⟩
theorem im_parts {H : Hp} {v : V} {hs gs : Side} {t : Option Int} (h : Im K H v (partsD hs gs t)) : ∃ a vh vg, v = .ref a ∧ SqT K H a [vh, vg, deskV t] ∧ Im K H vh (sideD hs) ∧ Im K H vg (sideD gs) := by
  cases h with
  | tup h1 h2 =>
    cases h2 with
    | cons x1 h3 =>
      cases h3 with
      | cons x2 h4 =>
        cases h4 with
        | cons x3 h5 =>
          cases h5
          refine ⟨_, _, _, rfl, ?_, x1, x2⟩
          cases t with
          | none => cases x3; exact h1
          | some k => cases x3; exact h1
theorem im_side {H : Hp} {v : V} {l : Side} (h : Im K H v (sideD l)) : ∃ a xs, v = .ref a ∧ SqT K H a xs ∧ ImAll K H xs (l.map pD) := by
  cases h with
  | tup h1 h2 => exact ⟨_, _, rfl, h1, h2⟩
/-! ### _is_member -/
abbrev s_is_member : Stmt := top 17
theorem sc_is_member : FnScope ["value"] ["value"] (defScope s_is_member) := ⟨rfl, rfl, rfl, by decide +kernel, rfl, by decide +kernel, by decide +kernel⟩
def sp_is_member (K : PySem.W.Frag) : Sp := fun vs H Q _ => ∃ (v : V) (z : Str × Int), vs = [v] ∧ Im K H v (pD z) ∧ Nm z.1 ∧ z.1.length ≤ 8 ∧ 1 ≤ z.2 ∧ z.2 ≤ 4 ∧ ∀ H', Same H H' → Q (.bl true) H'
abbrev s_is_pair : Stmt := top 15
theorem sc_is_pair : FnScope ["value"] ["value"] (defScope s_is_pair) := ⟨rfl, rfl, rfl, by decide +kernel, rfl, by decide +kernel, by decide +kernel⟩
def sp_is_pair (K : PySem.W.Frag) : Sp := fun vs H Q _ => ∃ (a : Addr) (x y : V), vs = [.ref a] ∧ SqT K H a [x, y] ∧ Q (.bl true) H
theorem ok_is_pair {f : Addr} {fd : FuncData} (F : Fun K "is_pair" "is_pair" s_is_pair f fd) (n_isinstance : mg "isinstance" = none) (n_tuple : mg "tuple" = none) (n_len : mg "len" = none) :
    FnOk P w K mg base CX0 1 f fd ["value"] (sp_is_pair K) := by
  refine F.ok sc_is_pair (fun vs H Q E h => ?_) (fun cdv A outer s H vs Q E hr h => ?_)
  · obtain ⟨a, x, y, rfl, _⟩ := h
    rfl
  · obtain ⟨a, x, y, rfl, ha, k⟩ := h
    refine ⟨_, (pss_one (ps_ret (pe_and (pe_callB call_isi (by rfl) n_isinstance (by decide +kernel) (pa_cons (pv 0) (pa_cons (pe_bltn (v := .ty "tuple") (by rfl) n_tuple (by decide +kernel) rfl) pa_nil))) (pe_one (pe_cmpR op_eq (pe_callB call_len_seq (by rfl) n_len PySem.boot_len (pa_cons (pv 0) pa_nil)) pe_int (nomark _)))))), ?_⟩
    refine ⟨_, rfl, .ref a, .ty "tuple", _, _, true, rfl, .ty "tuple", ty_tup ha, kit_ty (by decide +kernel), ?_⟩
    refine ⟨_, rfl, ?_⟩
    refine iteT ⟨_, rfl, a, _, rfl, .inr ha, rfl, ?_⟩
    exact k
structure TxM (K : PySem.W.Frag) (mg : Str → Option Value) (f_is_pair f_is_name f_is_integer : Addr) : Prop where
  g_MOST_BOUND : ∃ t, mg "MOST_BOUND" = some (.int 4 t)
  g_is_pair : mg "is_pair" = some (.ref f_is_pair)
  k_is_pair : PySem.W.keepIn K (.ref f_is_pair) = true
  g_is_name : mg "is_name" = some (.ref f_is_name)
  k_is_name : PySem.W.keepIn K (.ref f_is_name) = true
  g_is_integer : mg "is_integer" = some (.ref f_is_integer)
  k_is_integer : PySem.W.keepIn K (.ref f_is_integer) = true
theorem ok_is_member {f f_is_pair f_is_name f_is_integer : Addr} {fd fd_is_pair fd_is_name fd_is_integer : FuncData} (F : Fun K "_is_member" "_is_member" s_is_member f fd) (T : TxM K mg f_is_pair f_is_name f_is_integer)
    (G_is_pair : FnOk P w K mg base CX0 1 f_is_pair fd_is_pair ["value"] (sp_is_pair K)) (b_is_pair : Binds K fd_is_pair ["value"] [])
    (G_is_name : FnOk P w K mg base CX0 1 f_is_name fd_is_name ["value"] sp_is_name) (b_is_name : Binds K fd_is_name ["value"] [])
    (G_is_integer : FnOk P w K mg base CX0 1 f_is_integer fd_is_integer ["value", "least", "most"] sp_is_integer) (b_is_integer : Binds K fd_is_integer ["value", "least", "most"] []) :
    FnOk P w K mg base CX0 2 f fd ["value"] (sp_is_member K) := by
  obtain ⟨t1, g1⟩ := T.g_MOST_BOUND
  refine F.ok sc_is_member (fun vs H Q E h => ?_) (fun cdv A outer s H vs Q E hr h => ?_)
  · obtain ⟨v, z, rfl, _⟩ := h
    rfl
  · obtain ⟨v, z, rfl, hv, hn, hl, hb1, hb2, k⟩ := h
    obtain ⟨a, rfl, ha⟩ := im_pair hv
    refine ⟨_, (pss_one (ps_ret (pe_and (pe_call G_is_pair hr rfl T.g_is_pair T.k_is_pair b_is_pair .nil pass0 (pa_cons (pv 0) pa_nil)) (pe_and (pe_call G_is_name hr rfl T.g_is_name T.k_is_name b_is_name .nil pass0 (pa_cons (pe_ix ix_tup (pv 0) pe_int (fun _ _ => rfl)) pa_nil)) (pe_one (pe_call G_is_integer hr rfl T.g_is_integer T.k_is_integer b_is_integer .nil pass0 (pa_cons (pe_ix ix_tup (pv 0) pe_int (fun _ _ => rfl)) (pa_cons pe_int (pa_cons (pe_glob (v := .int 4) rfl g1 ⟨_, rfl⟩) pa_nil))))))))), ?_⟩
    refine ⟨_, rfl, a, _, _, rfl, ha, ?_⟩
    refine ⟨_, rfl, ?_⟩
    refine iteT ?_
    refine ⟨_, rfl, a, _, 0, _, rfl, rfl, ha, rfl, z.1, rfl, by omega, fun H1 s1 => ⟨_, rfl, ?_⟩⟩
    refine if_true_of hn ?_
    refine ⟨_, rfl, a, _, 1, _, rfl, rfl, (Tk.same s1).sq ha, rfl, z.2, 1, 4, rfl, ?_⟩
    rw [decide_eq_true hb1, decide_eq_true hb2]
    exact k H1 s1
/-! ### _names_of -/
def namesD (l : Side) : PyData := .tuple (l.map fun z => .str z.1)
abbrev s_names_of : Stmt := top 19
theorem sc_names_of : FnScope ["side", "member"] ["side"] (defScope s_names_of) := ⟨rfl, rfl, rfl, by decide +kernel, rfl, by decide +kernel, by decide +kernel⟩
def sp_names_of (K : PySem.W.Frag) : Sp := fun vs H Q _ => ∃ (v : V) (l : Side), vs = [v] ∧ Im K H v (sideD l) ∧ l.length ≤ 64 ∧ ∀ p H', Same H H' → H p = none → H' p = some (.tup (l.map fun z => V.str z.1)) → Q (.ref p) H'
theorem ok_names_of {f : Addr} {fd : FuncData} (F : Fun K "_names_of" "_names_of" s_names_of f fd) (n_tuple : mg "tuple" = none) : FnOk P w K mg base CX0 1 f fd ["side"] (sp_names_of K) := by
  refine F.ok sc_names_of (fun vs H Q E h => ?_) (fun cdv A outer s H vs Q E hr h => ?_)
  · obtain ⟨v, l, rfl, _⟩ := h
    rfl
  · obtain ⟨v, l, rfl, hv, hl, k⟩ := h
    obtain ⟨a, xs, rfl, ha, hx⟩ := im_side hv
    refine ⟨_, (pss_one (ps_ret (pe_callTy call_tuple_of (by rfl) n_tuple (by decide +kernel) (pa_cons (pe_lc (own := [("member", 1)]) (g := gName 1) (tt := tYes) rfl sc_names_of.nd (pi_tup (pv 0)) (blkOk_by (own := [("member", 1)]) (N := ["side", "member"]) (sc := defScope s_names_of) (by decide +kernel)) (fun _ _ _ _ _ => (pg_name (i := 1) sc_names_of.nd rfl (Or.inl rfl))) (fun _ _ _ _ _ => pts_nil) (fun _ _ _ _ _ => (pe_ix (r := rIxT K) ix_tup (pv 1) pe_int (fun _ _ => rfl)))) pa_nil)))), ?_⟩
    have lx : xs.length = l.length := by rw [hx.length, List.length_map]
    refine ⟨_, rfl, a, rfl, ⟨_, ha⟩, fun D nD => ?_⟩
    refine lc_tup (K := K) (a := a) (xs := xs) (fun j G => G D = some (.lst ((l.take j).map fun z => V.str z.1)) ∧ Same H G) ⟨upd_same, same_new (Same.refl H) nD⟩ (fun j G _ z => (Tk.same z.2).sq ha) ?_ ?_
    · rintro j y G hy ⟨z1, z2⟩
      obtain ⟨d, hd, im⟩ := hx.get hy
      obtain ⟨z, hz, rfl⟩ : ∃ z, l[j]? = some z ∧ d = pD z := by
        rw [List.getElem?_map] at hd
        cases e : l[j]? with
        | none => rw [e] at hd; cases hd
        | some u => rw [e] at hd; exact ⟨u, rfl, (Option.some.inj hd).symm⟩
      obtain ⟨b, rfl, hb⟩ := im_pair im
      have hj : j < l.length := (List.getElem?_eq_some_iff.mp hz).1
      refine ⟨rfl, ?_⟩
      refine tyes ?_
      refine iteT ?_
      refine ⟨_, rfl, b, _, 0, _, rfl, rfl, (Tk.same z2).sq hb, rfl, _, z1, ?_, ?_, ?_⟩
      · rw [List.length_map, List.length_take]
        exact Nat.lt_of_lt_of_le (show _ < 100 by omega) (by decide)
      · show (upd G D _) D = _
        rw [upd_same, List.take_add_one, hz, List.map_append] <;> rfl
      · intro c o hc
        rw [upd_ne (ne_of_none hc nD)]
        exact z2 c o hc
    · rintro G ⟨z1, z2⟩
      rw [lx, List.take_length] at z1
      exact ⟨D, _, rfl, .inl ⟨SqL.of z1, fun p np => k p _ (same_new z2 np) (z2.free np) upd_same⟩⟩
end
end F02
namespace F02
open PySem PySem.Spec PyProof.Rows L2 MG
theorem str_ext {x y : Str} (h : x.cps.toList = y.cps.toList) : x = y := by
  obtain ⟨⟨a⟩⟩ := x
  obtain ⟨⟨b⟩⟩ := y
  simp only at h
  rw [h]
theorem empty_app (x : Str) : Str.empty ++ x = x := str_ext (by rw [app_cps] <;> rfl)
theorem app_assoc (x y z : Str) : x ++ y ++ z = x ++ (y ++ z) := str_ext (by rw [app_cps, app_cps, app_cps, app_cps, List.append_assoc])
theorem app_len (x y : Str) : (x ++ y).length = x.length + y.length := by
  show (x ++ y).cps.size = x.cps.size + y.cps.size
  rw [← Array.length_toList, app_cps, List.length_append, Array.length_toList, Array.length_toList]
/-! ### the text of a fair -/
def num (i : Int) : Str := Str.ofString (toString i)
theorem num_len {i : Int} (h0 : 0 ≤ i) (h : i < 100) : (num i).length ≤ 2 := by
  have q : ∀ j : _root_.Fin 100, (num (j.val : Int)).length ≤ 2 := by decide +kernel
  have := q ⟨i.toNat, by omega⟩
  rw [show ((⟨i.toNat, by omega⟩ : _root_.Fin 100).val : Int) = i by show ((i.toNat : Nat) : Int) = i; omega] at this
  exact this
def rowT (kind : Str) (z : Str × Int) : Str := kind ++ z.1 ++ " " ++ num z.2
def deskT : Option Int → List Str
  | none => []
  | some k => ["tables " ++ num k]
def rowsT (hs gs : Side) (t : Option Int) : List Str := hs.map (rowT "host ") ++ gs.map (rowT "guest ") ++ deskT t
def textT (hs gs : Side) (t : Option Int) : Str := Txt.join "\n" (rowsT hs gs t)
theorem rowT_len {kind : Str} {z : Str × Int} (hk : kind.length ≤ 6) (h1 : z.1.length ≤ 8) (h2 : 1 ≤ z.2) (h3 : z.2 ≤ 4) : (rowT kind z).length ≤ 17 := by
  unfold rowT
  rw [app_len, app_len, app_len]
  have := num_len (i := z.2) (by omega) (by omega)
  have : ((" " : Str)).length = 1 := by decide +kernel
  omega
/-- a comprehension over pairs of a name and a bound that makes a text of each -/
theorem lc_pairs {K : PySem.W.Frag} {a : Addr} {xs : List V} {l : Side} {te : TE} {i j : Nat} {vs : List Nat} {σ : L2.St} {H1 : Hp} {D : Addr} {Qd : Hp → Prop} (row : Str × Int → Str)
    (nD : H1 D = none) (ha : SqT K H1 a xs) (hx : ImAll K H1 xs (l.map pD)) (hl : l.length ≤ 64)
    (hw : ∀ u v, wipe (((wipe σ vs).set i u).set j v) vs = wipe σ vs)
    (hte : ∀ z ∈ l, ∀ (G : Hp) (Q' : VK), Same H1 G → Q' (.str (row z)) G → te (((wipe σ vs).set i (some (.str z.1))).set j (some (.int z.2))) G Q')
    (hd : ∀ G, G D = some (.lst ((l.map row).map V.str)) → Same H1 G → Qd G) :
    ∃ W : Nat → Nat → Hp → Prop, (∃ m, W 0 m (upd H1 D (.lst []))) ∧ ∀ n m H, W n m H →
      ((Itt K a).stop n H ∧ Qd H) ∨ ((Itt K a).go n H ∧ ∃ Nx : Hp → Prop, (∀ H', Nx H' → ∃ m', m' < m ∧ W (n + 1) m' H') ∧ ∀ x H', (Itt K a).yld n H x H' → gTup K 2 (gCons (gName i) (gCons (gName j) gNil)) x (wipe σ vs) H' fun σ2 H2 => wipe σ2 vs = wipe σ vs ∧ tYes σ2 H2 fun b H3 =>
        if b = true then te σ2 H3 fun y H4 => ∃ acc, H4 D = some (.lst acc) ∧ acc.length < sizeLine ∧ Nx (upd H4 D (.lst (acc ++ [y]))) else Nx H3) := by
  have lx : xs.length = l.length := by rw [hx.length, List.length_map]
  refine lc_tup (K := K) (a := a) (xs := xs) (fun n G => G D = some (.lst (((l.take n).map row).map V.str)) ∧ Same H1 G) ⟨upd_same, same_new (Same.refl H1) nD⟩ (fun n G _ z => (Tk.same z.2).sq ha) ?_ ?_
  · rintro n y G hy ⟨z1, z2⟩
    obtain ⟨d, hd', im⟩ := hx.get hy
    obtain ⟨z, hz, rfl⟩ : ∃ z, l[n]? = some z ∧ d = pD z := by
      rw [List.getElem?_map] at hd'
      cases e : l[n]? with
      | none => rw [e] at hd'; cases hd'
      | some u => rw [e] at hd'; exact ⟨u, rfl, (Option.some.inj hd').symm⟩
    obtain ⟨b, rfl, hb⟩ := im_pair im
    have hn : n < l.length := (List.getElem?_eq_some_iff.mp hz).1
    refine ⟨b, _, rfl, (Tk.same z2).sq hb, rfl, _, _, rfl, _, _, rfl, rfl, hw _ _, ?_⟩
    refine tyes ?_
    refine iteT ?_
    refine hte z (List.mem_of_getElem? hz) G _ z2 ⟨_, z1, ?_, ?_, ?_⟩
    · rw [List.length_map, List.length_map, List.length_take]
      exact Nat.lt_of_lt_of_le (show _ < 100 by omega) (by decide)
    · show (upd G D _) D = _
      rw [upd_same, List.take_add_one, hz, List.map_append, List.map_append] <;> rfl
    · intro c o hc
      rw [upd_ne (ne_of_none hc nD)]
      exact z2 c o hc
  · rintro G ⟨z1, z2⟩
    rw [lx, List.take_length] at z1
    exact hd G z1 z2
end F02
namespace F02
open PySem PySem.Spec PyProof.Rows L2 MG
theorem sum_le {c : Nat} : ∀ ys : List Str, (∀ y ∈ ys, y.length ≤ c) → (ys.map (·.length)).sum ≤ c * ys.length
  | [], _ => by simp
  | y :: ys, h => by
    have h1 := h y (List.mem_cons_self ..)
    have h2 := sum_le ys fun z hz => h z (List.mem_cons_of_mem _ hz)
    rw [List.map_cons, List.sum_cons, List.length_cons, Nat.mul_succ]
    omega
/-- what keeps texts short -/
structure Short (hs gs : Side) (t : Option Int) : Prop where
  h4 : hs.length ≤ 4
  g4 : gs.length ≤ 4
  ln : ∀ z ∈ hs ++ gs, z.1.length ≤ 8
  bd : ∀ z ∈ hs ++ gs, 1 ≤ z.2 ∧ z.2 ≤ 4
  tb : ∀ k, t = some k → 1 ≤ k ∧ k ≤ 12
theorem Nm.len {x : Str} (h : Nm x) : 1 ≤ x.length ∧ x.length ≤ 8 := by
  have el : x.cps.toList.length = x.length := Array.length_toList
  unfold Nm at h
  cases e : x.cps.toList with
  | nil => rw [e] at h; cases h
  | cons a r =>
    rw [e] at h el
    have h' : (lowB a && decide (r.length ≤ 7) && r.all signB) = true := h
    simp only [Bool.and_eq_true, decide_eq_true_eq] at h'
    rw [List.length_cons] at el
    omega
theorem Fairish.short {hs gs : Side} {t : Option Int} (f : Fairish hs gs t) : Short hs gs t := ⟨f.h4, f.g4, fun z hz => (f.nm z hz).len.2, f.bd, f.tb⟩
theorem deskT_len {t : Option Int} (h : ∀ k, t = some k → 1 ≤ k ∧ k ≤ 12) : (deskT t).length ≤ 1 ∧ ∀ y ∈ deskT t, y.length ≤ 20 := by
  cases t with
  | none => exact ⟨Nat.zero_le _, fun y hy => by cases hy⟩
  | some k =>
    refine ⟨Nat.le_refl _, fun y hy => ?_⟩
    have e : y = "tables " ++ num k := List.mem_singleton.mp hy
    obtain ⟨k1, k2⟩ := h k rfl
    have := num_len (i := k) (by omega) (by omega)
    have e7 : ("tables " : Str).length = 7 := by decide +kernel
    rw [e, app_len]
    omega
theorem Short.rows {hs gs : Side} {t : Option Int} (f : Short hs gs t) : (rowsT hs gs t).length ≤ 9 ∧ ∀ y ∈ rowsT hs gs t, y.length ≤ 20 := by
  obtain ⟨d1, d2⟩ := deskT_len f.tb
  have e5 : ("host " : Str).length ≤ 6 := by decide +kernel
  have e6 : ("guest " : Str).length ≤ 6 := by decide +kernel
  unfold rowsT
  refine ⟨?_, fun y hy => ?_⟩
  · rw [List.length_append, List.length_append, List.length_map, List.length_map]
    have := f.h4; have := f.g4
    omega
  · rcases List.mem_append.mp hy with hy | hy
    · rcases List.mem_append.mp hy with hy | hy
      · obtain ⟨z, hz, rfl⟩ := List.mem_map.mp hy
        have hz' := List.mem_append_left gs hz
        exact Nat.le_trans (rowT_len e5 (f.ln z hz') (f.bd z hz').1 (f.bd z hz').2) (by decide)
      · obtain ⟨z, hz, rfl⟩ := List.mem_map.mp hy
        have hz' := List.mem_append_right hs hz
        exact Nat.le_trans (rowT_len e6 (f.ln z hz') (f.bd z hz').1 (f.bd z hz').2) (by decide)
    · exact d2 y hy
theorem Short.joins {hs gs : Side} {t : Option Int} (f : Short hs gs t) : ((rowsT hs gs t).map (·.length)).sum + (rowsT hs gs t).length * ("\n" : Str).length ≤ 16777216 := by
  obtain ⟨h1, h2⟩ := f.rows
  have := sum_le _ h2
  have e : ("\n" : Str).length = 1 := by decide +kernel
  rw [e]
  omega
section
variable {P : Program} {w : World} {K : PySem.W.Frag} {mg : Str → Option Value} {base : Heap}
abbrev s_text_of : Stmt := top 20
theorem sc_text_of : FnScope ["hosts", "guests", "tables", "lines", "name", "bound"] ["hosts", "guests", "tables"] (defScope s_text_of) := ⟨rfl, rfl, rfl, by decide +kernel, rfl, by decide +kernel, by decide +kernel⟩
def sp_text_of (K : PySem.W.Frag) : Sp := fun vs H Q _ => ∃ (vh vg : V) (hs gs : Side) (t : Option Int), vs = [vh, vg, deskV t] ∧ Im K H vh (sideD hs) ∧ Im K H vg (sideD gs) ∧ Short hs gs t ∧ ∀ H', Same H H' → Q (.str (textT hs gs t)) H'
theorem ok_text_of {f : Addr} {fd : FuncData} (F : Fun K "_text_of" "_text_of" s_text_of f fd) : FnOk P w K mg base CX0 1 f fd ["hosts", "guests", "tables"] (sp_text_of K) := by
  refine F.ok sc_text_of (fun vs H Q E h => ?_) (fun cdv A outer s H vs Q E hr h => ?_)
  · obtain ⟨vh, vg, hs, gs, t, rfl, _⟩ := h
    rfl
  · obtain ⟨vh, vg, hs, gs, t, rfl, ih, ig, S, k⟩ := h
    obtain ⟨a, xs, rfl, ha, hx⟩ := im_side ih
    obtain ⟨b, ys, rfl, hb, hy⟩ := im_side ig
    refine ⟨_, (pss_cons (ps_setLc (i := 3) (own := [("name", 4), ("bound", 5)]) (g := gTup K 2 (gCons (gName 4) (gCons (gName 5) gNil))) (tt := tYes) rfl sc_text_of.nd rfl rfl (sw_true rfl rfl rfl (by decide +kernel)) (pi_tup (pv 0)) (blkOk_by (own := [("name", 4), ("bound", 5)]) (N := ["hosts", "guests", "tables", "lines", "name", "bound"]) (sc := defScope s_text_of) (by decide +kernel)) (fun _ _ _ _ _ => (pg_tup rfl (pgs_cons (pg_name (i := 4) sc_text_of.nd rfl (Or.inl rfl)) (pgs_cons (pg_name (i := 5) sc_text_of.nd rfl (Or.inl rfl)) pgs_nil)))) (fun _ _ _ _ _ => pts_nil) (fun _ _ _ _ _ => (pe_joined (PJ.cons pe_str (PJ.cons (pe_fmt (pv 4)) (PJ.cons pe_str (PJ.cons (pe_fmt (pv 5)) PJ.nil)))))))
      (pss_cons (ps_expr (pe_bm PySem.F.plainAttrs_list PySem.F.slot_list_extend PySem.F.type_list_extend mt_extend (pv 3) (pa_cons (pe_lc (own := [("name", 4), ("bound", 5)]) (g := gTup K 2 (gCons (gName 4) (gCons (gName 5) gNil))) (tt := tYes) rfl sc_text_of.nd (pi_tup (pv 1)) (blkOk_by (own := [("name", 4), ("bound", 5)]) (N := ["hosts", "guests", "tables", "lines", "name", "bound"]) (sc := defScope s_text_of) (by decide +kernel)) (fun _ _ _ _ _ => (pg_tup rfl (pgs_cons (pg_name (i := 4) sc_text_of.nd rfl (Or.inl rfl)) (pgs_cons (pg_name (i := 5) sc_text_of.nd rfl (Or.inl rfl)) pgs_nil)))) (fun _ _ _ _ _ => pts_nil) (fun _ _ _ _ _ => (pe_joined (PJ.cons pe_str (PJ.cons (pe_fmt (pv 4)) (PJ.cons pe_str (PJ.cons (pe_fmt (pv 5)) PJ.nil))))))) pa_nil)))
      (pss_cons (ps_if (pt_cmpR op_notN (pv 2) pe_non (nomark _))
        (pss_one (ps_expr (pe_bm PySem.F.plainAttrs_list PySem.F.slot_list_append PySem.F.type_list_append mt_append (pv 3) (pa_cons (pe_joined (PJ.cons pe_str (PJ.cons (pe_fmt (pv 2)) PJ.nil))) pa_nil))))
        pss_nil)
      (pss_one (ps_ret (pe_join pe_str (pv 3))))))), ?_⟩
    have row_ok : ∀ (kind : Str) (z : Str × Int), kind.length ≤ 6 → z.1.length ≤ 8 → 1 ≤ z.2 → z.2 ≤ 4 →
        z.1.length ≤ sizeLine ∧ z.2.natAbs.log2 < 1920 ∧ (Str.empty ++ kind).length ≤ sizeLine ∧ (Str.empty ++ kind ++ z.1).length ≤ sizeLine ∧ (Str.empty ++ kind ++ z.1 ++ " ").length ≤ sizeLine ∧ (Str.empty ++ kind ++ z.1 ++ " " ++ num z.2).length ≤ sizeLine := by
      intro kind z k1 k2 k3 k4
      have n2 := num_len (i := z.2) (by omega) (by omega)
      have e1 : ((" " : Str)).length = 1 := by decide +kernel
      have big : ∀ n, n ≤ 100 → n ≤ sizeLine := fun n h => Nat.le_trans h (by decide)
      refine ⟨big _ (by omega), int_small (by omega) (by omega), ?_, ?_, ?_, ?_⟩
      all_goals (rw [empty_app]; apply big; (try simp only [app_len]); omega)
    refine ⟨_, rfl, a, rfl, ⟨_, ha⟩, fun D nD => ?_⟩
    refine lc_pairs (K := K) (te := fun σ H Q => tJs [tC (V.str "host "), tFmt (tVar 4), tC (V.str " "), tFmt (tVar 5)] Str.empty σ H fun out H1 => Q (V.str out) H1) (i := 4) (j := 5) (rowT "host ") nD ha hx (Nat.le_trans S.h4 (by decide)) ?hw (fun z hz G Q' sG q' => ?_) (fun G g1 g2 => ?_)
    case hw => intros; rfl
    · have hz' := List.mem_append_left gs hz
      obtain ⟨r1, r2, r3, r4, r5, r6⟩ := row_ok "host " z (by decide +kernel) (S.ln z hz') (S.bd z hz').1 (S.bd z hz').2
      refine ⟨_, rfl, r3, _, rfl, .inl ⟨_, rfl, r1, _, rfl, r4, _, rfl, r5, _, rfl, .inr ⟨_, rfl, r2, _, rfl, r6, ?_⟩⟩⟩
      unfold rowT at q'
      rw [empty_app]
      exact q'
    · have hb2 := (Tk.same g2).sq hb
      have hy2 := hy.to (Tk.same g2) _ _
      refine ⟨_, rfl, .inl ⟨rfl, _, SqL.of g1⟩, _, rfl, b, rfl, ⟨_, hb2⟩, fun D2 nD2 => ?_⟩
      refine lc_pairs (K := K) (te := fun σ H Q => tJs [tC (V.str "guest "), tFmt (tVar 4), tC (V.str " "), tFmt (tVar 5)] Str.empty σ H fun out H1 => Q (V.str out) H1) (i := 4) (j := 5) (rowT "guest ") nD2 hb2 hy2 (Nat.le_trans S.g4 (by decide)) ?hw (fun z hz G' Q' sG q' => ?_) (fun G' g3 g4 => ?_)
      case hw => intros; rfl
      · have hz' := List.mem_append_right hs hz
        obtain ⟨r1, r2, r3, r4, r5, r6⟩ := row_ok "guest " z (by decide +kernel) (S.ln z hz') (S.bd z hz').1 (S.bd z hz').2
        refine ⟨_, rfl, r3, _, rfl, .inl ⟨_, rfl, r1, _, rfl, r4, _, rfl, r5, _, rfl, .inr ⟨_, rfl, r2, _, rfl, r6, ?_⟩⟩⟩
        unfold rowT at q'
        rw [empty_app]
        exact q'
      · have gD := g4 _ _ g1
        have HD : H D = none := nD
        have muta : ∀ (o : HO) (X : Hp), Same H X → Same H (upd X D o) := fun o X s c u e => by
          rw [upd_ne (ne_of_none e nD)]; exact s c u e
        have sh := S.rows.1
        refine ⟨D, D2, _, _, rfl, rfl, gD, g3, ?_, ?_⟩
        · rw [List.length_map, List.length_map, List.length_map, List.length_map]
          exact Nat.le_trans (show _ ≤ 100 by have := S.h4; have := S.g4; omega) (by decide)
        · have eD : (upd G' D (.lst ((hs.map (rowT "host ")).map V.str ++ (gs.map (rowT "guest ")).map V.str))) D = some (.lst ((hs.map (rowT "host ") ++ gs.map (rowT "guest ")).map V.str)) := by
            rw [upd_same, List.map_append]
          have sm := muta (.lst ((hs.map (rowT "host ")).map V.str ++ (gs.map (rowT "guest ")).map V.str)) G' (g2.trans g4)
          have jn := S.joins
          cases t with
          | none =>
            have er : rowsT hs gs none = hs.map (rowT "host ") ++ gs.map (rowT "guest ") := by
              unfold rowsT deskT
              rw [List.append_nil]
            rw [← er] at eD
            refine ⟨_, rfl, rfl, _, rfl, ?_⟩
            refine if_false_of (by simp [deskV]) ?_
            exact ⟨⟨_, rfl⟩, _, rfl, "\n", D, rowsT hs gs none, rfl, rfl, .inl (SqL.of eD), jn, k _ sm⟩
          | some n =>
            obtain ⟨n1, n2⟩ := S.tb n rfl
            have nl := num_len (i := n) (by omega) (by omega)
            have e7 : ("tables " : Str).length = 7 := by decide +kernel
            have big : ∀ n, n ≤ 100 → n ≤ sizeLine := fun n h => Nat.le_trans h (by decide)
            refine ⟨_, rfl, rfl, _, rfl, ?_⟩
            refine if_true_of (by simp [deskV]) ?_
            refine ⟨_, rfl, .inl ⟨rfl, _, SqL.of eD⟩, _, rfl, ?_, _, rfl, .inr ⟨n, rfl, int_small (by omega) (by omega), _, rfl, ?_, D, _, _, rfl, rfl, eD, ?_, ?_⟩⟩
            · rw [empty_app]; exact big _ (by omega)
            · show (Str.empty ++ "tables " ++ num n).length ≤ sizeLine
              rw [empty_app, app_len]
              exact big _ (by omega)
            · rw [List.length_map, List.length_append, List.length_map, List.length_map]
              exact Nat.lt_of_lt_of_le (show _ < 100 by have := S.h4; have := S.g4; omega) (by decide)
            · have ex : (upd (upd G' D (.lst ((hs.map (rowT "host ")).map V.str ++ (gs.map (rowT "guest ")).map V.str))) D (.lst ((hs.map (rowT "host ") ++ gs.map (rowT "guest ")).map V.str ++ [V.str (Str.empty ++ "tables " ++ num n)]))) D = some (.lst ((rowsT hs gs (some n)).map V.str)) := by
                rw [upd_same, empty_app]
                unfold rowsT deskT
                simp only [List.map_append, List.map_cons, List.map_nil]
              exact ⟨⟨_, rfl⟩, _, rfl, "\n", D, rowsT hs gs (some n), rfl, rfl, .inl (SqL.of ex), jn, k _ (muta _ _ sm)⟩
end
end F02
namespace ET
open PySem
open Sem (wp)
open AutoSeq1 (wpAny_loadPart')
theorem meets_new (l : Addr) (items : Array Value) (n : Nat) (dct : Option Addr) (sl : Array (Option Value)) :
    Meets (Builtin.«enumerate.__new__» ⟨[.type "enumerate", .ref l], []⟩) (fun _ R s =>
      s.heap.get? l = some { cls := .type "tuple", dict := dct, data := .seq items n, slots := sl } ∧
      R (.ok (.ret (.ref (s.heap.push { cls := .type "tuple_iterator", data := .fields #[.ref l, .int 0 0] }).objs.size)))
        { s with heap := (s.heap.push { cls := .type "tuple_iterator", data := .fields #[.ref l, .int 0 0] }).push { cls := .type "enumerate", data := .fields #[.none, .bool false, .ref s.heap.objs.size, rawInt 0, .none, .none] } }) := by
  refine .of_wp fun prog w A R s h => ?_
  obtain ⟨hp, g, d, tk, os⟩ := s
  obtain ⟨hl, h⟩ := h
  have hsub := sub_enumerate
  have hT : Heap.IsTuple (Shared.heap ⟨hp, g, d, tk, os⟩) l items := ⟨_, hl, rfl, n, rfl⟩
  wp_walk using wpAny_loadPart' hl
  refine wpAny_stack_any (fun st => wpAny_pure ?_)
  split
  · rename_i c _ _ _ _ _
    cases (c == Value.type "enumerate") <;> (wp_walk using wpAny_loadPart' hl, wpAny_pyIter_tuple hT; exact ⟨_, rfl, h⟩)
  · wp_walk using wpAny_loadPart' hl, wpAny_pyIter_tuple hT
    exact ⟨_, rfl, h⟩
theorem call_new {prog : Program} {w : World} {A : Around} {E : Value → Shared → Prop} {s : Shared} {l : Addr} {items : Array Value} {Q : Value → Shared → Prop} (hL : s.heap.IsTuple l items)
    (h : ∀ h', IsEnum h' (s.heap.objs.size + 1) s.heap.objs.size 0 .none → h'.IsTupleIter s.heap.objs.size l 0 →
      (∀ b o, s.heap.get? b = some o → h'.get? b = some o) → Q (.ref (s.heap.objs.size + 1)) { s with heap := h' }) :
    wpAny (model prog w) A (call (.type "enumerate") [.ref l]) Q E s := by
  obtain ⟨⟨c, dct, dt, sl⟩, hl, hc, n, hd⟩ := hL
  obtain rfl : c = .type "tuple" := hc
  obtain rfl : dt = .seq items n := hd
  refine callType_new F.called_enumerate (by decide) (F.typeCall_enumerate_1 _) (F.newCall_enumerate_1 _)
    (fun obj => F.args_object_init_2 obj _) F.entry_enumerate_new (meets_new l items n dct sl) ⟨hl, ?_⟩
  have hz : (s.heap.push { cls := .type "tuple_iterator", data := .fields #[.ref l, .int 0 0] }).objs.size = s.heap.objs.size + 1 := Heap.size_push ..
  show _ ∧ _
  rw [hz]
  have he := Heap.get?_push_size (s.heap.push { cls := .type "tuple_iterator", data := .fields #[.ref l, .int 0 0] })
    (o := { cls := .type "enumerate", data := .fields #[.none, .bool false, .ref s.heap.objs.size, rawInt 0, .none, .none] }) rfl
  rw [hz] at he
  exact ⟨⟨_, he, rfl⟩, h _ he ⟨_, Heap.get?_push_of_some _ (Heap.get?_push_size _ rfl), rfl, rfl⟩ (fun b o x => Heap.get?_push_of_some _ (Heap.get?_push_of_some _ x))⟩
end ET
namespace F02
open PySem PySem.Spec PyProof.Rows L2 MG
/-- the tuple at a as it stands at each turn, each item in a new pair -/
def IteT (K : PySem.W.Frag) (a : Addr) : It :=
  ⟨fun i H => ∃ (xs : List V) (x : V), SqT K H a xs ∧ xs[i]? = some x,
   fun i H v H' => ∃ T x, v = .ref T ∧ H T = none ∧ H' = upd H T (.tup [.int (i : Nat), x]) ∧ ∀ xs, SqT K H a xs → xs[i]? = some x,
   fun i H => ∃ xs : List V, SqT K H a xs ∧ xs.length = i⟩
theorem turn_enumT {P : Program} {w : World} {K : PySem.W.Frag} {elts : List Expr} {kk : Nat} {tpos : Pos} (a e it : Addr) :
    Turn P w K (.Tuple elts kk tpos) (IteT K a) [e, it] e (fun i h => (∃ old, IsEnum h e it ((i : Nat) : Int) old) ∧ h.IsTupleIter it a i ∧ e ≠ it) where
  mem := by simp
  obj := fun i h st b hb => by
    obtain ⟨⟨old, he⟩, ⟨o, ho, hc, hd⟩, _⟩ := st
    rcases (show b = e ∨ b = it by simpa using hb) with rfl | rfl
    · exact ⟨_, he, fun v q => nomatch q⟩
    · exact ⟨o, ho, fun v q => by rw [hd] at q; cases q⟩
  keep := fun i h h' st k => by
    obtain ⟨⟨old, he⟩, hi, hne⟩ := st
    exact ⟨⟨old, k e (by simp) _ he⟩, hi.at fun o q => k it (by simp) o q, hne⟩
  item := by
    intro X hP hw hK hc i pins s σ H E I hf st hg
    subst hP hw hK
    obtain ⟨⟨old, he⟩, hit, hne⟩ := st
    obtain ⟨xs, x, hq, hx⟩ := hg
    obtain ⟨its, rv, p, hz⟩ := I.tuple hq
    obtain ⟨u, hu, ru⟩ := rv.get hx
    have hel := Heap.lt_size he
    have hil : it < s.heap.objs.size := by obtain ⟨_, q, _⟩ := hit; exact Heap.lt_size q
    have pT : s.heap.IsTuple a its.toArray := p
    have nai : a ≠ it := fun z => by
      obtain ⟨o1, h1, c1, _⟩ := pT
      obtain ⟨o2, h2, c2, _⟩ := hit
      rw [z, h2] at h1
      cases h1
      rw [c1] at c2
      exact absurd c2 (by decide)
    have nae : e ≠ a := fun z => by
      obtain ⟨o1, h1, c1, _⟩ := pT
      rw [← z, he] at h1
      cases h1
      exact absurd (show Value.type "enumerate" = Value.type "tuple" from c1) (by decide)
    have hlt : i < its.toArray.size := by
      have := (List.getElem?_eq_some_iff.mp hu).1
      simpa using this
    refine wpAny_pyNext_enum_itemD (Draws.tuple (A := X.A.in1) (I.ok.hd hc) it a nai its.toArray) he ⟨hit, pT⟩ hlt hne (by simp [hne, nae]) (fun y h' tk hy ho st' hT hsz hk => ?_)
    have ey : y = u := by
      have h1 : its.toArray[i]? = some y := hy
      have h2 : its.toArray[i]? = some u := by simpa using hu
      rw [h1] at h2
      exact Option.some.inj h2
    subst ey
    refine ⟨_, rfl, wpAny_letOwnedTupleGo_enum (s := { s with heap := h', toks := tk + 1 }) ho (fun h'' he' sb => ?_)⟩
    have hT2 := (sb.2 _ (Nat.ne_of_gt hel)).trans hT
    have new : ObjOk X.prog X.w (upd H s.heap.objs.size (.tup [.int (i : Nat), x])) h'' s.heap.objs.size (.tup [.int (i : Nat), x]) :=
      ⟨by show 2 ≤ sizeLine; decide, [.int i tk, y], .cons ⟨_, rfl⟩ (.cons ru .nil), ⟨_, hT2, rfl, _, rfl⟩⟩
    have I1 : Inv X pins σ (upd H s.heap.objs.size (.tup [.int (i : Nat), x])) { s with heap := h'', toks := tk + 1 } :=
      I.turnedNew (ch := [e, it]) (fun b ob hb q => (sb.2 b (fun z => hb (by simp [z]))).trans (hk b ob (fun z => hb (by simp [z])) (fun z => hb (by simp [z])) q)) hf (Nat.le_refl _) new
    refine ⟨.ref s.heap.objs.size, _, I1, rfl, ⟨_, x, rfl, I.hok.fresh (Nat.le_refl _), rfl, fun ys hy => by rw [I.tuple_inj hy hq]; exact hx⟩, ⟨⟨y, ?_⟩, st'.1.at fun o q => (sb.2 it (Ne.symm hne)).trans q, hne⟩, fun b hb => ?_⟩
    · rw [show ((i + 1 : Nat) : Int) = (i : Int) + 1 by omega]
      exact he'
    · have hb' : b < s.heap.objs.size := by
        rcases (show b = e ∨ b = it by simpa using hb) with z | z
        · rw [z]; exact hel
        · rw [z]; exact hil
      rw [upd_ne (Nat.ne_of_lt hb')]
      exact (hf b hb).1
  done := by
    intro X hP hw hK hc i pins s σ H E I hf st hg
    subst hP hw hK
    obtain ⟨⟨old, he⟩, hit, hne⟩ := st
    obtain ⟨xs, hq, hx⟩ := hg
    obtain ⟨its, rv, p, hz⟩ := I.tuple hq
    obtain ⟨f0, f1, f2, f3, f4, f5⟩ := hf it (by simp)
    have hl := rv.length
    have pT : s.heap.IsTuple a its.toArray := p
    have nai : a ≠ it := fun z => by
      obtain ⟨o1, h1, c1, _⟩ := pT
      obtain ⟨o2, h2, c2, _⟩ := hit
      rw [z, h2] at h1
      cases h1
      rw [c1] at c2
      exact absurd c2 (by decide)
    have ei : i = its.toArray.size := by
      rw [← hx, hl]
      simp
    subst ei
    exact wpAny_pyNext_enum_endD (Draws.tuple (A := X.A.in1) (I.ok.hd hc) it a nai its.toArray) he ⟨hit, pT⟩ (fun h' eb => ⟨rfl, I.turned (t' := s.toks) (fun b o hb q => eb b o hb q) f0 f1 f3 f4 f5⟩)
  self := fun A i s Q E st h => by
    obtain ⟨⟨_, he⟩, _⟩ := st
    exact wpAny_pyIter_enum he h
end F02
namespace F02
open PySem PySem.Spec PyProof.Rows L2 MG
def iEnumT (K : PySem.W.Frag) (ta : TA) : TI := fun σ H R => ta σ H fun vs H1 => ∃ a xs, vs = [.ref a] ∧ SqT K H1 a xs ∧ R (IteT K a) H1
theorem pi_enumT {X : Cx} {e : Expr} {ta : TA} {p pos tpos : Pos} {elts : List Expr} {kk : Nat} (hg : Gl X "enumerate") (hm : X.mg "enumerate" = none) (ha : PA X [e] ta)
    (hs : starEach [e] X.env = [(false, eval e X.env)] := by rfl) : PI X (.Tuple elts kk tpos) (.Call (.Name "enumerate" p) [e] [] pos) (iEnumT X.K ta) := by
  constructor
  intro pins s σ H R I h
  refine Call_ (ld_blt I hg hm boot_enumerate (PyProof.Rows.callWith_type1 (thn (ha.run pos pins s σ H _ I h) (fun us s1 hh => ?_)) hs rfl))
  obtain ⟨vs, H1, I1, r1, a, xs, ex, hq, q⟩ := hh
  subst ex
  cases r1 with
  | cons r rr =>
    cases rr
    cases r
    obtain ⟨its, rv, p', hz⟩ := I1.tuple hq
    refine ET.call_new (show s1.heap.IsTuple a its.toArray from p') (fun h' he hit hk => wpAny_pyIter_enum he ?_)
    have I2 : Inv X pins σ H1 { s1 with heap := h' } := I1.kept (t' := s1.toks) hk
    refine ⟨s1.heap.objs.size + 1, [s1.heap.objs.size + 1, s1.heap.objs.size], _, _, H1, rfl, I2, turn_enumT a (s1.heap.objs.size + 1) s1.heap.objs.size, ⟨⟨.none, he⟩, hit, Nat.succ_ne_self _⟩, (fun b hb => ?_), q⟩
    have hle : s1.heap.objs.size ≤ b := by
      rcases (show b = s1.heap.objs.size + 1 ∨ b = s1.heap.objs.size by simpa using hb) with z | z
      · rw [z]; exact Nat.le_add_right _ _
      · exact Nat.le_of_eq z.symm
    exact I1.fpOk hle (I1.hok.fresh hle)
theorem walk_enumT {K : PySem.W.Frag} {a : Addr} {xs : List V} : Walk (IteT K a) xs.length (fun H => SqT K H a xs) (YPair (fun i => some (.int (i : Nat))) (fun i => xs[i]?)) where
  goes := fun i _ hi q => ⟨xs, xs[i], q, by simp [hi]⟩
  stops := fun _ q => ⟨xs, q, rfl⟩
  yields := fun i H v H' hi q y => by
    obtain ⟨T, x, h1, h2, h3, h4⟩ := y
    exact ⟨T, .int (i : Nat), x, h1, h2, h3, rfl, h4 xs q⟩
section
variable {P : Program} {w : World} {K : PySem.W.Frag} {mg : Str → Option Value} {base : Heap}
abbrev s_fault : Stmt := top 18
theorem sc_fault : FnScope ["side", "taken", "seen", "index", "member"] ["side", "taken"] (defScope s_fault) := ⟨rfl, rfl, rfl, by decide +kernel, rfl, by decide +kernel, by decide +kernel⟩
/-- a right side: nothing is wrong -/
def sp_fault (K : PySem.W.Frag) : Sp := fun vs H Q _ => ∃ (v : V) (b : Addr) (l : Side) (tk : List Str), vs = [v, .ref b] ∧ Im K H v (sideD l) ∧ SqT K H b (tk.map V.str) ∧ 1 ≤ l.length ∧ l.length ≤ 4 ∧ tk.length ≤ 8 ∧
  (tk ++ l.map (·.1)).Nodup ∧ (∀ z ∈ l, Nm z.1) ∧ (∀ z ∈ l, 1 ≤ z.2 ∧ z.2 ≤ 4) ∧ ∀ p H', Same H H' → H' p = some (.tup []) → Q (.ref p) H'
structure TxF (K : PySem.W.Frag) (mg : Str → Option Value) (f_is_member : Addr) : Prop where
  n_isinstance : mg "isinstance" = none
  n_tuple : mg "tuple" = none
  n_list : mg "list" = none
  n_enumerate : mg "enumerate" = none
  g_MOST_SIDE : ∃ t, mg "MOST_SIDE" = some (.int 4 t)
  g_is_member : mg "_is_member" = some (.ref f_is_member)
  k_is_member : PySem.W.keepIn K (.ref f_is_member) = true
theorem tru_tup {H : Hp} {a : Addr} {xs : List V} (h : SqT K H a xs) : TruV K (.ref a) H (!xs.isEmpty) := .inr (.inl ⟨xs, h, rfl⟩)
theorem ok_fault {f f_is_member : Addr} {fd fd_is_member : FuncData} (F : Fun K "_fault" "_fault" s_fault f fd) (T : TxF K mg f_is_member)
    (G_is_member : FnOk P w K mg base CX0 2 f_is_member fd_is_member ["value"] (sp_is_member K)) (b_is_member : Binds K fd_is_member ["value"] []) :
    FnOk P w K mg base CX0 3 f fd ["side", "taken"] (sp_fault K) := by
  obtain ⟨t1, g1⟩ := T.g_MOST_SIDE
  refine F.ok sc_fault (fun vs H Q E h => ?_) (fun cdv A outer s H vs Q E hr h => ?_)
  · obtain ⟨v, b, l, tk, rfl, _⟩ := h
    rfl
  · obtain ⟨v, b, l, tk, rfl, iv, hb, l1, l4, tk8, nd, nm, bd, k⟩ := h
    obtain ⟨a, xs, rfl, ha, hx⟩ := im_side iv
    have lx : xs.length = l.length := by rw [hx.length, List.length_map]
    refine ⟨_, (pss_cons (ps_if (PW.pt (pw_or (pt_not (pt_val (pe_callB call_isi (by rfl) T.n_isinstance (by decide +kernel) (pa_cons (pv 0) (pa_cons (pe_bltn (v := .ty "tuple") (by rfl) T.n_tuple (by decide +kernel) rfl) pa_nil))))) (pw_or1 (pt_not (pt_truth (pv 0) (by intro _; rfl))))))
        (pss_one (ps_ret (pe_tup (pa_cons pe_non pa_nil))))
        pss_nil)
      (pss_cons (ps_set (i := 2) sc_fault.nd rfl (Or.inl rfl) (pe_callTy call_list_of (by rfl) T.n_list (by decide +kernel) (pa_cons (pv 1) pa_nil)))
      (pss_cons (ps_for PassesOwn.never rfl (pi_enumT (by rfl) T.n_enumerate (pa_cons (pv 0) pa_nil)) (pg_tup rfl (pgs_cons (pg_name (i := 3) sc_fault.nd rfl (Or.inl rfl)) (pgs_cons (pg_name (i := 4) sc_fault.nd rfl (Or.inl rfl)) pgs_nil)))
        (pss_cons (ps_if (PW.pt (pw_or (pt_cmpR op_eq (pv 3) (pe_glob (v := .int 4) rfl g1 ⟨_, rfl⟩) (nomark _)) (pw_or (pt_not (pt_val (pe_call G_is_member hr rfl T.g_is_member T.k_is_member b_is_member .nil pass0 (pa_cons (pv 4) pa_nil)))) (pw_or1 (pt_cmpR op_in_seq (pe_ix ix_tup (pv 4) pe_int (fun _ _ => rfl)) (pv 2) rfl)))))
        (pss_one (ps_ret (pe_tup (pa_cons (pv 3) pa_nil))))
        pss_nil)
      (pss_one (ps_expr (pe_bm PySem.F.plainAttrs_list PySem.F.slot_list_append PySem.F.type_list_append mt_append (pv 2) (pa_cons (pe_ix ix_tup (pv 4) pe_int (fun _ _ => rfl)) pa_nil))))))
      (pss_one (ps_ret (pe_tup pa_nil)))))), ?_⟩
    refine seq_if (b := false) (fun Q' q' => ?_) (fun c => by cases c) (fun _ => ?_)
    · refine ⟨_, rfl, .ref a, .ty "tuple", _, _, true, rfl, .ty "tuple", ty_tup ha, kit_ty (by decide +kernel), _, rfl, ?_⟩
      refine iteF ⟨_, rfl, _, tru_tup ha, ?_⟩
      have : xs.isEmpty = false := by
        cases xs with
        | nil => simp at lx; omega
        | cons => rfl
      rw [this]
      exact q'
    · refine ⟨_, rfl, b, _, rfl, .inr hb, fun D nD => ?_⟩
      have s0 := same_new (o := .lst (tk.map V.str)) (Same.refl H) nD
      refine ⟨_, rfl, a, xs, rfl, (Tk.same s0).sq ha, ?_⟩
      have muta : ∀ (o : HO) (X : Hp), Same H X → Same H (upd X D o) := fun o X s c u e => by
        rw [upd_ne (ne_of_none e nD)]; exact s c u e
      refine for_it walk_enumT (fun i σ G => ∃ v3 v4 : Option V, σ = [some (.ref a), some (.ref b), some (.ref D), v3, v4] ∧ G D = some (.lst ((tk ++ (l.take i).map (·.1)).map V.str)) ∧ Same H G)
        ⟨none, none, rfl, by rw [upd_same] <;> simp, s0⟩ (fun i σ G _ ⟨_, _, _, _, sG⟩ => (Tk.same sG).sq ha) ?_ ?_
      · rintro i _ σ G _ hi ⟨v3, v4, rfl, gD, sG⟩ ⟨T', x, y, rfl, nT, rfl, ex, ey⟩
        have ex' : x = .int (i : Nat) := (Option.some.inj ex).symm
        subst ex'
        obtain ⟨d, hd, im⟩ := hx.get ey
        obtain ⟨z, hz, rfl⟩ : ∃ z, l[i]? = some z ∧ d = pD z := by
          rw [List.getElem?_map] at hd
          cases e : l[i]? with
          | none => rw [e] at hd; cases hd
          | some u => rw [e] at hd; exact ⟨u, rfl, (Option.some.inj hd).symm⟩
        have hil : i < l.length := (List.getElem?_eq_some_iff.mp hz).1
        have hzl : z ∈ l := List.mem_of_getElem? hz
        obtain ⟨c, rfl, hc⟩ := im_pair im
        have s1 := same_new (o := .tup [.int (i : Nat), .ref c]) sG nT
        have gD1 : (upd G T' (.tup [.int (i : Nat), .ref c])) D = some (.lst ((tk ++ (l.take i).map (·.1)).map V.str)) := (upd_ne (ne_of_none gD nT)).trans gD
        have hc1 := (Tk.same s1).sq hc
        refine ⟨T', _, rfl, SqT.of upd_same, rfl, _, _, rfl, _, _, rfl, rfl, ?_⟩
        have notin : z.1 ∉ tk ++ (l.take i).map (·.1) := by
          intro m
          have nd' := List.nodup_append.mp nd
          rcases List.mem_append.mp m with m | m
          · exact nd'.2.2 _ m _ (List.mem_map.mpr ⟨z, hzl, rfl⟩) rfl
          · have ndl := nd'.2.1
            have split : l.map (·.1) = (l.take i).map (·.1) ++ z.1 :: (l.drop (i + 1)).map (·.1) := by
              rw [← List.map_cons (f := fun z : Str × Int => z.1), ← List.map_append]
              congr 1
              have hg : l[i] = z := by
                have := List.getElem?_eq_getElem hil
                rw [hz] at this
                exact (Option.some.inj this).symm
              rw [← hg, ← List.drop_eq_getElem_cons hil, List.take_append_drop]
            rw [split] at ndl
            exact (List.nodup_append.mp ndl).2.2 _ m _ (List.mem_cons_self ..) rfl
        refine seq_ifH (b := false) (fun X => Same H X ∧ X D = some (.lst ((tk ++ (l.take i).map (·.1)).map V.str)) ∧ SqT K X c [.str z.1, .int z.2]) (fun Q' q' => ?_) (fun X _ c => by cases c) (fun X ⟨sX, gX, hcX⟩ _ => ?_)
        · refine ⟨_, rfl, rfl, _, rfl, ?_⟩
          have i4 : ¬ (V.int (i : Nat) = V.int 4) := fun e => by
            injection e with e
            omega
          refine if_false_of (decide_eq_false i4) ?_
          refine ⟨_, rfl, .ref c, z, rfl, im.to (Tk.same s1) _ _, nm z hzl, (nm z hzl).len.2, (bd z hzl).1, (bd z hzl).2, fun X sX => ⟨_, rfl, ?_⟩⟩
          have gX := sX _ _ gD1
          have hcX := (Tk.same sX).sq hc1
          refine iteF ⟨_, rfl, c, _, 0, _, rfl, rfl, hcX, rfl, _, rfl, D, _, rfl, .inl (SqL.of gX), rfl, flat_strs _, _, rfl, ?_⟩
          rw [inV_str]
          have : decide (z.1 ∈ tk ++ (l.take i).map (·.1)) = false := decide_eq_false notin
          rw [this]
          exact q' X ⟨s1.trans sX, gX, hcX⟩
        · refine ⟨_, rfl, .inl ⟨rfl, _, SqL.of gX⟩, _, rfl, c, _, 0, _, rfl, rfl, hcX, rfl, D, _, _, rfl, rfl, gX, ?_, _, _, rfl, ?_, muta _ X sX⟩
          · rw [List.length_map, List.length_append, List.length_map, List.length_take]
            exact Nat.lt_of_lt_of_le (show _ < 100 by omega) (by decide)
          · show (upd X D _) D = _
            rw [upd_same, List.take_add_one, hz]
            simp
      · rintro σ G ⟨v3, v4, rfl, gD, sG⟩
        exact ⟨Nat.zero_le _, fun p np => k p _ (same_new sG np) upd_same⟩
end
end F02
namespace F02
open PySem PySem.Spec PyProof.Rows L2 MG
def ff (vh vg vt : V) (n : Addr) (x : Str) : List (Str × V) := [("_hosts", vh), ("_guests", vg), ("_tables", vt), ("_names", .ref n), ("_text", .str x)]
theorem putF_cons (f g : Str) (y z : V) (r : List (Str × V)) : putF f y ((g, z) :: r) = if g = f then (g, y) :: r else (g, z) :: putF f y r := rfl
theorem ff_put (vh vg vt : V) (n : Addr) (x : Str) : putF "_text" (.str x) (putF "_names" (.ref n) (putF "_tables" vt (putF "_guests" vg (putF "_hosts" vh [])))) = ff vh vg vt n x := by
  have e : ∀ (f : Str) (y : V), putF f y [] = [(f, y)] := fun _ _ => rfl
  have n1 : ¬ (("_hosts" : Str) = "_guests") := by decide +kernel
  have n2 : ¬ (("_hosts" : Str) = "_tables") := by decide +kernel
  have n3 : ¬ (("_hosts" : Str) = "_names") := by decide +kernel
  have n4 : ¬ (("_hosts" : Str) = "_text") := by decide +kernel
  have n5 : ¬ (("_guests" : Str) = "_tables") := by decide +kernel
  have n6 : ¬ (("_guests" : Str) = "_names") := by decide +kernel
  have n7 : ¬ (("_guests" : Str) = "_text") := by decide +kernel
  have n8 : ¬ (("_tables" : Str) = "_names") := by decide +kernel
  have n9 : ¬ (("_tables" : Str) = "_text") := by decide +kernel
  have n0 : ¬ (("_names" : Str) = "_text") := by decide +kernel
  simp only [e, putF_cons, if_neg n1, if_neg n2, if_neg n3, if_neg n4, if_neg n5, if_neg n6, if_neg n7, if_neg n8, if_neg n9, if_neg n0]
  rfl
theorem Tk.ins {H H' : Hp} {p C dx : Addr} {fs : List (Str × V)} (s : But p H H') (hp : H p = some (.ins C dx fs)) : Tk H H' := fun a xs h => by
  have n : a ≠ p := fun e => by
    subst e
    rcases h with h | ⟨o, h⟩
    · rw [hp] at h; cases h
    · rw [hp] at h; cases h
  rcases h with h | ⟨o, h⟩
  · exact .inl (s _ _ n h)
  · exact .inr ⟨o, s _ _ n h⟩
theorem putF_len (f : Str) (v : V) : ∀ fs : List (Str × V), (putF f v fs).length ≤ fs.length + 1
  | [] => Nat.le_refl _
  | (g, x) :: r => by
    rw [putF_cons]
    split
    · exact Nat.le_succ _
    · have := putF_len f v r
      rw [List.length_cons, List.length_cons]
      omega
theorem But.same {p : Addr} {H H' : Hp} (s : Same H H') : But p H H' := fun b o _ h => s b o h
section
variable {P : Program} {w : World} {K : PySem.W.Frag} {mg : Str → Option Value} {base : Heap}
abbrev s_init : Stmt := inClass (top 23) 0
theorem sc_init : FnScope ["self", "hosts", "guests", "tables", "fault"] ["self", "hosts", "guests", "tables"] (defScope s_init) := ⟨rfl, rfl, rfl, by decide +kernel, rfl, by decide +kernel, by decide +kernel⟩
def namesV (hs gs : Side) : List V := ((hs ++ gs).map (·.1)).map V.str
/-- a right fair is made -/
def sp_init (K : PySem.W.Frag) (C : Addr) : Sp := fun vs H Q _ => ∃ (p dx : Addr) (vh vg : V) (hs gs : Side) (t : Option Int), vs = [.ref p, vh, vg, deskV t] ∧ H p = some (.ins C dx []) ∧ Im K H vh (sideD hs) ∧ Im K H vg (sideD gs) ∧ Fairish hs gs t ∧
  ∀ (n : Addr) (H' : Hp), But p H H' → H' p = some (.ins C dx (ff vh vg (deskV t) n (textT hs gs t))) → SqT K H' n (namesV hs gs) → Q .non H'
structure TxIn (K : PySem.W.Frag) (mg : Str → Option Value) (C f_fault f_names_of f_is_integer f_text_of : Addr) : Prop where
  cl : Cls K C
  nH : NoAttr K C "_hosts"
  nG : NoAttr K C "_guests"
  nT : NoAttr K C "_tables"
  nN : NoAttr K C "_names"
  nX : NoAttr K C "_text"
  g_MOST_TABLES : ∃ t, mg "MOST_TABLES" = some (.int 12 t)
  g_fault : mg "_fault" = some (.ref f_fault)
  k_fault : PySem.W.keepIn K (.ref f_fault) = true
  g_names_of : mg "_names_of" = some (.ref f_names_of)
  k_names_of : PySem.W.keepIn K (.ref f_names_of) = true
  g_is_integer : mg "is_integer" = some (.ref f_is_integer)
  k_is_integer : PySem.W.keepIn K (.ref f_is_integer) = true
  g_text_of : mg "_text_of" = some (.ref f_text_of)
  k_text_of : PySem.W.keepIn K (.ref f_text_of) = true
theorem ok_init {C f f_fault f_names_of f_is_integer f_text_of : Addr} {fd fd_fault fd_names_of fd_is_integer fd_text_of : FuncData} {dvs : List V}
    (F : FunD K "__init__" "Fair.__init__" (defArgs s_init) (defBody s_init) (defScope s_init) dvs [] f fd) (T : TxIn K mg C f_fault f_names_of f_is_integer f_text_of)
    (G_fault : FnOk P w K mg base CX0 3 f_fault fd_fault ["side", "taken"] (sp_fault K)) (b_fault : Binds K fd_fault ["side", "taken"] [])
    (G_names_of1 : FnOk P w K mg base CX0 1 f_names_of fd_names_of ["side"] (sp_names_of K)) (b_names_of : Binds K fd_names_of ["side"] [])
    (G_is_integer1 : FnOk P w K mg base CX0 1 f_is_integer fd_is_integer ["value", "least", "most"] sp_is_integer) (b_is_integer : Binds K fd_is_integer ["value", "least", "most"] [])
    (G_text_of1 : FnOk P w K mg base CX0 1 f_text_of fd_text_of ["hosts", "guests", "tables"] (sp_text_of K)) (b_text_of : Binds K fd_text_of ["hosts", "guests", "tables"] []) :
    FnOk P w K mg base CX0 4 f fd ["self", "hosts", "guests", "tables"] (sp_init K C) := by
  obtain ⟨t1, g1⟩ := T.g_MOST_TABLES
  have G_names_of := G_names_of1.mono (show 1 ≤ 3 by decide)
  have G_is_integer := G_is_integer1.mono (show 1 ≤ 3 by decide)
  have G_text_of := G_text_of1.mono (show 1 ≤ 3 by decide)
  refine F.ok sc_init (fun vs H Q E h => ?_) (fun cdv A outer s H vs Q E hr h => ?_)
  · obtain ⟨p, dx, vh, vg, hs, gs, t, rfl, _⟩ := h
    rfl
  · obtain ⟨p, dx, vh, vg, hs, gs, t, rfl, hp, ih, ig, fa, k⟩ := h
    refine ⟨_, (pss_cons (ps_set (i := 4) sc_init.nd rfl (Or.inl rfl) (pe_call G_fault hr rfl T.g_fault T.k_fault b_fault .nil pass0 (pa_cons (pv 1) (pa_cons (pe_tup pa_nil) pa_nil))))
      (pss_cons (ps_if (pt_truth (pv 4) (by intro _; rfl))
        (pss_one ps_never)
        pss_nil)
      (pss_cons (ps_set (i := 4) sc_init.nd rfl (Or.inl rfl) (pe_call G_fault hr rfl T.g_fault T.k_fault b_fault .nil pass0 (pa_cons (pv 2) (pa_cons (pe_call G_names_of hr rfl T.g_names_of T.k_names_of b_names_of .nil pass0 (pa_cons (pv 1) pa_nil)) pa_nil))))
      (pss_cons (ps_if (pt_truth (pv 4) (by intro _; rfl))
        (pss_one ps_never)
        pss_nil)
      (pss_cons (ps_if (PW.pt (pw_and (pt_cmpR op_notN (pv 3) pe_non (nomark _)) (pw_and1 (pt_not (pt_val (pe_call G_is_integer hr rfl T.g_is_integer T.k_is_integer b_is_integer .nil pass0 (pa_cons (pv 3) (pa_cons pe_int (pa_cons (pe_glob (v := .int 12) rfl g1 ⟨_, rfl⟩) pa_nil)))))))))
        (pss_one ps_never)
        pss_nil)
      (pss_cons (ps_fld (pv 0) (pv 1) rfl)
      (pss_cons (ps_fld (pv 0) (pv 2) rfl)
      (pss_cons (ps_fld (pv 0) (pv 3) rfl)
      (pss_cons (ps_fld (pv 0) (pe_op op_catT (pe_call G_names_of hr rfl T.g_names_of T.k_names_of b_names_of .nil pass0 (pa_cons (pv 1) pa_nil)) (pe_call G_names_of hr rfl T.g_names_of T.k_names_of b_names_of .nil pass0 (pa_cons (pv 2) pa_nil))) rfl)
      (pss_one (ps_fld (pv 0) (pe_call G_text_of hr rfl T.g_text_of T.k_text_of b_text_of .nil pass0 (pa_cons (pv 1) (pa_cons (pv 2) (pa_cons (pv 3) pa_nil)))) rfl))))))))))), ?_⟩
    have eN := List.nodup_append.mp (show (hs.map (·.1) ++ gs.map (·.1)).Nodup by rw [← List.map_append]; exact fa.nd)
    -- fault = _fault(hosts, ())
    refine ⟨_, rfl, Nat.zero_le _, fun e0 n0 => ⟨vh, e0, hs, [], rfl, ih.to (Tk.same (same_new (Same.refl H) n0)) _ _, SqT.of upd_same, fa.h1, fa.h4, by decide, eN.1, (fun z hz => fa.nm z (List.mem_append_left _ hz)), (fun z hz => fa.bd z (List.mem_append_left _ hz)), fun q1 H1 s1' hq1 => ?_⟩⟩
    have s1 : Same H H1 := (same_new (Same.refl H) n0).trans s1'
    refine nxt ?_
    dsimp only
    refine seq_ifN (b := false) (fun Q' q' => ⟨_, rfl, _, tru_tup (SqT.of hq1), q'⟩) (fun c => by cases c) (fun _ => ?_)
    -- fault = _fault(guests, _names_of(hosts))
    refine ⟨_, rfl, _, rfl, vh, hs, rfl, ih.to (Tk.same s1) _ _, Nat.le_trans fa.h4 (by decide), fun n1 H2 s2' _ hn1 => ?_⟩
    have s2 := s1.trans s2'
    refine ⟨vg, n1, gs, hs.map (·.1), rfl, ig.to (Tk.same s2) _ _, SqT.of (by rw [List.map_map]; exact hn1), fa.g1, fa.g4, (by rw [List.length_map]; have := fa.h4; omega), (by rw [← List.map_append]; exact fa.nd), (fun z hz => fa.nm z (List.mem_append_right _ hz)), (fun z hz => fa.bd z (List.mem_append_right _ hz)), fun q2 H3 s3' hq2 => ?_⟩
    have s3 := s2.trans s3'
    refine nxt ?_
    dsimp only
    refine seq_ifN (b := false) (fun Q' q' => ⟨_, rfl, _, tru_tup (SqT.of hq2), q'⟩) (fun c => by cases c) (fun _ => ?_)
    -- if tables is not None and not is_integer(tables, 1, MOST_TABLES)
    refine seq_ifN (b := false) (fun Q' q' => ?_) (fun c => by cases c) (fun _ => ?_)
    · refine ⟨_, rfl, rfl, _, rfl, ?_⟩
      cases t with
      | none => exact if_false_of (by simp [deskV]) q'
      | some n =>
        obtain ⟨b1, b2⟩ := fa.tb n rfl
        refine if_true_of (by simp [deskV]) ?_
        refine ⟨_, rfl, n, 1, 12, rfl, _, rfl, ?_⟩
        rw [decide_eq_true b1, decide_eq_true b2]
        exact q'
    -- the attributes
    have hp3 := s3 _ _ hp
    refine ⟨_, rfl, _, rfl, p, C, dx, [], rfl, hp3, T.cl, T.nH, (by show 0 < 1000; decide), ?_⟩
    refine ⟨_, rfl, _, rfl, p, C, dx, _, rfl, upd_same, T.cl, T.nG, (by show 1 < 1000; decide), ?_⟩
    have l1 := putF_len "_hosts" vh []
    have l2 := putF_len "_guests" vg (putF "_hosts" vh [])
    have l3 := putF_len "_tables" (deskV t) (putF "_guests" vg (putF "_hosts" vh []))
    rw [List.length_nil] at l1
    refine ⟨_, rfl, _, rfl, p, C, dx, _, rfl, upd_same, T.cl, T.nT, (by omega), ?_⟩
    have b4 : But p H (upd (upd (upd H3 p (.ins C dx (putF "_hosts" vh []))) p (.ins C dx (putF "_guests" vg (putF "_hosts" vh [])))) p (.ins C dx (putF "_tables" (deskV t) (putF "_guests" vg (putF "_hosts" vh []))))) := (((But.same s3).own).own).own
    have h4 : (upd (upd (upd H3 p (.ins C dx (putF "_hosts" vh []))) p (.ins C dx (putF "_guests" vg (putF "_hosts" vh [])))) p (.ins C dx (putF "_tables" (deskV t) (putF "_guests" vg (putF "_hosts" vh []))))) p = some (.ins C dx (putF "_tables" (deskV t) (putF "_guests" vg (putF "_hosts" vh [])))) := upd_same
    generalize hF3 : putF "_tables" (deskV t) (putF "_guests" vg (putF "_hosts" vh [])) = F3 at b4 h4 l3 ⊢
    generalize hH4 : (upd (upd (upd H3 p (.ins C dx (putF "_hosts" vh []))) p (.ins C dx (putF "_guests" vg (putF "_hosts" vh [])))) p (.ins C dx F3)) = H4 at b4 h4 ⊢
    have k4 := Tk.ins b4 hp
    refine ⟨_, rfl, vh, hs, rfl, ih.to k4 _ _, Nat.le_trans fa.h4 (by decide), fun m1 H5 s5 _ hm1 => ?_⟩
    refine ⟨_, rfl, vg, gs, rfl, ig.to (k4.trans (Tk.same s5)) _ _, Nat.le_trans fa.g4 (by decide), fun m2 H6 s6 _ hm2 => ?_⟩
    have ne1 : (hs.map fun z => V.str z.1) ≠ [] := by
      intro e
      have := congrArg List.length e
      rw [List.length_map] at this
      have := fa.h1
      simp_all
    have ne2 : (gs.map fun z => V.str z.1) ≠ [] := by
      intro e
      have := congrArg List.length e
      rw [List.length_map] at this
      have := fa.g1
      simp_all
    refine ⟨m1, m2, _, _, rfl, rfl, SqT.of (s6 _ _ hm1), SqT.of hm2, ne1, ?_, (fun e => absurd e ne2), (fun _ m3 n3 => ?_)⟩
    · rw [List.length_map, List.length_map]
      exact Nat.le_trans (show _ ≤ 8 by have := fa.h4; have := fa.g4; omega) (by decide)
    have s7 : Same H4 (upd H6 m3 (.tup ((hs.map fun z => V.str z.1) ++ (gs.map fun z => V.str z.1)))) := same_new (s5.trans s6) n3
    have h7 := s7 _ _ h4
    have nmp : m3 ≠ p := fun e => by
      have := (s5.trans s6) _ _ h4
      rw [← e, n3] at this
      cases this
    refine ⟨_, rfl, p, C, dx, F3, rfl, h7, T.cl, T.nN, (by omega), ?_⟩
    have b8 : But p H (upd (upd H6 m3 (.tup ((hs.map fun z => V.str z.1) ++ (gs.map fun z => V.str z.1)))) p (.ins C dx (putF "_names" (.ref m3) F3))) := (b4.trans (But.same s7)).own
    have h8 : (upd (upd H6 m3 (.tup ((hs.map fun z => V.str z.1) ++ (gs.map fun z => V.str z.1)))) p (.ins C dx (putF "_names" (.ref m3) F3))) p = some (.ins C dx (putF "_names" (.ref m3) F3)) := upd_same
    have h8m : (upd (upd H6 m3 (.tup ((hs.map fun z => V.str z.1) ++ (gs.map fun z => V.str z.1)))) p (.ins C dx (putF "_names" (.ref m3) F3))) m3 = some (.tup ((hs.map fun z => V.str z.1) ++ (gs.map fun z => V.str z.1))) := (upd_ne nmp).trans upd_same
    have l4 := putF_len "_names" (.ref m3) F3
    have k8 := Tk.ins b8 hp
    refine ⟨_, rfl, _, rfl, _, rfl, vh, vg, hs, gs, t, rfl, ih.to k8 _ _, ig.to k8 _ _, fa.short, fun H9 s9 => ?_⟩
    refine ⟨_, rfl, p, C, dx, _, rfl, s9 _ _ h8, T.cl, T.nX, (by omega), ?_⟩
    refine k m3 _ ((b8.trans (But.same s9)).own) ?_ (SqT.of ?_)
    · rw [upd_same, ← hF3, ff_put]
    · rw [upd_ne nmp]
      unfold namesV
      rw [s9 _ _ h8m, List.map_map, List.map_append] <;> rfl
end
end F02
namespace SP
open PySem PySem.W PySem.Calls PyProof.Rows Builtin
section
variable {prog : Program} {w : World} {A : Around} {E : Value → Shared → Prop} {s : Shared} {K : Frag} {x C L f : Addr} {h₀ : Heap} {m : Str → Option Value} {ox : Obj} {od : Option Obj} {b tb : Value}
/-- a special method that is a built-in slot, tried by a comparison -/
theorem ifBound_slot {M : Model} {name : Str} {id : String} {args : List Value} {Q : Option Value → Shared → Prop} (X : K.In s.heap) (I : InstAt s.heap x ox C od)
    (hs : findIn K (.ref C) name = some (some (.builtin id))) (hb : ∀ self, bindSpecial (.builtin id) self = pure (.builtin id, [self]))
    (h : wpAny M A (call (.builtin id) (.ref x :: args)) (fun v => Q (some v)) E s) : wpAny M A (callSpecialIfBound? (.ref x) name args) Q E s := by
  simp only [callSpecialIfBound?, bindSpecialIfBound?]
  refine wpAny_holding (wpAny_bind (wpAny_bind (wpAny_bind (I.type.here ((looks_findIn X hs).here ?_)))))
  refine wpAny_bind (wpAny_askSetting (wpAny_ite ?_))
  have fin : wpAny M A (call (.builtin id) ([.ref x] ++ args) >>= fun v => pure (some v)) Q E s :=
    wpAny_bind (wpAny_mono h (fun v s' h' => wpAny_pure h') (fun _ _ h' => h'))
  split
  · exact wpAny_bind ((Looks.of_pure (hb _)).here (wpAny_pure (by exact fin)))
  · exact wpAny_tryCatch (wpAny_bind ((Looks.of_pure (hb _)).here (wpAny_pure (by exact fin))))
/-- object.__ne__ where the class has its own __eq__ -/
theorem obj_ne {Q : Value → Shared → Prop} (hu : A.in1.units < cLine) (X : K.In s.heap) (I : InstAt s.heap x ox C od) (hm : mroIn K C (.type "object") = some true)
    (he : findIn K (.ref C) "__eq__" = some (some (.ref f))) (hf : isFn K (.ref f) = true)
    (h : wpAny (model prog w) A.in1 (call (.ref f) [.ref x, b]) (fun v s' => ∃ c, v = .bool c ∧ Q (.bool (!c)) s') E s) :
    wpAny (model prog w) A (call (.builtin "object.__ne__") [.ref x, b]) Q E s := by
  refine wpAny_call (codeAny_call_builtin PySem.F.cmp_object.ne.plain PySem.F.cmpEntry_ne
    (check_slot (i := "object.__ne__") (owner := "object") (n := "__ne__") PySem.F.cmpKind_ne PySem.F.cmpSplit_ne (I.type.andThen (looks_mroIn X hm)) (PySem.F.cmpArgs_ne _ _) ?_))
  unfold Builtin.«object.__ne__»
  refine wpAny_bind (m := slotArgs "__ne__" 1 _) (wpAny_pure ?_)
  refine wpAny_bind (m := cRoomFor _ _) (wpAny_cRoomFor hu ?_)
  refine wpAny_bind (m := callSpecialIfBound? (.ref x) (Str.ofString "__eq__") _) (ifBound_K X I he hf (wpAny_mono h (fun r s' hq => ?_) (fun _ _ y => y)))
  obtain ⟨c, rfl, q⟩ := hq
  exact wpAny_bind (m := truthy (.bool c)) (wpAny_truthy_bool (wpAny_pure q))
theorem rich_ne {Q : Value → Shared → Prop} (hu : A.in1.units < cLine) (F : Fr h₀ L s.heap m) (X₀ : K.In h₀) (I : InstAt s.heap x ox C od) (hb : Looks (model prog w) s.heap (typeOf b) tb)
    (hn : notFirst K C tb = true) (hm : mroIn K C (.type "object") = some true) (hne : findIn K (.ref C) "__ne__" = some (some (.builtin "object.__ne__")))
    (he : findIn K (.ref C) "__eq__" = some (some (.ref f))) (hf : isFn K (.ref f) = true)
    (h : wpAny (model prog w) A.in1 (call (.ref f) [.ref x, b]) (fun v s' => ∃ c, v = .bool c ∧ Q (.bool (!c)) s') E s) :
    wpAny (model prog w) A (richCompare .NotEq (.ref x) b) Q E s := by
  have X := X₀.keeps F.keep
  have hu0 : A.units < cLine := Nat.lt_of_succ_lt hu
  have one : wpAny (model prog w) A (tryCompare (.ref x) (cmpInfo .NotEq).2.1 b) (fun r s' => ∃ v, r = some v ∧ Q v s') E s := by
    unfold tryCompare
    refine wpAny_bind (ifBound_slot X I hne PySem.F.cmp_object.ne.bind (obj_ne hu X I hm he hf (wpAny_mono h (fun v s' hv => ?_) (fun _ _ e => e))))
    obtain ⟨c, rfl, q⟩ := hv
    exact ⟨c, rfl, wpAny_pure ⟨_, rfl, q⟩⟩
  unfold richCompare
  simp only [oneThing_ref]
  refine wpAny_holding (wpAny_bind (wpAny_cRoomFor hu0 ?_))
  refine wpAny_bind (I.type.here (wpAny_bind (hb.here ?_)))
  split
  · rename_i q
    have e : subIn K tb (.ref C) = some false := by
      rcases Bool.or_eq_true_iff.mp hn with e | e
      · rw [beq_iff_eq.mp e] at q; simp at q
      · exact beq_iff_eq.mp e
    refine wpAny_bind ((looks_subIn X e).here ?_)
    simp only [Bool.false_eq_true, if_false]
    refine wpAny_bind (wpAny_mono one (fun r s' z => ?_) (fun _ _ e => e))
    obtain ⟨v, rfl, hq⟩ := z
    exact wpAny_pure hq
  · refine wpAny_bind (wpAny_pure ?_)
    simp only [Bool.false_eq_true, if_false]
    refine wpAny_bind (wpAny_mono one (fun r s' z => ?_) (fun _ _ e => e))
    obtain ⟨v, rfl, hq⟩ := z
    exact wpAny_pure hq
/-- the truth of an instance by its own __len__ -/
theorem truth_len {Q : Bool → Shared → Prop} (F : Fr h₀ L s.heap m) (X₀ : K.In h₀) (I : InstAt s.heap x ox C od) (hb : findIn K (.ref C) "__bool__" = some none)
    (hs : findIn K (.ref C) "__len__" = some (some (.ref f))) (hf : isFn K (.ref f) = true)
    (h : wpAny (model prog w) A.in1 (call (.ref f) [.ref x]) (PySem.W.LenBack fun v s' => ∃ n t, v = .int n t ∧ Q (n != 0) s') E s) : wpAny (model prog w) A (truthy (.ref x)) Q E s := by
  have X := X₀.keeps F.keep
  have key : wpAny (model prog w) A (runValue (.builtin "len" ⟨[.ref x], []⟩)) (fun v s' => ∃ n t, v = .int n t ∧ Q (n != 0) s') E s := by
    refine wpAny_runValue (codeAny_builtin entry_len ?_)
    rw [Around.under_plainId plain_len _]
    refine wpAny_mono (Q := fun fin s' => ∃ r, fin = .done (.ret r) ∧ ∃ n t, r = .int n t ∧ Q (n != 0) s') ?_ (fun fin s' h' => by obtain ⟨r, rfl, hq⟩ := h'; exact hq) (fun _ _ e => e)
    unfold Builtin.«len»
    refine wpAny_bind (m := oneArg "len" _) (wpAny_pure ?_)
    refine wpAny_bind (m := callSpecial? (.ref x) (Str.ofString "__len__")) (special_fn X I hs (beq_iff_eq.mp hf) (wpAny_mono h (fun r s' hr => ?_) (fun _ _ y => y)))
    cases r <;> first | exact hr.elim | skip
    rename_i n u
    obtain ⟨⟨h0, h1⟩, n', t', e, hq⟩ := hr
    cases e
    refine wpAny_bind (wpAny_holding (wpAny_pure ?_))
    refine wpAny_bind (wpAny_letGo ?_)
    show wpAny _ _ (if n < 0 then _ else _) _ _ _
    rw [if_neg (by omega)]
    show wpAny _ _ (if n ≥ 2 ^ 63 then _ else _) _ _ _
    rw [if_neg (by omega)]
    exact wpAny_bind (wpAny_mkInt (wpAny_pure ⟨_, rfl, _, _, rfl, hq⟩))
  have hsp : ∀ {Q' : Option Value → Shared → Prop}, Q' (some (.ref f)) s → wpAny (model prog w) A (specialOf (.ref x) "__len__") Q' E s := fun q => by
    unfold specialOf
    exact wpAny_bind (I.type.here ((looks_findIn X hs).here q))
  unfold truthy
  first
    | refine wpAny_bind (DSub.special_no (name := Str.ofString "__bool__") X I hb ?_)
    | refine wpAny_bind (wpAny_pure (wpAny_bind (DSub.special_no (name := Str.ofString "__bool__") X I hb ?_)))
  first
    | refine wpAny_bind (hsp ?_)
    | refine wpAny_bind (wpAny_pure (wpAny_bind (hsp ?_)))
  first
    | exact wpAny_bind (wpAny_mono key (fun r s' h' => by obtain ⟨n, t, rfl, hq⟩ := h'; exact wpAny_pure hq) fun _ _ e => e)
    | exact wpAny_bind (wpAny_pure (wpAny_bind (wpAny_mono key (fun r s' h' => by obtain ⟨n, t, rfl, hq⟩ := h'; exact wpAny_pure hq) fun _ _ e => e)))

/-- bool(x), x an instance (or anything) whose truth is known -/
theorem call_bool {v : Value} {Q : Value → Shared → Prop} (h : wpAny (model prog w) A.in1.in1 (truthy v) (fun r s' => Q (.bool r) s') E s) :
    wpAny (model prog w) A (call (.type "bool") [v]) Q E s := by
  refine callType_codes (T := "bool") (Bi := Builtin.«object.__init__») (Q₁ := fun r s₁ => ∃ c, r = .bool c ∧ Q r s₁) PySem.F.called_bool (PySem.F.typeCall_bool_1 _) PySem.F.entry_object_init ?_ ?_
  · refine codeAny_of_tree ?_
    show wpAny _ A.in1.in1 (do checkBuiltinCall "bool.__new__" ⟨[.type "bool", v], []⟩; again (.builtin "bool.__new__" ⟨[.type "bool", v], []⟩)) _ _ s
    refine wpAny_bind (wpAny_of_eq (PySem.F.newCall_bool_1 _) (wpAny_pure ⟨plainId_quiet (by decide +kernel) _, codeAny_builtin PySem.F.entry_bool_new ?_⟩))
    rw [Around.under_plainId (by decide +kernel) _]
    unfold Builtin.«bool.__new__»
    have f1 := PySem.F.conv_sub_bool
    have key : wpAny (model prog w) A.in1.in1 (truthy v) (fun r s' => ∃ c, Value.bool r = .bool c ∧ Q (.bool r) s') E s := wpAny_mono h (fun r s' q => ⟨r, rfl, q⟩) (fun _ _ e => e)
    repeat (any_goals (first | assumption | (with_reducible refine wpAny_bind (m := truthy v) (wpAny_mono h (fun r s' q => ?_) (fun _ _ e => e))) | wp_step))
    all_goals first | exact ⟨_, rfl, _, rfl, q⟩ | exact ⟨_, rfl, q⟩ | exact ⟨_, rfl, by assumption⟩ | skip
  · rintro obj s₁ ⟨c, rfl, hq⟩
    exact ⟨PySem.typeIs_bool _ _, PySem.F.args_object_init_2 _ _, object_init_meets PySem.F.called_bool.init.lookup PySem.F.called_bool.made (by decide) prog w A.in1 _ s₁ ⟨PySem.typeIs_bool _ _, rfl, hq⟩⟩
end
end SP
namespace SP
open PySem PySem.Spec PyProof.Rows L2
section
variable {X : Cx} {CX : CXT} {k : Nat} {C f : Addr} {fd : FuncData} {ps : List Str} {sp : Sp} {E : XK}
/-- an own def called somewhere below the running body -/
theorem run_at {A' : Around} {pins : List (Addr × Obj)} {σ : L2.St} {H : Hp} {s : Shared} {Q : VK} {us : List Value} {vs : List V}
    (F : FnOk X.prog X.w X.K X.mg X.base CX k f fd ps sp) (hr : Room k A') (hfr : A'.frames = X.A.frames) (hb : Binds X.K fd ps []) (hx : Passes CX X E)
    (I : Inv X pins σ H s) (r : Vals vs us) (h : sp vs H Q E) : wpAny (model X.prog X.w) A' (call (.ref f) us) (EP X pins σ Q) X.xe s := by
  have e := I.env0
  have e0 : Env0 X.prog X.w X.K X.mg X.base A' X.stack s H := ⟨by rw [hfr]; exact e.frames, e.mod, e.bs, e.bsz, e.funs, e.frf, e.hok, e.bare⟩
  have hl := F.len _ _ _ _ h
  have hb' := hb s us I.kIn (by rw [List.append_nil, ← r.length]; exact hl)
  rw [List.append_nil] at hb'
  refine wpAny_call (codeAny_mono (F.run A' X.stack s H ⟨us, []⟩ us vs Q E hr e0 hb' r h) (fun res s' hq => ?_))
  match res, hq with
  | .error e, hq => exact hx pins σ H s e s' I hq
  | .ok (.ret u), hq => exact I.after hq
def rLenOwn (C : Addr) (sp : Sp) (E : XK) : List V → Hp → VK → Prop := fun xs H Q => ∃ a dx fs, xs = [.ref a] ∧ H a = some (.ins C dx fs) ∧ sp [.ref a] H (fun z H' => ∃ n : Int, z = .int n ∧ 0 ≤ n ∧ n < 2 ^ 63 ∧ Q (.int n) H') E
theorem call_lenOwn (F : FnOk X.prog X.w X.K X.mg X.base CX k f fd ps sp) (hr : Room (k + 1) X.A) (hb : Binds X.K fd ps []) (hx : Passes CX X E)
    (hs : PySem.W.findIn X.K (.ref C) "__len__" = some (some (.ref f))) (hf : PySem.W.isFn X.K (.ref f) = true) : CallR X (.builtin "len") (rLenOwn C sp E) := by
  intro pins s σ H xs us Q I r h
  obtain ⟨a, dx, fs, rfl, ha, h⟩ := h
  obtain rfl := Vals.ref1 r
  obtain ⟨mA, J, _⟩ := ins_get I.hok ha
  obtain ⟨od, J, _⟩ := J.look
  obtain ⟨m, hF⟩ := I.fr
  refine PySem.W.len_K hF I.ok.mod.kin J hs hf (wpAny_mono (run_at F hr.in1 rfl hb hx I (vs := [.ref a]) (us := [Value.ref a]) (.cons rfl .nil) h) (fun v s' hv => ?_) (fun _ _ e => e))
  obtain ⟨z, H', I', rz, n, rfl, h0, h1, q⟩ := hv
  obtain ⟨t, rfl⟩ := rz
  exact ⟨⟨h0, h1⟩, .int n, H', I'.tok _, ⟨_, rfl⟩, q⟩
def rBoolOwn (C : Addr) (sp : Sp) (E : XK) : List V → Hp → VK → Prop := fun xs H Q => ∃ a dx fs, xs = [.ref a] ∧ H a = some (.ins C dx fs) ∧ sp [.ref a] H (fun z H' => ∃ n : Int, z = .int n ∧ 0 ≤ n ∧ n < 2 ^ 63 ∧ Q (.bl (n != 0)) H') E
theorem call_boolOwn (F : FnOk X.prog X.w X.K X.mg X.base CX k f fd ps sp) (hr : Room (k + 3) X.A) (hb : Binds X.K fd ps []) (hx : Passes CX X E)
    (hn : PySem.W.findIn X.K (.ref C) "__bool__" = some none) (hs : PySem.W.findIn X.K (.ref C) "__len__" = some (some (.ref f))) (hf : PySem.W.isFn X.K (.ref f) = true) : CallR X (.type "bool") (rBoolOwn C sp E) := by
  intro pins s σ H xs us Q I r h
  obtain ⟨a, dx, fs, rfl, ha, h⟩ := h
  obtain rfl := Vals.ref1 r
  obtain ⟨mA, J, _⟩ := ins_get I.hok ha
  obtain ⟨od, J, _⟩ := J.look
  obtain ⟨m, hF⟩ := I.fr
  refine call_bool (truth_len hF I.ok.mod.kin J hn hs hf (wpAny_mono (run_at F hr.in1.in1.in1 rfl hb hx I (vs := [.ref a]) (us := [Value.ref a]) (.cons rfl .nil) h) (fun v s' hv => ?_) (fun _ _ e => e)))
  obtain ⟨z, H', I', rz, n, rfl, h0, h1, q⟩ := hv
  obtain ⟨t, rfl⟩ := rz
  exact ⟨⟨h0, h1⟩, n, _, rfl, .bl (n != 0), H', I'.tok _, rfl, q⟩
def rStrOwn (C : Addr) (sp : Sp) (E : XK) : List V → Hp → VK → Prop := fun xs H Q => ∃ a dx fs, xs = [.ref a] ∧ H a = some (.ins C dx fs) ∧ sp [.ref a] H (fun z H' => ∃ x : Str, z = .str x ∧ Q (.str x) H') E
theorem call_strOwn (F : FnOk X.prog X.w X.K X.mg X.base CX k f fd ps sp) (hr : Room (k + 2) X.A) (hb : Binds X.K fd ps []) (hx : Passes CX X E)
    (hs : PySem.W.findIn X.K (.ref C) "__str__" = some (some (.ref f))) (hf : PySem.W.isFn X.K (.ref f) = true) : CallR X (.type "str") (rStrOwn C sp E) := by
  intro pins s σ H xs us Q I r h
  obtain ⟨a, dx, fs, rfl, ha, h⟩ := h
  obtain rfl := Vals.ref1 r
  obtain ⟨mA, J, _⟩ := ins_get I.hok ha
  obtain ⟨od, J, _⟩ := J.look
  refine PySem.W.kso_call hr.in1.in1.units0 I.kIn J hs hf (wpAny_mono (run_at F hr.in1.in1 rfl hb hx I (vs := [.ref a]) (us := [Value.ref a]) (.cons rfl .nil) h) (fun v s' hv => ?_) (fun _ _ e => e))
  obtain ⟨z, H', I', rz, x, rfl, q⟩ := hv
  obtain ⟨t, rfl⟩ := rz
  exact ⟨.str x, H', I', ⟨_, rfl⟩, q⟩
def rInOwn (C : Addr) (sp : Sp) (E : XK) : R2 := fun x y H Q => ∃ a dx fs, y = .ref a ∧ H a = some (.ins C dx fs) ∧ sp [.ref a, x] H (fun z H' => ∃ c : Bool, z = .bl c ∧ Q (.bl c) H') E
theorem op_inOwn (F : FnOk X.prog X.w X.K X.mg X.base CX k f fd ps sp) (hr : Room k X.A) (hb : Binds X.K fd ps []) (hx : Passes CX X E)
    (hs : PySem.W.findIn X.K (.ref C) "__contains__" = some (some (.ref f))) (hf : PySem.W.isFn X.K (.ref f) = true) : OpR X (compareOp .In) (rInOwn C sp E) := by
  intro pins s σ H x y v u Q I rx ry h
  obtain ⟨a, dx, fs, rfl, ha, h⟩ := h
  cases (show u = Value.ref a from ry)
  obtain ⟨mA, J, _⟩ := ins_get I.hok ha
  obtain ⟨od, J, _⟩ := J.look
  obtain ⟨m, hF⟩ := I.fr
  refine PySem.W.in_K hF I.ok.mod.kin J hs hf (wpAny_mono (run_at F hr rfl hb hx I (vs := [.ref a, x]) (us := [Value.ref a, v]) (.cons rfl (.cons rx .nil)) h) (fun w s' hv => ?_) (fun _ _ e => e))
  obtain ⟨z, H', I', rz, c, rfl, q⟩ := hv
  cases (show w = Value.bool c from rz)
  exact wpAny_truthy_bool ⟨.bl c, H', I', rfl, q⟩
def rEqOwn (K : PySem.W.Frag) (C : Addr) (sp : Sp) (E : XK) (neg : Bool) : R2 := fun x y H Q => ∃ a dx fs t, x = .ref a ∧ H a = some (.ins C dx fs) ∧ TyX K H y t ∧ PySem.W.notFirst K C t = true ∧ sp [.ref a, y] H (fun z H' => ∃ c : Bool, z = .bl c ∧ Q (.bl (if neg then !c else c)) H') E
theorem op_eqOwn (F : FnOk X.prog X.w X.K X.mg X.base CX k f fd ps sp) (hr : Room k X.A) (hb : Binds X.K fd ps []) (hx : Passes CX X E)
    (hs : PySem.W.findIn X.K (.ref C) "__eq__" = some (some (.ref f))) (hf : PySem.W.isFn X.K (.ref f) = true) : OpR X (compareOp .Eq) (rEqOwn X.K C sp E false) := by
  intro pins s σ H x y v u Q I rx ry h
  obtain ⟨a, dx, fs, t, rfl, ha, ty, hn, h⟩ := h
  cases (show v = Value.ref a from rx)
  obtain ⟨mA, J, _⟩ := ins_get I.hok ha
  obtain ⟨od, J, _⟩ := J.look
  obtain ⟨m, hF⟩ := I.fr
  obtain ⟨Pt, Z, p, _⟩ := kit_of I ry ty
  show wpAny (model X.prog X.w) X.A (richCompare .Eq (.ref a) u) (EP X pins σ Q) X.xe s
  refine PySem.W.cmp_K (op := .Eq) hr.units0 hF I.ok.mod.kin J (Z.ty _ _ I.kIn p) hn hs hf (wpAny_mono (run_at F hr rfl hb hx I (vs := [.ref a, y]) (us := [Value.ref a, u]) (.cons rfl (.cons ry .nil)) h) (fun w s' hv => ?_) (fun _ _ e => e))
  obtain ⟨z, H', I', rz, c, rfl, q⟩ := hv
  cases (show w = Value.bool c from rz)
  exact ⟨.bl c, H', I', rfl, q⟩
theorem op_neOwn (F : FnOk X.prog X.w X.K X.mg X.base CX k f fd ps sp) (hr : Room (k + 1) X.A) (hb : Binds X.K fd ps []) (hx : Passes CX X E)
    (hne : PySem.W.findIn X.K (.ref C) "__ne__" = some (some (.builtin "object.__ne__"))) (hm : PySem.W.mroIn X.K C (.type "object") = some true)
    (hs : PySem.W.findIn X.K (.ref C) "__eq__" = some (some (.ref f))) (hf : PySem.W.isFn X.K (.ref f) = true) : OpR X (compareOp .NotEq) (rEqOwn X.K C sp E true) := by
  intro pins s σ H x y v u Q I rx ry h
  obtain ⟨a, dx, fs, t, rfl, ha, ty, hn, h⟩ := h
  cases (show v = Value.ref a from rx)
  obtain ⟨mA, J, _⟩ := ins_get I.hok ha
  obtain ⟨od, J, _⟩ := J.look
  obtain ⟨m, hF⟩ := I.fr
  obtain ⟨Pt, Z, p, _⟩ := kit_of I ry ty
  show wpAny (model X.prog X.w) X.A (richCompare .NotEq (.ref a) u) (EP X pins σ Q) X.xe s
  refine rich_ne hr.in1.units0 hF I.ok.mod.kin J (Z.ty _ _ I.kIn p) hn hm hne hs hf (wpAny_mono (run_at F hr.in1 rfl hb hx I (vs := [.ref a, y]) (us := [Value.ref a, u]) (.cons rfl (.cons ry .nil)) h) (fun w s' hv => ?_) (fun _ _ e => e))
  obtain ⟨z, H', I', rz, c, rfl, q⟩ := hv
  cases (show w = Value.bool c from rz)
  exact ⟨c, rfl, .bl (!c), H', I', rfl, q⟩
end
end SP
namespace F02
open PySem PySem.Spec PyProof.Rows L2 MG SP
theorem ff_hosts (vh vg vt : V) (n : Addr) (x : Str) : (ff vh vg vt n x).lookup ("_hosts" : Str) = some vh := by
  unfold ff; simp [List.lookup]
theorem lk_ne {f g : Str} {v : V} {r : List (Str × V)} (h : (f == g) = false) : ((g, v) :: r).lookup f = r.lookup f := by
  simp only [List.lookup, h]
theorem lk_eq {f : Str} {v : V} {r : List (Str × V)} : ((f, v) :: r).lookup f = some v := by
  simp [List.lookup]
theorem ff_guests (vh vg vt : V) (n : Addr) (x : Str) : (ff vh vg vt n x).lookup ("_guests" : Str) = some vg := by
  unfold ff
  rw [lk_ne (by decide +kernel), lk_eq]
theorem ff_tables (vh vg vt : V) (n : Addr) (x : Str) : (ff vh vg vt n x).lookup ("_tables" : Str) = some vt := by
  unfold ff
  rw [lk_ne (by decide +kernel), lk_ne (by decide +kernel), lk_eq]
theorem ff_names (vh vg vt : V) (n : Addr) (x : Str) : (ff vh vg vt n x).lookup ("_names" : Str) = some (.ref n) := by
  unfold ff
  rw [lk_ne (by decide +kernel), lk_ne (by decide +kernel), lk_ne (by decide +kernel), lk_eq]
theorem ff_text (vh vg vt : V) (n : Addr) (x : Str) : (ff vh vg vt n x).lookup ("_text" : Str) = some (.str x) := by
  unfold ff
  rw [lk_ne (by decide +kernel), lk_ne (by decide +kernel), lk_ne (by decide +kernel), lk_ne (by decide +kernel), lk_eq]
/-- a fair stands at p -/
def FairAt (K : PySem.W.Frag) (C : Addr) (H : Hp) (p : Addr) (hs gs : Side) (t : Option Int) : Prop :=
  ∃ (dx : Addr) (vh vg : V) (n : Addr), H p = some (.ins C dx (ff vh vg (deskV t) n (textT hs gs t))) ∧ Im K H vh (sideD hs) ∧ Im K H vg (sideD gs) ∧ SqT K H n (namesV hs gs)
theorem FairAt.to {K : PySem.W.Frag} {C : Addr} {H H' : Hp} {p : Addr} {hs gs : Side} {t : Option Int} (f : FairAt K C H p hs gs t) (tk : Tk H H') (hp : ∀ o, H p = some o → H' p = some o) : FairAt K C H' p hs gs t := by
  obtain ⟨dx, vh, vg, n, h1, h2, h3, h4⟩ := f
  exact ⟨dx, vh, vg, n, hp _ h1, h2.to tk _ _, h3.to tk _ _, tk.sq h4⟩
theorem FairAt.same {K : PySem.W.Frag} {C : Addr} {H H' : Hp} {p : Addr} {hs gs : Side} {t : Option Int} (f : FairAt K C H p hs gs t) (s : Same H H') : FairAt K C H' p hs gs t := f.to (Tk.same s) (fun o h => s _ _ h)
theorem FairAt.jug {K : PySem.W.Frag} {C : Addr} {H H' : Hp} {p q : Addr} {N : Nat} {hs gs : Side} {t : Option Int} (f : FairAt K C H p hs gs t) (b : But q H H') (j : Jug H q N) : FairAt K C H' p hs gs t := by
  have n : p ≠ q := fun e => by
    obtain ⟨_, _, _, _, h1, _⟩ := f
    obtain ⟨_, _, _, h2, _⟩ := j
    rw [e, h2] at h1
    cases h1
  exact f.to (Tk.jug b j) (fun o h => b _ _ n h)
/-- what the top has written of the class -/
structure TxC (K : PySem.W.Frag) (mg : Str → Option Value) (C : Addr) : Prop where
  cl : Cls K C
  nH : NoAttr K C "_hosts"
  nG : NoAttr K C "_guests"
  nT : NoAttr K C "_tables"
  nN : NoAttr K C "_names"
  nX : NoAttr K C "_text"
  g_Fair : mg "Fair" = some (.ref C)
  ha : PySem.W.findIn K (.ref C) "__class__" = some (some (.builtin "object.__class__"))
  hn : PySem.W.specialIn K (.builtin "object.__class__") "__get__" = some (some (.builtin "getset_descriptor.__get__"))
  htk : PySem.W.takesIn K (.builtin "object.__class__") = some true
  hm : PySem.W.mroIn K C (.type "object") = some true
  kC : PySem.W.kitOne K (.ref C) (.ref C) = some true
  kN : PySem.W.kitOne K (.type "NoneType") (.ref C) = some false
  kI : PySem.W.kitOne K (.type "int") (.ref C) = some false
  kS : PySem.W.kitOne K (.type "str") (.ref C) = some false
  kT : PySem.W.kitOne K (.type "tuple") (.ref C) = some false
  kL : PySem.W.kitOne K (.type "list") (.ref C) = some false
  fC : PySem.W.notFirst K C (.ref C) = true
  fN : PySem.W.notFirst K C (.type "NoneType") = true
  fI : PySem.W.notFirst K C (.type "int") = true
  fS : PySem.W.notFirst K C (.type "str") = true
  fT : PySem.W.notFirst K C (.type "tuple") = true
  fL : PySem.W.notFirst K C (.type "list") = true
  nB : PySem.W.findIn K (.ref C) "__bool__" = some none
  ne : PySem.W.findIn K (.ref C) "__ne__" = some (some (.builtin "object.__ne__"))
  n_isinstance : mg "isinstance" = none
  n_str : mg "str" = none
  n_len : mg "len" = none
theorem TxC.ty {K : PySem.W.Frag} {mg : Str → Option Value} {C : Addr} (T : TxC K mg C) {H : Hp} {p dx : Addr} {fs : List (Str × V)} (h : H p = some (.ins C dx fs)) : TyX K H (.ref p) (.ref C) :=
  .base (.ins h T.cl T.ha T.hn T.htk T.hm)
section
variable {P : Program} {w : World} {K : PySem.W.Frag} {mg : Str → Option Value} {base : Heap} {C : Addr}
/-! ### __len__, __str__, __contains__, __eq__ -/
abbrev s_len : Stmt := inClass (top 23) 7
theorem sc_len : FnScope ["self"] ["self"] (defScope s_len) := ⟨rfl, rfl, rfl, by decide +kernel, rfl, by decide +kernel, by decide +kernel⟩
def sp_len (K : PySem.W.Frag) (C : Addr) : Sp := fun vs H Q _ => ∃ (p : Addr) (hs gs : Side) (t : Option Int), vs = [.ref p] ∧ FairAt K C H p hs gs t ∧ Q (.int ((namesV hs gs).length : Int)) H
theorem ok_len {f : Addr} {fd : FuncData} (F : Fun K "__len__" "Fair.__len__" s_len f fd) (T : TxC K mg C) : FnOk P w K mg base CX0 1 f fd ["self"] (sp_len K C) := by
  refine F.ok sc_len (fun vs H Q E h => ?_) (fun cdv A outer s H vs Q E hr h => ?_)
  · obtain ⟨p, hs, gs, t, rfl, _⟩ := h
    rfl
  · obtain ⟨p, hs, gs, t, rfl, ⟨dx, vh, vg, n, h1, h2, h3, h4⟩, k⟩ := h
    exact ⟨_, (pss_one (ps_ret (pe_callB call_len_seq (by rfl) T.n_len PySem.boot_len (pa_cons (pe_fld (pv 0) rfl) pa_nil)))),
      _, rfl, p, C, dx, _, _, rfl, h1, T.cl, T.nN, ff_names _ _ _ _ _, n, _, rfl, .inr h4, k⟩
abbrev s_str : Stmt := inClass (top 23) 8
theorem sc_str : FnScope ["self"] ["self"] (defScope s_str) := ⟨rfl, rfl, rfl, by decide +kernel, rfl, by decide +kernel, by decide +kernel⟩
def sp_str (K : PySem.W.Frag) (C : Addr) : Sp := fun vs H Q _ => ∃ (p : Addr) (hs gs : Side) (t : Option Int), vs = [.ref p] ∧ FairAt K C H p hs gs t ∧ Q (.str (textT hs gs t)) H
theorem ok_str {f : Addr} {fd : FuncData} (F : Fun K "__str__" "Fair.__str__" s_str f fd) (T : TxC K mg C) : FnOk P w K mg base CX0 1 f fd ["self"] (sp_str K C) := by
  refine F.ok sc_str (fun vs H Q E h => ?_) (fun cdv A outer s H vs Q E hr h => ?_)
  · obtain ⟨p, hs, gs, t, rfl, _⟩ := h
    rfl
  · obtain ⟨p, hs, gs, t, rfl, ⟨dx, vh, vg, n, h1, h2, h3, h4⟩, k⟩ := h
    exact ⟨_, (pss_one (ps_ret (pe_callTy SkE.call_str_str (by rfl) T.n_str (by decide +kernel) (pa_cons (pe_fld (pv 0) rfl) pa_nil)))),
      _, rfl, p, C, dx, _, _, rfl, h1, T.cl, T.nX, ff_text _ _ _ _ _, _, rfl, k⟩
abbrev s_has : Stmt := inClass (top 23) 6
theorem sc_has : FnScope ["self", "value"] ["self", "value"] (defScope s_has) := ⟨rfl, rfl, rfl, by decide +kernel, rfl, by decide +kernel, by decide +kernel⟩
def sp_has (K : PySem.W.Frag) (C : Addr) : Sp := fun vs H Q _ => ∃ (p : Addr) (x : Str) (hs gs : Side) (t : Option Int), vs = [.ref p, .str x] ∧ FairAt K C H p hs gs t ∧ Q (.bl (decide (x ∈ (hs ++ gs).map (·.1)))) H
theorem ok_has {f : Addr} {fd : FuncData} (F : Fun K "__contains__" "Fair.__contains__" s_has f fd) (T : TxC K mg C) : FnOk P w K mg base CX0 1 f fd ["self", "value"] (sp_has K C) := by
  refine F.ok sc_has (fun vs H Q E h => ?_) (fun cdv A outer s H vs Q E hr h => ?_)
  · obtain ⟨p, x, hs, gs, t, rfl, _⟩ := h
    rfl
  · obtain ⟨p, x, hs, gs, t, rfl, ⟨dx, vh, vg, n, h1, h2, h3, h4⟩, k⟩ := h
    refine ⟨_, (pss_one (ps_ret (pe_and (pe_callB call_isi (by rfl) T.n_isinstance (by decide +kernel) (pa_cons (pv 1) (pa_cons (pe_bltn (v := .ty "str") (by rfl) T.n_str (by decide +kernel) rfl) pa_nil))) (pe_one (pe_cmpR op_in_seq (pv 1) (pe_fld (pv 0) rfl) rfl))))), ?_⟩
    refine ⟨_, rfl, .str x, .ty "str", _, _, true, rfl, .ty "str", .base (.str x), kit_ty (by decide +kernel), _, rfl, ?_⟩
    refine iteT ⟨_, rfl, _, rfl, p, C, dx, _, _, rfl, h1, T.cl, T.nN, ff_names _ _ _ _ _, n, _, rfl, .inr h4, rfl, flat_strs _, ?_⟩
    unfold namesV
    rw [inV_str]
    exact k
abbrev s_eq : Stmt := inClass (top 23) 9
theorem sc_eq : FnScope ["self", "other"] ["self", "other"] (defScope s_eq) := ⟨rfl, rfl, rfl, by decide +kernel, rfl, by decide +kernel, by decide +kernel⟩
def sp_eq (K : PySem.W.Frag) (C : Addr) : Sp := fun vs H Q _ => ∃ (p : Addr) (y : V) (hs gs : Side) (t : Option Int), vs = [.ref p, y] ∧ FairAt K C H p hs gs t ∧
  ((∃ (q : Addr) (hs' gs' : Side) (t' : Option Int), y = .ref q ∧ FairAt K C H q hs' gs' t' ∧ Q (.bl (decide (V.str (textT hs gs t) = V.str (textT hs' gs' t')))) H) ∨ (∃ u, TyX K H y u ∧ PySem.W.kitOne K u (.ref C) = some false ∧ Q (.bl false) H))
theorem ok_eq {f : Addr} {fd : FuncData} (F : Fun K "__eq__" "Fair.__eq__" s_eq f fd) (T : TxC K mg C) : FnOk P w K mg base CX0 1 f fd ["self", "other"] (sp_eq K C) := by
  refine F.ok sc_eq (fun vs H Q E h => ?_) (fun cdv A outer s H vs Q E hr h => ?_)
  · obtain ⟨p, y, hs, gs, t, rfl, _⟩ := h
    rfl
  · obtain ⟨p, y, hs, gs, t, rfl, ⟨dx, vh, vg, n, h1, h2, h3, h4⟩, k⟩ := h
    refine ⟨_, (pss_one (ps_ret (pe_and (pe_callB call_isi (by rfl) T.n_isinstance (by decide +kernel) (pa_cons (pv 1) (pa_cons (pe_glob (v := .ref C) rfl T.g_Fair rfl) pa_nil))) (pe_one (pe_cmpR op_eq (pe_fld (pv 0) rfl) (pe_fld (pv 1) rfl) (nomark _)))))), ?_⟩
    rcases k with ⟨q, hs', gs', t', rfl, ⟨dx', vh', vg', n', i1, i2, i3, i4⟩, k⟩ | ⟨u, ty, ku, k⟩
    · refine ⟨_, rfl, .ref q, .ref C, _, _, true, rfl, .own C, T.ty i1, T.kC, _, rfl, ?_⟩
      exact iteT ⟨_, rfl, p, C, dx, _, _, rfl, h1, T.cl, T.nX, ff_text _ _ _ _ _, _, rfl, q, C, dx', _, _, rfl, i1, T.cl, T.nX, ff_text _ _ _ _ _, rfl, k⟩
    · exact ⟨_, rfl, y, .ref C, _, _, false, rfl, .own C, ty, ku, _, rfl, iteF k⟩
end
end F02
namespace F02
open PySem PySem.Spec PyProof.Rows L2 MG SP
section
variable {P : Program} {w : World} {K : PySem.W.Frag} {mg : Str → Option Value} {base : Heap} {C : Addr}
abbrev s_hosts : Stmt := inClass (top 23) 2
abbrev s_guests : Stmt := inClass (top 23) 3
abbrev s_tables : Stmt := inClass (top 23) 4
abbrev s_names : Stmt := inClass (top 23) 5
theorem sc_hosts : FnScope ["self"] ["self"] (defScope s_hosts) := ⟨rfl, rfl, rfl, by decide +kernel, rfl, by decide +kernel, by decide +kernel⟩
theorem sc_guests : FnScope ["self"] ["self"] (defScope s_guests) := ⟨rfl, rfl, rfl, by decide +kernel, rfl, by decide +kernel, by decide +kernel⟩
theorem sc_tables : FnScope ["self"] ["self"] (defScope s_tables) := ⟨rfl, rfl, rfl, by decide +kernel, rfl, by decide +kernel, by decide +kernel⟩
theorem sc_names : FnScope ["self"] ["self"] (defScope s_names) := ⟨rfl, rfl, rfl, by decide +kernel, rfl, by decide +kernel, by decide +kernel⟩
theorem ok_hosts {f : Addr} {fd : FuncData} (F : Fun K "hosts" "Fair.hosts" s_hosts f fd) (c : Cls K C) (n : NoAttr K C "_hosts") : FnOk P w K mg base CX0 1 f fd ["self"] (getSp C "_hosts") := by
  refine F.ok sc_hosts (fun vs H Q E h => ?_) (fun cdv A outer s H vs Q E hr h => ?_)
  · obtain ⟨a, dx, fs, v, e, _⟩ := h
    rw [e]; rfl
  · obtain ⟨a, dx, fs, v, rfl, ea, l, q⟩ := h
    exact ⟨_, pss_one (ps_ret (pe_fld (pv 0) rfl)), .ref a, rfl, a, C, dx, fs, v, rfl, ea, c, n, l, q⟩
theorem ok_guests {f : Addr} {fd : FuncData} (F : Fun K "guests" "Fair.guests" s_guests f fd) (c : Cls K C) (n : NoAttr K C "_guests") : FnOk P w K mg base CX0 1 f fd ["self"] (getSp C "_guests") := by
  refine F.ok sc_guests (fun vs H Q E h => ?_) (fun cdv A outer s H vs Q E hr h => ?_)
  · obtain ⟨a, dx, fs, v, e, _⟩ := h
    rw [e]; rfl
  · obtain ⟨a, dx, fs, v, rfl, ea, l, q⟩ := h
    exact ⟨_, pss_one (ps_ret (pe_fld (pv 0) rfl)), .ref a, rfl, a, C, dx, fs, v, rfl, ea, c, n, l, q⟩
theorem ok_tables {f : Addr} {fd : FuncData} (F : Fun K "tables" "Fair.tables" s_tables f fd) (c : Cls K C) (n : NoAttr K C "_tables") : FnOk P w K mg base CX0 1 f fd ["self"] (getSp C "_tables") := by
  refine F.ok sc_tables (fun vs H Q E h => ?_) (fun cdv A outer s H vs Q E hr h => ?_)
  · obtain ⟨a, dx, fs, v, e, _⟩ := h
    rw [e]; rfl
  · obtain ⟨a, dx, fs, v, rfl, ea, l, q⟩ := h
    exact ⟨_, pss_one (ps_ret (pe_fld (pv 0) rfl)), .ref a, rfl, a, C, dx, fs, v, rfl, ea, c, n, l, q⟩
theorem ok_names {f : Addr} {fd : FuncData} (F : Fun K "names" "Fair.names" s_names f fd) (c : Cls K C) (n : NoAttr K C "_names") : FnOk P w K mg base CX0 1 f fd ["self"] (getSp C "_names") := by
  refine F.ok sc_names (fun vs H Q E h => ?_) (fun cdv A outer s H vs Q E hr h => ?_)
  · obtain ⟨a, dx, fs, v, e, _⟩ := h
    rw [e]; rfl
  · obtain ⟨a, dx, fs, v, rfl, ea, l, q⟩ := h
    exact ⟨_, pss_one (ps_ret (pe_fld (pv 0) rfl)), .ref a, rfl, a, C, dx, fs, v, rfl, ea, c, n, l, q⟩
end
end F02
namespace F02
open PySem PySem.Spec PyProof.Rows L2 MG SP
section
variable {K : PySem.W.Frag} {f : Addr} {fd : FuncData}
abbrev psI : List Str := ["self", "hosts", "guests", "tables"]
abbrev FI (K : PySem.W.Frag) (f : Addr) (fd : FuncData) : Prop := FunD K "__init__" "Fair.__init__" (defArgs s_init) (defBody s_init) (defScope s_init) [.non] [] f fd
theorem b_init4 (F : FI K f fd) : Binds K fd psI [] := by
  obtain ⟨ds, r, h⟩ := F.binds1 (ps := psI) 4 1 (by simp) rfl (fun T kV doc pm an cdv ct us its l1 l2 => by
    obtain ⟨a, b, c, d, rfl⟩ : ∃ a b c d, us = [a, b, c, d] := by
      match us, l1 with
      | [a, b, c, d], _ => exact ⟨a, b, c, d, rfl⟩
    obtain ⟨e, rfl⟩ : ∃ e, its = [e] := by
      match its, l2 with
      | [e], _ => exact ⟨e, rfl⟩
    exact ⟨_, rfl, rfl⟩)
  cases r
  exact h
theorem b_init3 (F : FI K f fd) : ∃ ds, Vals [V.non] ds ∧ Binds K fd psI ds :=
  F.binds1 (ps := psI) 3 0 (by simp) rfl (fun T kV doc pm an cdv ct us its l1 l2 => by
    obtain ⟨a, b, c, rfl⟩ : ∃ a b c, us = [a, b, c] := by
      match us, l1 with
      | [a, b, c], _ => exact ⟨a, b, c, rfl⟩
    obtain ⟨e, rfl⟩ : ∃ e, its = [e] := by
      match its, l2 with
      | [e], _ => exact ⟨e, rfl⟩
    exact ⟨_, rfl, rfl⟩)
def gK {α : Type} (us its ws : List α) : List α := match ws with
  | [a, b, c] => us ++ [c, b, a]
  | _ => us
theorem b_initK (F : FI K f fd) : ∃ its : List Value, KBn K fd psI 1 ["tables", "guests", "hosts"] (fun us ws => gK us its ws) (fun vs zs => gK vs [V.non] zs) :=
  F.kbindsD (ps := psI) 1 ["tables", "guests", "hosts"] (@gK) (by simp) (fun {vs ds zs us its ws} r1 r2 r3 => by
    cases r3 with
    | nil => exact r1
    | cons x1 r3 =>
      cases r3 with
      | nil => exact r1
      | cons x2 r3 =>
        cases r3 with
        | nil => exact r1
        | cons x3 r3 =>
          cases r3 with
          | nil => exact r1.append (.cons x3 (.cons x2 (.cons x1 .nil)))
          | cons x4 r3 => exact r1) (fun T kV doc pm an cdv ct us its ws l1 l2 l3 => by
    obtain ⟨a, rfl⟩ : ∃ a, us = [a] := by
      match us, l1 with
      | [a], _ => exact ⟨a, rfl⟩
    obtain ⟨e, rfl⟩ : ∃ e, its = [e] := by
      match its, l2 with
      | [e], _ => exact ⟨e, rfl⟩
    obtain ⟨x, y, z, rfl⟩ : ∃ x y z, ws = [x, y, z] := by
      match ws, l3 with
      | [x, y, z], _ => exact ⟨x, y, z, rfl⟩
    exact ⟨_, rfl, rfl⟩)
end
section
variable {P : Program} {w : World} {K : PySem.W.Frag} {mg : Str → Option Value} {base : Heap} {C : Addr}
theorem But.fresh {H H1 : Hp} {x dx : Addr} {o o' : HO} (hx : H x = none) (hd : H dx = none) (b : But x (upd (upd H dx o) x o') H1) : Same H H1 := fun a u e => by
  have n1 : a ≠ x := ne_of_none e hx
  have n2 : a ≠ dx := ne_of_none e hd
  exact b a u n1 ((upd_ne n1).trans ((upd_ne n2).trans e))
/-- a fair is made of right sides -/
theorem made {H : Hp} {vh vg : V} {hs gs : Side} {t : Option Int} {Q : VK} {E : XK} {x dx : Addr} (h1 : Im K H vh (sideD hs)) (h2 : Im K H vg (sideD gs)) (fi : Fairish hs gs t) (hx : H x = none) (hd : H dx = none) (hn : dx ≠ x)
    (k : ∀ H', Same H H' → FairAt K C H' x hs gs t → Q (.ref x) H') : sp_init K C [.ref x, vh, vg, deskV t] (upd (upd H dx (.own x)) x (.ins C dx [])) (fun v H3 => v = .non ∧ Q (.ref x) H3) E := by
  have s0 : Same H (upd (upd H dx (.own x)) x (.ins C dx [])) := (same_new (Same.refl H) hd).trans (same_new (Same.refl _) (by rw [upd_ne (Ne.symm hn)]; exact hx))
  refine ⟨x, dx, vh, vg, hs, gs, t, rfl, upd_same, h1.to (Tk.same s0) _ _, h2.to (Tk.same s0) _ _, fi, fun n H' b e sq => ⟨rfl, ?_⟩⟩
  have sm := But.fresh hx hd b
  exact k H' sm ⟨dx, vh, vg, n, e, h1.to (Tk.same sm) _ _, h2.to (Tk.same sm) _ _, sq⟩
abbrev s_l_fair : Stmt := top 30
theorem sc_l_fair : FnScope ["_law_parts_here"] ["_law_parts_here"] (defScope s_l_fair) := ⟨rfl, rfl, rfl, by decide +kernel, rfl, by decide +kernel, by decide +kernel⟩
def sp_l_fair (K : PySem.W.Frag) (C : Addr) : Sp := fun vs H Q _ => ∃ (v : V) (hs gs : Side) (t : Option Int), vs = [v] ∧ Im K H v (partsD hs gs t) ∧ Fairish hs gs t ∧ ∀ (x : Addr) (H' : Hp), Same H H' → FairAt K C H' x hs gs t → Q (.ref x) H'
theorem ok_l_fair {f f_init : Addr} {fd d_init : FuncData} (F : Fun K "_law_fair" "_law_fair" s_l_fair f fd) (g_Fair : mg "Fair" = some (.ref C)) (M : Mk K C f_init)
    (G_init : FnOk P w K mg base CX0 4 f_init d_init psI (sp_init K C)) (b_init : Binds K d_init psI []) : FnOk P w K mg base CX0 6 f fd ["_law_parts_here"] (sp_l_fair K C) := by
  refine F.ok sc_l_fair (fun vs H Q E h => ?_) (fun cdv A outer s H vs Q E hr h => ?_)
  · obtain ⟨v, hs, gs, t, rfl, _⟩ := h
    rfl
  · obtain ⟨v, hs, gs, t, rfl, iv, fi, k⟩ := h
    obtain ⟨pp, vh, vg, rfl, hp, ih, ig⟩ := im_parts iv
    refine ⟨_, (pss_one (ps_ret (pe_make M G_init hr rfl g_Fair b_init .nil pass0 (pa_cons (pe_ix (r := rIxT K) ix_tup (pv 0) pe_int (fun _ _ => rfl)) (pa_cons (pe_ix (r := rIxT K) ix_tup (pv 0) pe_int (fun _ _ => rfl)) (pa_cons (pe_ix (r := rIxT K) ix_tup (pv 0) pe_int (fun _ _ => rfl)) pa_nil)))))), ?_⟩
    refine ⟨_, rfl, pp, _, 0, _, rfl, rfl, hp, rfl, ?_⟩
    refine ⟨_, rfl, pp, _, 1, _, rfl, rfl, hp, rfl, ?_⟩
    refine ⟨_, rfl, pp, _, 2, _, rfl, rfl, hp, rfl, ?_⟩
    exact fun x dx hx hd hn => made ih ig fi hx hd hn fun H' s' fa => k x H' s' fa
end
end F02
namespace F02
open PySem PySem.Spec PyProof.Rows L2 MG SP
section
variable {P : Program} {w : World} {K : PySem.W.Frag} {mg : Str → Option Value} {base : Heap}
abbrev s_l_page : Stmt := top 31
theorem sc_l_page : FnScope ["_law_parts_here", "_law_rows", "_law_word_here", "_law_bound"] ["_law_parts_here"] (defScope s_l_page) := ⟨rfl, rfl, rfl, by decide +kernel, rfl, by decide +kernel, by decide +kernel⟩
def sp_l_page (K : PySem.W.Frag) : Sp := fun vs H Q _ => ∃ (v : V) (hs gs : Side) (t : Option Int), vs = [v] ∧ Im K H v (partsD hs gs t) ∧ Short hs gs t ∧ ∀ H', Same H H' → Q (.str (textT hs gs t)) H'
abbrev RS : R2 := fun x y H Q => ∃ i j, x = .str i ∧ y = .str j ∧ i.length + j.length ≤ sizeLine ∧ Q (.str (i ++ j)) H
abbrev RI : List V → Hp → VK → Prop := fun xs H Q => ∃ i, xs = [.int i] ∧ i.natAbs.log2 < 1920 ∧ Q (.str (toString i)) H
abbrev rowE (kind : Str) (i j : Nat) : TE := tOp RS (tOp RS (tOp RS (tC (.str kind)) (tVar i)) (tC (.str " "))) (tCB RI (tCons (tVar j) tNil))
theorem ok_l_page {f : Addr} {fd : FuncData} (F : Fun K "_law_page" "_law_page" s_l_page f fd) (n_str : mg "str" = none) : FnOk P w K mg base CX0 1 f fd ["_law_parts_here"] (sp_l_page K) := by
  refine F.ok sc_l_page (fun vs H Q E h => ?_) (fun cdv A outer s H vs Q E hr h => ?_)
  · obtain ⟨v, hs, gs, t, rfl, _⟩ := h
    rfl
  · obtain ⟨v, hs, gs, t, rfl, ip, S, k⟩ := h
    obtain ⟨pa, vh, vg, rfl, hp, ih, ig⟩ := im_parts ip
    obtain ⟨a, xs, rfl, ha, hx⟩ := im_side ih
    obtain ⟨b, ys, rfl, hb, hy⟩ := im_side ig
    refine ⟨_, (pss_cons (ps_setLc (i := 1) (own := [("_law_word_here", 2), ("_law_bound", 3)]) (g := gTup K 2 (gCons (gName 2) (gCons (gName 3) gNil))) (tt := tYes) rfl sc_l_page.nd rfl rfl (sw_true rfl rfl rfl (by decide +kernel)) (pi_tup (pe_ix (r := rIxT K) ix_tup (pv 0) pe_int (fun _ _ => rfl))) (blkOk_by (own := [("_law_word_here", 2), ("_law_bound", 3)]) (N := ["_law_parts_here", "_law_rows", "_law_word_here", "_law_bound"]) (sc := defScope s_l_page) (by decide +kernel)) (fun _ _ _ _ _ => (pg_tup rfl (pgs_cons (pg_name (i := 2) sc_l_page.nd rfl (Or.inl rfl)) (pgs_cons (pg_name (i := 3) sc_l_page.nd rfl (Or.inl rfl)) pgs_nil)))) (fun _ _ _ _ _ => pts_nil) (fun _ _ _ _ _ => (pe_op op_add_str (pe_op op_add_str (pe_op op_add_str pe_str (pv 2)) pe_str) (pe_callTy call_str_int (by rfl) n_str (by decide +kernel) (pa_cons (pv 3) pa_nil)))))
      (pss_cons (ps_set (i := 1) sc_l_page.nd rfl (Or.inl rfl) (pe_op op_cat (pv 1) (pe_lc (own := [("_law_word_here", 2), ("_law_bound", 3)]) (g := gTup K 2 (gCons (gName 2) (gCons (gName 3) gNil))) (tt := tYes) rfl sc_l_page.nd (pi_tup (pe_ix (r := rIxT K) ix_tup (pv 0) pe_int (fun _ _ => rfl))) (blkOk_by (own := [("_law_word_here", 2), ("_law_bound", 3)]) (N := ["_law_parts_here", "_law_rows", "_law_word_here", "_law_bound"]) (sc := defScope s_l_page) (by decide +kernel)) (fun _ _ _ _ _ => (pg_tup rfl (pgs_cons (pg_name (i := 2) sc_l_page.nd rfl (Or.inl rfl)) (pgs_cons (pg_name (i := 3) sc_l_page.nd rfl (Or.inl rfl)) pgs_nil)))) (fun _ _ _ _ _ => pts_nil) (fun _ _ _ _ _ => (pe_op op_add_str (pe_op op_add_str (pe_op op_add_str pe_str (pv 2)) pe_str) (pe_callTy call_str_int (by rfl) n_str (by decide +kernel) (pa_cons (pv 3) pa_nil)))))))
      (pss_one (ps_ret (pe_join pe_str (pe_op op_cat (pv 1) (pe_ifExp (pt_cmpR op_isN (pe_ix (r := rIxT K) ix_tup (pv 0) pe_int (fun _ _ => rfl)) pe_non (nomark _)) (pe_lst pa_nil) (pe_lst (pa_cons (pe_op op_add_str pe_str (pe_callTy call_str_int (by rfl) n_str (by decide +kernel) (pa_cons (pe_ix (r := rIxT K) ix_tup (pv 0) pe_int (fun _ _ => rfl)) pa_nil))) pa_nil))))))))), ?_⟩
    have row_ok : ∀ (kind : Str) (z : Str × Int), kind.length ≤ 6 → z.1.length ≤ 8 → 1 ≤ z.2 → z.2 ≤ 4 →
        z.2.natAbs.log2 < 1920 ∧ kind.length + z.1.length ≤ sizeLine ∧ (kind ++ z.1).length + (" " : Str).length ≤ sizeLine ∧ (kind ++ z.1 ++ " ").length + (num z.2).length ≤ sizeLine := by
      intro kind z k1 k2 k3 k4
      have n2 := num_len (i := z.2) (by omega) (by omega)
      have e1 : ((" " : Str)).length = 1 := by decide +kernel
      have big : ∀ n, n ≤ 100 → n ≤ sizeLine := fun n h => Nat.le_trans h (by decide)
      refine ⟨int_small (by omega) (by omega), ?_, ?_, ?_⟩
      all_goals (apply big; (try simp only [app_len]); omega)
    refine ⟨_, rfl, pa, _, 0, _, rfl, rfl, hp, rfl, a, rfl, ⟨_, ha⟩, fun D nD => ?_⟩
    refine lc_pairs (K := K) (te := rowE "host " 2 3) (i := 2) (j := 3) (rowT "host ") nD ha hx (Nat.le_trans S.h4 (by decide)) ?hw (fun z hz G Q' sG q' => ?_) (fun G g1 g2 => ?_)
    case hw => intros; rfl
    · have hz' := List.mem_append_left gs hz
      obtain ⟨r1, r2, r3, r4⟩ := row_ok "host " z (by decide +kernel) (S.ln z hz') (S.bd z hz').1 (S.bd z hz').2
      exact ⟨_, rfl, _, _, rfl, rfl, r2, _, _, rfl, rfl, r3, _, rfl, _, rfl, r1, _, _, rfl, rfl, r4, q'⟩
    · have hb2 := (Tk.same g2).sq hb
      have hy2 := hy.to (Tk.same g2) _ _
      have hp2 := (Tk.same g2).sq hp
      refine nxt ?_
      dsimp only
      refine ⟨_, rfl, _, rfl, pa, _, 1, _, rfl, rfl, hp2, rfl, b, rfl, ⟨_, hb2⟩, fun D2 nD2 => ?_⟩
      refine lc_pairs (K := K) (te := rowE "guest " 2 3) (i := 2) (j := 3) (rowT "guest ") nD2 hb2 hy2 (Nat.le_trans S.g4 (by decide)) ?hw (fun z hz G' Q' sG q' => ?_) (fun G' g3 g4 => ?_)
      case hw => intros; rfl
      · have hz' := List.mem_append_right hs hz
        obtain ⟨r1, r2, r3, r4⟩ := row_ok "guest " z (by decide +kernel) (S.ln z hz') (S.bd z hz').1 (S.bd z hz').2
        exact ⟨_, rfl, _, _, rfl, rfl, r2, _, _, rfl, rfl, r3, _, rfl, _, rfl, r1, _, _, rfl, rfl, r4, q'⟩
      · have gD := g4 _ _ g1
        have sh := S.rows.1
        have big : ∀ n, n ≤ 100 → n ≤ sizeLine := fun n h => Nat.le_trans h (by decide)
        have hp3 := (Tk.same g4).sq hp2
        have l1 : (hs.map (rowT "host ")).length + (gs.map (rowT "guest ")).length ≤ 100 := by
          rw [List.length_map, List.length_map]
          have := S.h4; have := S.g4
          omega
        refine ⟨D, D2, _, _, rfl, rfl, gD, g3, ?_, fun p3 n3 => ?_⟩
        · rw [List.length_map, List.length_map (f := V.str)]
          exact big _ l1
        · rw [← List.map_append]
          have s3 : Same H (upd G' p3 (.lst ((hs.map (rowT "host ") ++ gs.map (rowT "guest ")).map V.str))) := (g2.trans g4).trans (same_new (Same.refl G') n3)
          refine nxt ?_
          dsimp only
          have hpp := (Tk.same s3).sq hp
          have jn := S.joins
          generalize hH3 : upd G' p3 (.lst ((hs.map (rowT "host ") ++ gs.map (rowT "guest ")).map V.str)) = H3 at s3 hpp ⊢
          have h3 : H3 p3 = some (.lst ((hs.map (rowT "host ") ++ gs.map (rowT "guest ")).map V.str)) := by rw [← hH3]; exact upd_same
          refine ⟨⟨_, rfl⟩, _, rfl, _, rfl, pa, _, 2, _, rfl, rfl, hpp, rfl, rfl, _, rfl, ?_⟩
          cases t with
          | none =>
            have er : rowsT hs gs none = (hs.map (rowT "host ") ++ gs.map (rowT "guest ")) ++ [] := by
              unfold rowsT deskT
              rw [List.append_nil]
            refine if_true_of (by simp [deskV]) ?_
            refine ⟨(by show 0 ≤ sizeLine; decide), fun p4 n4 => ⟨p3, p4, _, _, rfl, rfl, (same_new (Same.refl H3) n4) _ _ h3, upd_same, ?_, fun p5 n5 => ?_⟩⟩
            · rw [List.length_map, List.length_append]
              exact big _ l1
            · refine ⟨"\n", p5, rowsT hs gs none, rfl, rfl, .inl (SqL.of ?_), jn, k _ (s3.trans ((same_new (Same.refl H3) n4).trans (same_new (Same.refl _) n5)))⟩
              rw [upd_same, er]
              simp only [List.map_append, List.map_nil]
          | some n =>
            obtain ⟨n1, n2⟩ := S.tb n rfl
            have nl := num_len (i := n) (by omega) (by omega)
            have e7 : ("tables " : Str).length = 7 := by decide +kernel
            refine if_false_of (by simp [deskV]) ?_
            refine ⟨_, rfl, pa, _, 2, _, rfl, rfl, hpp, rfl, n, rfl, int_small (by omega) (by omega), _, _, rfl, rfl, ?_, (by show 1 ≤ sizeLine; decide), fun p4 n4 => ⟨p3, p4, _, _, rfl, rfl, (same_new (Same.refl H3) n4) _ _ h3, upd_same, ?_, fun p5 n5 => ?_⟩⟩
            · exact Nat.le_trans (show _ ≤ 100 by show ("tables " : Str).length + (num n).length ≤ 100; omega) (by decide)
            · rw [List.length_map, List.length_append]
              exact Nat.le_trans (Nat.add_le_add_right l1 1) (by decide)
            · refine ⟨"\n", p5, rowsT hs gs (some n), rfl, rfl, .inl (SqL.of ?_), jn, k _ (s3.trans ((same_new (Same.refl H3) n4).trans (same_new (Same.refl _) n5)))⟩
              rw [upd_same]
              unfold rowsT deskT
              simp only [List.map_append, List.map_cons, List.map_nil]
              rfl
end
end F02
namespace F02
open PySem PySem.Spec PyProof.Rows L2 MG
/-! ### what is shown stays short -/
def CO (x : Str) : Prop := ∀ c ∈ x.cps.toList, c < 16 ^ 8
theorem CO.app {x y : Str} (h : CO x) (g : CO y) : CO (x ++ y) := fun c hc => by
  rw [app_cps] at hc
  rcases List.mem_append.mp hc with h' | h'
  · exact h c h'
  · exact g c h'
theorem CO.dec {x : Str} (h : x.cps.toList.all (fun c => decide (c < 16 ^ 8)) = true) : CO x := fun c hc => by
  simpa using List.all_eq_true.mp h c hc
theorem CO.join {sep : Str} (hs : CO sep) : ∀ ys : List Str, (∀ y ∈ ys, CO y) → CO (Str.join sep ys)
  | [], _ => fun c hc => by cases hc
  | [x], h => h x (List.mem_singleton.mpr rfl)
  | x :: y :: r, h => by
    show CO (x ++ sep ++ Str.join sep (y :: r))
    exact ((h x (List.mem_cons_self ..)).app hs).app (CO.join hs (y :: r) fun z hz => h z (List.mem_cons_of_mem _ hz))
theorem CO.num {i : Int} (h0 : 0 ≤ i) (h : i < 100) : CO (num i) := by
  have q : ∀ j : _root_.Fin 100, (F02.num (j.val : Int)).cps.toList.all (fun c => decide (c < 16 ^ 8)) = true := by decide +kernel
  have := q ⟨i.toNat, by omega⟩
  rw [show ((⟨i.toNat, by omega⟩ : _root_.Fin 100).val : Int) = i by show ((i.toNat : Nat) : Int) = i; omega] at this
  exact CO.dec this
theorem CO.nm {x : Str} (h : Nm x) : CO x := fun c hc => by
  unfold Nm at h
  cases e : x.cps.toList with
  | nil => rw [e] at hc; cases hc
  | cons a r =>
    rw [e] at h hc
    have h' : (lowB a && decide (r.length ≤ 7) && r.all signB) = true := h
    simp only [Bool.and_eq_true, decide_eq_true_eq] at h'
    obtain ⟨⟨h1, _⟩, h3⟩ := h'
    have b : ∀ z, signB z = true → z < 16 ^ 8 := fun z hz => by
      unfold signB lowB at hz
      simp only [Bool.or_eq_true, decide_eq_true_eq] at hz
      omega
    rcases List.mem_cons.mp hc with rfl | hc
    · exact b _ (by unfold signB; rw [h1]; rfl)
    · exact b _ (List.all_eq_true.mp h3 c hc)
structure Sh (d : PyData) (e b : Nat) : Prop where
  s : d.showable = true
  n : d.hasDict = false
  l : d.leavesShort 13 = true
  dp : d.depth ≤ e
  bk : d.bulk ≤ b
structure ShA (d : List PyData) (e b : Nat) : Prop where
  s : PyData.showableAll d = true
  n : PyData.hasDictAll d = false
  l : PyData.leavesShortAll 13 d = true
  dp : PyData.depthAll d ≤ e
  bk : PyData.bulkAll d ≤ b
theorem Sh.non : Sh .none 0 0 := ⟨rfl, rfl, rfl, Nat.le_refl _, Nat.le_refl _⟩
theorem Sh.bl (b : Bool) : Sh (.bool b) 0 0 := ⟨rfl, rfl, rfl, Nat.le_refl _, Nat.le_refl _⟩
theorem Sh.int {i : Int} (h : i.natAbs < 10 ^ 12) : Sh (.int i) 0 0 := ⟨by
  have : i.natAbs < 2 ^ 1920 := Nat.lt_of_lt_of_le h (by decide +kernel)
  simp only [PyData.showable]
  apply decide_eq_true
  by_cases e : i.natAbs = 0
  · rw [e]; decide +kernel
  · exact (Nat.log2_lt e).mpr this, rfl, by simp only [PyData.leavesShort]; exact decide_eq_true (PyData.shown_int_le h), Nat.le_refl _, Nat.le_refl _⟩
theorem Sh.str {x : Str} (h : CO x) : Sh (.str x) 0 x.length := ⟨rfl, rfl, by
  simp only [PyData.leavesShort]
  exact List.all_eq_true.mpr fun c hc => decide_eq_true (h c hc), Nat.le_refl _, Nat.le_refl _⟩
theorem Sh.mono {d : PyData} {e b e' b' : Nat} (h : Sh d e b) (h1 : e ≤ e') (h2 : b ≤ b') : Sh d e' b' := ⟨h.s, h.n, h.l, Nat.le_trans h.dp h1, Nat.le_trans h.bk h2⟩
theorem ShA.nil {e b : Nat} : ShA [] e b := ⟨rfl, rfl, rfl, Nat.zero_le _, Nat.zero_le _⟩
theorem ShA.cons {d : PyData} {ds : List PyData} {e b c : Nat} (h : Sh d e b) (g : ShA ds e c) : ShA (d :: ds) e (b + 1 + c) := ⟨by
  simp only [PyData.showableAll, h.s, g.s, Bool.and_self], by simp only [PyData.hasDictAll, h.n, g.n, Bool.or_self], by simp only [PyData.leavesShortAll, h.l, g.l, Bool.and_self], by
  simp only [PyData.depthAll]; exact Nat.max_le.mpr ⟨h.dp, g.dp⟩, by
  simp only [PyData.bulkAll]; have := h.bk; have := g.bk; omega⟩
theorem ShA.tup {ds : List PyData} {e b : Nat} (g : ShA ds e b) : Sh (.tuple ds) (e + 1) b := ⟨by simp only [PyData.showable, g.s], by simp only [PyData.hasDict, g.n], by simp only [PyData.leavesShort, g.l], by simp only [PyData.depth]; exact Nat.succ_le_succ g.dp, by simp only [PyData.bulk]; exact g.bk⟩
theorem ShA.lst {ds : List PyData} {e b : Nat} (g : ShA ds e b) : Sh (.list ds) (e + 1) b := ⟨by simp only [PyData.showable, g.s], by simp only [PyData.hasDict, g.n], by simp only [PyData.leavesShort, g.l], by simp only [PyData.depth]; exact Nat.succ_le_succ g.dp, by simp only [PyData.bulk]; exact g.bk⟩
theorem ShA.map {α : Type} {f : α → PyData} {e b : Nat} : ∀ l : List α, (∀ x ∈ l, Sh (f x) e b) → ShA (l.map f) e (l.length * (b + 1))
  | [], _ => ShA.nil
  | x :: l, h => by
    have := ShA.cons (h x (List.mem_cons_self ..)) (ShA.map l fun y hy => h y (List.mem_cons_of_mem _ hy))
    rw [List.length_cons, Nat.add_mul, Nat.one_mul, Nat.add_comm]
    exact this
theorem Sh.fits {d : PyData} {e b : Nat} (h : Sh d e b) (he : e ≤ 60) (hb : b ≤ 100000) : d.showable = true ∧ d.hasDict = false ∧ d.depth ≤ 60 ∧ d.shown.length ≤ 16777216 := by
  refine ⟨h.s, h.n, Nat.le_trans h.dp he, ?_⟩
  have := PyData.shown_le_bulk 13 (by decide) d h.l
  have := h.bk
  omega
theorem sh_side {l : Side} (hl : l.length ≤ 4) (nm : ∀ z ∈ l, Nm z.1) (bd : ∀ z ∈ l, 1 ≤ z.2 ∧ z.2 ≤ 4) : Sh (sideD l) 2 44 := by
  have : ∀ z ∈ l, Sh (pD z) 1 10 := fun z hz => (ShA.cons (e := 0) (Sh.str (CO.nm (nm z hz))) (ShA.cons (Sh.int (by have := bd z hz; omega)) (ShA.nil (b := 0)))).tup.mono (Nat.le_refl _) (by have := (nm z hz).len.2; omega)
  exact (ShA.map l this).tup.mono (Nat.le_refl _) (by omega)
theorem sh_desk {t : Option Int} (h : ∀ k, t = some k → 1 ≤ k ∧ k ≤ 12) : Sh (deskD t) 0 0 := by
  cases t with
  | none => exact Sh.non
  | some k => exact Sh.int (by have := h k rfl; omega)
theorem text_co {hs gs : Side} {t : Option Int} (f : Fairish hs gs t) : CO (textT hs gs t) := by
  unfold textT
  rw [show Txt.join ("\n" : Str) (rowsT hs gs t) = Str.join ("\n" : Str) (rowsT hs gs t) from PySem.StrLaws.glued_eq_join _ _]
  refine CO.join (CO.dec (by decide +kernel)) _ fun y hy => ?_
  have row : ∀ (kind : Str) (z : Str × Int), CO kind → Nm z.1 → 1 ≤ z.2 → z.2 ≤ 4 → CO (rowT kind z) := fun kind z h1 h2 h3 h4 => by
    unfold rowT
    exact ((h1.app (CO.nm h2)).app (CO.dec (by decide +kernel))).app (CO.num (by omega) (by omega))
  unfold rowsT at hy
  rcases List.mem_append.mp hy with hy | hy
  · rcases List.mem_append.mp hy with hy | hy
    · obtain ⟨z, hz, rfl⟩ := List.mem_map.mp hy
      have hz' := List.mem_append_left gs hz
      exact row _ z (CO.dec (by decide +kernel)) (f.nm z hz') (f.bd z hz').1 (f.bd z hz').2
    · obtain ⟨z, hz, rfl⟩ := List.mem_map.mp hy
      have hz' := List.mem_append_right hs hz
      exact row _ z (CO.dec (by decide +kernel)) (f.nm z hz') (f.bd z hz').1 (f.bd z hz').2
  · cases t with
    | none => cases hy
    | some k =>
      have e : y = "tables " ++ num k := List.mem_singleton.mp hy
      have := f.tb k rfl
      rw [e]
      exact (CO.dec (by decide +kernel)).app (CO.num (by omega) (by omega))
theorem text_len {hs gs : Side} {t : Option Int} (f : Fairish hs gs t) : (textT hs gs t).length ≤ 200 := by
  obtain ⟨h1, h2⟩ := f.short.rows
  have := sum_le _ h2
  have e : ("\n" : Str).length = 1 := by decide +kernel
  unfold textT
  show (PySem.Builtin.Str.glued _ _).length ≤ 200
  rw [size_glued, e]
  omega
theorem sh_namesL {hs gs : Side} {t : Option Int} (f : Fairish hs gs t) : ShA ((hs ++ gs).map fun z => PyData.str z.1) 0 72 := by
  have : ∀ z ∈ hs ++ gs, Sh (.str z.1) 0 8 := fun z hz => (Sh.str (CO.nm (f.nm z hz))).mono (Nat.le_refl _) (f.nm z hz).len.2
  have l : (hs ++ gs).length ≤ 8 := by rw [List.length_append]; have := f.h4; have := f.g4; omega
  have m := ShA.map _ this
  exact ⟨m.s, m.n, m.l, m.dp, Nat.le_trans m.bk (by omega)⟩
end F02
namespace F02
open PySem PySem.Spec PyProof.Rows L2 MG SP
section
variable {P : Program} {w : World} {K : PySem.W.Frag} {mg : Str → Option Value} {base : Heap} {C : Addr}
/-- what the top has of the class's properties and special methods -/
structure TxD (K : PySem.W.Frag) (mg : Str → Option Value) (C p_hosts p_guests p_tables p_names f_hosts f_guests f_tables f_names f_len f_str f_has f_eq : Addr) : Prop where
  p_hosts : PropOf K C "hosts" p_hosts f_hosts
  p_guests : PropOf K C "guests" p_guests f_guests
  p_tables : PropOf K C "tables" p_tables f_tables
  p_names : PropOf K C "names" p_names f_names
  i_len : PySem.W.findIn K (.ref C) "__len__" = some (some (.ref f_len))
  o_len : PySem.W.isFn K (.ref f_len) = true
  i_str : PySem.W.findIn K (.ref C) "__str__" = some (some (.ref f_str))
  o_str : PySem.W.isFn K (.ref f_str) = true
  i_has : PySem.W.findIn K (.ref C) "__contains__" = some (some (.ref f_has))
  o_has : PySem.W.isFn K (.ref f_has) = true
  i_eq : PySem.W.findIn K (.ref C) "__eq__" = some (some (.ref f_eq))
  o_eq : PySem.W.isFn K (.ref f_eq) = true
  n_tuple : mg "tuple" = none
  n_bool : mg "bool" = none
  n_repr : mg "repr" = none
/-- the program's own, of the class -/
structure GD (P : Program) (w : World) (K : PySem.W.Frag) (mg : Str → Option Value) (base : Heap) (C f_hosts f_guests f_tables f_names f_len f_str f_has f_eq : Addr) (d_hosts d_guests d_tables d_names d_len d_str d_has d_eq : FuncData) : Prop where
  hosts : FnOk P w K mg base CX0 1 f_hosts d_hosts ["self"] (getSp C "_hosts")
  guests : FnOk P w K mg base CX0 1 f_guests d_guests ["self"] (getSp C "_guests")
  tables : FnOk P w K mg base CX0 1 f_tables d_tables ["self"] (getSp C "_tables")
  names : FnOk P w K mg base CX0 1 f_names d_names ["self"] (getSp C "_names")
  len : FnOk P w K mg base CX0 1 f_len d_len ["self"] (sp_len K C)
  str : FnOk P w K mg base CX0 1 f_str d_str ["self"] (sp_str K C)
  has : FnOk P w K mg base CX0 1 f_has d_has ["self", "value"] (sp_has K C)
  eq : FnOk P w K mg base CX0 1 f_eq d_eq ["self", "other"] (sp_eq K C)
  b_hosts : Binds K d_hosts ["self"] []
  b_guests : Binds K d_guests ["self"] []
  b_tables : Binds K d_tables ["self"] []
  b_names : Binds K d_names ["self"] []
  b_len : Binds K d_len ["self"] []
  b_str : Binds K d_str ["self"] []
  b_has : Binds K d_has ["self", "value"] []
  b_eq : Binds K d_eq ["self", "other"] []
/-! ### _law_is_made -/
abbrev s_l_is_made : Stmt := top 32
theorem sc_l_is_made : FnScope ["_law_here", "_law_parts_here", "_law_words_here", "_law_told", "_law_pair"] ["_law_here", "_law_parts_here"] (defScope s_l_is_made) := ⟨rfl, rfl, rfl, by decide +kernel, rfl, by decide +kernel, by decide +kernel⟩
def sp_l_is_made (K : PySem.W.Frag) (C : Addr) : Sp := fun vs H Q _ => ∃ (p : Addr) (v : V) (hs gs : Side) (t : Option Int), vs = [.ref p, v] ∧ FairAt K C H p hs gs t ∧ Im K H v (partsD hs gs t) ∧ Fairish hs gs t ∧ ∀ H', Same H H' → Q (.bl true) H'
/-- a comprehension over pairs of a name and a bound that takes the names -/
theorem lc_names {a : Addr} {xs : List V} {l : Side} {te : TE} {i : Nat} {vs : List Nat} {σ : L2.St} {H1 : Hp} {D : Addr} {Qd : Hp → Prop}
    (nD : H1 D = none) (ha : SqT K H1 a xs) (hx : ImAll K H1 xs (l.map pD)) (hl : l.length ≤ 64)
    (hw : ∀ u, wipe ((wipe σ vs).set i u) vs = wipe σ vs)
    (hte : ∀ z ∈ l, ∀ (b : Addr) (G : Hp) (Q' : VK), SqT K G b [.str z.1, .int z.2] → Q' (.str z.1) G → te ((wipe σ vs).set i (some (.ref b))) G Q')
    (hd : ∀ G, G D = some (.lst (l.map fun z => V.str z.1)) → Same H1 G → Qd G) :
    ∃ W : Nat → Nat → Hp → Prop, (∃ m, W 0 m (upd H1 D (.lst []))) ∧ ∀ n m H, W n m H →
      ((Itt K a).stop n H ∧ Qd H) ∨ ((Itt K a).go n H ∧ ∃ Nx : Hp → Prop, (∀ H', Nx H' → ∃ m', m' < m ∧ W (n + 1) m' H') ∧ ∀ x H', (Itt K a).yld n H x H' → gName i x (wipe σ vs) H' fun σ2 H2 => wipe σ2 vs = wipe σ vs ∧ tYes σ2 H2 fun b H3 =>
        if b = true then te σ2 H3 fun y H4 => ∃ acc, H4 D = some (.lst acc) ∧ acc.length < sizeLine ∧ Nx (upd H4 D (.lst (acc ++ [y]))) else Nx H3) := by
  have lx : xs.length = l.length := by rw [hx.length, List.length_map]
  refine lc_tup (K := K) (a := a) (xs := xs) (fun n G => G D = some (.lst ((l.take n).map fun z => V.str z.1)) ∧ Same H1 G) ⟨upd_same, same_new (Same.refl H1) nD⟩ (fun n G _ z => (Tk.same z.2).sq ha) ?_ ?_
  · rintro n y G hy ⟨z1, z2⟩
    obtain ⟨d, hd', im⟩ := hx.get hy
    obtain ⟨z, hz, rfl⟩ : ∃ z, l[n]? = some z ∧ d = pD z := by
      rw [List.getElem?_map] at hd'
      cases e : l[n]? with
      | none => rw [e] at hd'; cases hd'
      | some u => rw [e] at hd'; exact ⟨u, rfl, (Option.some.inj hd').symm⟩
    obtain ⟨b, rfl, hb⟩ := im_pair im
    have hn : n < l.length := (List.getElem?_eq_some_iff.mp hz).1
    refine ⟨hw _, ?_⟩
    refine tyes ?_
    refine iteT ?_
    refine hte z (List.mem_of_getElem? hz) b G _ ((Tk.same z2).sq hb) ⟨_, z1, ?_, ?_, ?_⟩
    · rw [List.length_map, List.length_take]
      exact Nat.lt_of_lt_of_le (show _ < 100 by omega) (by decide)
    · show (upd G D _) D = _
      rw [upd_same, List.take_add_one, hz, List.map_append] <;> rfl
    · intro c o hc
      rw [upd_ne (ne_of_none hc nD)]
      exact z2 c o hc
  · rintro G ⟨z1, z2⟩
    rw [lx, List.take_length] at z1
    exact hd G z1 z2
theorem Fairish.l8 {hs gs : Side} {t : Option Int} (f : Fairish hs gs t) : (hs ++ gs).length ≤ 8 := by
  rw [List.length_append]; have := f.h4; have := f.g4; omega
def toldD (hs gs : Side) (t : Option Int) : PyData := .list [sideD hs, sideD gs, deskD t, .tuple ((hs ++ gs).map fun z => .str z.1), .int (((hs ++ gs).length : Nat) : Int), .bool true, .str (textT hs gs t)]
theorem told_fits {hs gs : Side} {t : Option Int} (f : Fairish hs gs t) : (toldD hs gs t).showable = true ∧ (toldD hs gs t).hasDict = false ∧ (toldD hs gs t).depth ≤ 60 ∧ (toldD hs gs t).shown.length ≤ 16777216 := by
  have l8 := f.l8
  have a1 := (sh_side f.h4 (fun z hz => f.nm z (List.mem_append_left _ hz)) (fun z hz => f.bd z (List.mem_append_left _ hz))).mono (show 2 ≤ 9 by decide) (show 44 ≤ 300 by decide)
  have a2 := (sh_side f.g4 (fun z hz => f.nm z (List.mem_append_right _ hz)) (fun z hz => f.bd z (List.mem_append_right _ hz))).mono (show 2 ≤ 9 by decide) (show 44 ≤ 300 by decide)
  have a3 := (sh_desk f.tb).mono (show 0 ≤ 9 by decide) (show 0 ≤ 300 by decide)
  have a4 := (sh_namesL f).tup.mono (show 1 ≤ 9 by decide) (show 72 ≤ 300 by decide)
  have a5 := (Sh.int (i := (((hs ++ gs).length : Nat) : Int)) (by omega)).mono (show 0 ≤ 9 by decide) (show 0 ≤ 300 by decide)
  have a6 := (Sh.bl true).mono (show 0 ≤ 9 by decide) (show 0 ≤ 300 by decide)
  have a7 := (Sh.str (text_co f)).mono (show 0 ≤ 9 by decide) (Nat.le_trans (text_len f) (show 200 ≤ 300 by decide))
  exact (ShA.cons a1 (ShA.cons a2 (ShA.cons a3 (ShA.cons a4 (ShA.cons a5 (ShA.cons a6 (ShA.cons a7 (ShA.nil (b := 0))))))))).lst.fits (by decide) (by decide)
theorem im_names {H : Hp} : ∀ l : Side, ImAll K H (l.map fun z => V.str z.1) (l.map fun z => PyData.str z.1)
  | [] => .nil
  | z :: l => .cons (.str z.1) (im_names l)
variable {p_hosts p_guests p_tables p_names f_hosts f_guests f_tables f_names f_len f_str f_has f_eq : Addr} {d_hosts d_guests d_tables d_names d_len d_str d_has d_eq : FuncData}
theorem ok_l_is_made {f f_l_page : Addr} {fd fd_l_page : FuncData} (F : Fun K "_law_is_made" "_law_is_made" s_l_is_made f fd) (T : TxC K mg C)
    (D : TxD K mg C p_hosts p_guests p_tables p_names f_hosts f_guests f_tables f_names f_len f_str f_has f_eq) (G : GD P w K mg base C f_hosts f_guests f_tables f_names f_len f_str f_has f_eq d_hosts d_guests d_tables d_names d_len d_str d_has d_eq)
    (g_l_page : mg "_law_page" = some (.ref f_l_page)) (k_l_page : PySem.W.keepIn K (.ref f_l_page) = true) (G_l_page1 : FnOk P w K mg base CX0 1 f_l_page fd_l_page ["_law_parts_here"] (sp_l_page K)) (b_l_page : Binds K fd_l_page ["_law_parts_here"] []) :
    FnG P w K mg base CX0 5 f fd ["_law_here", "_law_parts_here"] (sp_l_is_made K C) := by
  have G_hosts := G.hosts.mono (show 1 ≤ 3 by decide)
  have G_guests := G.guests.mono (show 1 ≤ 3 by decide)
  have G_tables := G.tables.mono (show 1 ≤ 3 by decide)
  have G_names := G.names.mono (show 1 ≤ 3 by decide)
  have G_len := G.len.mono (show 1 ≤ 3 by decide)
  have G_str := G.str.mono (show 1 ≤ 2 by decide)
  have G_l_page := G_l_page1.mono (show 1 ≤ 4 by decide)
  refine okG F sc_l_is_made (fun vs H Q E h => ?_) (fun cdv A outer s H vs Q E hgd hr h => ?_)
  · obtain ⟨p, v, hs, gs, t, rfl, _⟩ := h
    rfl
  · obtain ⟨p, v, hs, gs, t, rfl, fa, iv, fi, k⟩ := h
    refine ⟨_, (pss_cons (ps_set (i := 2) sc_l_is_made.nd rfl (Or.inl rfl) (pe_callTy call_tuple_of (by rfl) D.n_tuple (by decide +kernel) (pa_cons (pe_lc (own := [("_law_pair", 4)]) (g := gName 4) (tt := tYes) rfl sc_l_is_made.nd (pi_tup (pe_op op_catT (pe_ix (r := rIxT K) ix_tup (pv 1) pe_int (fun _ _ => rfl)) (pe_ix (r := rIxT K) ix_tup (pv 1) pe_int (fun _ _ => rfl)))) (blkOk_by (own := [("_law_pair", 4)]) (N := ["_law_here", "_law_parts_here", "_law_words_here", "_law_told", "_law_pair"]) (sc := defScope s_l_is_made) (by decide +kernel)) (fun _ _ _ _ _ => (pg_name (i := 4) sc_l_is_made.nd rfl (Or.inl rfl))) (fun _ _ _ _ _ => pts_nil) (fun _ _ _ _ _ => (pe_ix (r := rIxT K) ix_tup (pv 4) pe_int (fun _ _ => rfl)))) pa_nil)))
      (pss_cons (ps_set (i := 3) sc_l_is_made.nd rfl (Or.inl rfl) (pe_lst (pa_cons (pe_prop (pv 0) T.cl D.p_hosts G_hosts hr G.b_hosts .nil pass0 rfl) (pa_cons (pe_prop (pv 0) T.cl D.p_guests G_guests hr G.b_guests .nil pass0 rfl) (pa_cons (pe_prop (pv 0) T.cl D.p_tables G_tables hr G.b_tables .nil pass0 rfl) (pa_cons (pe_prop (pv 0) T.cl D.p_names G_names hr G.b_names .nil pass0 rfl) (pa_cons (pe_callB (call_lenOwn G_len hr G.b_len pass0 D.i_len D.o_len) (by rfl) T.n_len PySem.boot_len (pa_cons (pv 0) pa_nil)) (pa_cons (pe_callTy (call_boolOwn G.len hr G.b_len pass0 T.nB D.i_len D.o_len) (by rfl) D.n_bool (by decide +kernel) (pa_cons (pv 0) pa_nil)) (pa_cons (pe_callTy (call_strOwn G_str hr G.b_str pass0 D.i_str D.o_str) (by rfl) T.n_str (by decide +kernel) (pa_cons (pv 0) pa_nil)) pa_nil)))))))))
      (pss_one (ps_ret (pe_cmpR op_eq (pe_callB (call_repr hgd hr) (by rfl) D.n_repr (by decide +kernel) (pa_cons (pv 3) pa_nil)) (pe_callB (call_repr hgd hr) (by rfl) D.n_repr (by decide +kernel) (pa_cons (pe_lst (pa_cons (pe_ix (r := rIxT K) ix_tup (pv 1) pe_int (fun _ _ => rfl)) (pa_cons (pe_ix (r := rIxT K) ix_tup (pv 1) pe_int (fun _ _ => rfl)) (pa_cons (pe_ix (r := rIxT K) ix_tup (pv 1) pe_int (fun _ _ => rfl)) (pa_cons (pv 2) (pa_cons (pe_callB call_len_seq (by rfl) T.n_len PySem.boot_len (pa_cons (pv 2) pa_nil)) (pa_cons pe_bl (pa_cons (pe_call G_l_page hr rfl g_l_page k_l_page b_l_page .nil pass0 (pa_cons (pv 1) pa_nil)) pa_nil)))))))) pa_nil)) (nomark _)))))), ?_⟩
    obtain ⟨pp, vh, vg, rfl, hp, ih, ig⟩ := im_parts iv
    obtain ⟨a, xs, rfl, ha, hx⟩ := im_side ih
    obtain ⟨b, ys, rfl, hb, hy⟩ := im_side ig
    have l8 := fi.l8
    have lx : xs.length = hs.length := by rw [hx.length, List.length_map]
    have ly : ys.length = gs.length := by rw [hy.length, List.length_map]
    have nx : xs ≠ [] := fun e => by rw [e] at lx; have := fi.h1; simp at lx; omega
    have ny : ys ≠ [] := fun e => by rw [e] at ly; have := fi.g1; simp at ly; omega
    rw [List.length_append] at l8
    refine ⟨_, rfl, pp, _, 0, _, rfl, rfl, hp, rfl, _, rfl, pp, _, 1, _, rfl, rfl, hp, rfl, a, b, xs, ys, rfl, rfl, ha, hb, nx, ?_, fun e => absurd e ny, fun _ m nm => ?_⟩
    · rw [lx, ly]
      exact Nat.le_trans (show _ ≤ 100 by omega) (by decide)
    have s1 : Same H (upd H m (.tup (xs ++ ys))) := same_new (Same.refl H) nm
    have xy : ImAll K (upd H m (.tup (xs ++ ys))) (xs ++ ys) ((hs ++ gs).map pD) := by
      rw [List.map_append]
      exact (hx.append hy).to (Tk.same s1) _ _
    have hm : SqT K (upd H m (.tup (xs ++ ys))) m (xs ++ ys) := SqT.of upd_same
    generalize upd H m (.tup (xs ++ ys)) = H1 at s1 xy hm ⊢
    refine ⟨m, rfl, ⟨_, hm⟩, fun D1 nD => ?_⟩
    refine lc_names (te := tOp (rIxT K) (tVar 4) (tC (.int 0))) nD hm xy (Nat.le_trans fi.l8 (by decide)) ?hw (fun z hz c G' Q' hc q' => ?_) (fun G' g1 g2 => ?_)
    case hw => intros; rfl
    · exact ⟨_, rfl, c, _, 0, _, rfl, rfl, hc, rfl, q'⟩
    refine ⟨D1, _, rfl, .inl ⟨SqL.of g1, fun w1 nw1 => ?_⟩⟩
    have s2 : Same H (upd G' w1 (.tup ((hs ++ gs).map fun z => V.str z.1))) := (s1.trans g2).trans (same_new (Same.refl G') nw1)
    have hw1 : SqT K (upd G' w1 (.tup ((hs ++ gs).map fun z => V.str z.1))) w1 ((hs ++ gs).map fun z => V.str z.1) := SqT.of upd_same
    generalize upd G' w1 (.tup ((hs ++ gs).map fun z => V.str z.1)) = H2 at s2 hw1 ⊢
    refine nxt ?_
    dsimp only
    obtain ⟨dx, vh, vg, n, f1, f2, f3, f4⟩ := fa.same s2
    have FA : FairAt K C H2 p hs gs t := fa.same s2
    have ln : (namesV hs gs).length = (hs ++ gs).length := by
      unfold namesV
      rw [List.length_map, List.length_map]
    have lh := fi.h1
    have eb : ((((namesV hs gs).length : Nat) : Int) != 0) = true := by
      rw [ln, List.length_append]
      have : ((hs.length + gs.length : Nat) : Int) ≠ 0 := by omega
      simpa using this
    have z0 : (0 : Int) ≤ (((namesV hs gs).length : Nat) : Int) := by omega
    have z1 : (((namesV hs gs).length : Nat) : Int) < 2 ^ 63 := by
      rw [ln, List.length_append]
      omega
    refine ⟨_, rfl, p, dx, _, rfl, f1, p, dx, _, vh, rfl, f1, ff_hosts _ _ _ _ _, ?_⟩
    refine ⟨_, rfl, p, dx, _, rfl, f1, p, dx, _, vg, rfl, f1, ff_guests _ _ _ _ _, ?_⟩
    refine ⟨_, rfl, p, dx, _, rfl, f1, p, dx, _, _, rfl, f1, ff_tables _ _ _ _ _, ?_⟩
    refine ⟨_, rfl, p, dx, _, rfl, f1, p, dx, _, _, rfl, f1, ff_names _ _ _ _ _, ?_⟩
    refine ⟨_, rfl, p, dx, _, rfl, f1, p, hs, gs, t, rfl, FA, _, rfl, z0, z1, ?_⟩
    refine ⟨_, rfl, p, dx, _, rfl, f1, p, hs, gs, t, rfl, FA, _, rfl, z0, z1, ?_⟩
    refine ⟨_, rfl, p, dx, _, rfl, f1, p, hs, gs, t, rfl, FA, _, rfl, ?_⟩
    rw [eb]
    refine ⟨(by show 7 ≤ sizeLine; decide), fun q nq => ?_⟩
    have s3 := same_new (Same.refl H2) nq (o := .lst [vh, vg, deskV t, .ref n, .int (((namesV hs gs).length : Nat) : Int), .bl true, .str (textT hs gs t)])
    have hq : (upd H2 q (.lst [vh, vg, deskV t, .ref n, .int (((namesV hs gs).length : Nat) : Int), .bl true, .str (textT hs gs t)])) q = some (.lst [vh, vg, deskV t, .ref n, .int (((namesV hs gs).length : Nat) : Int), .bl true, .str (textT hs gs t)]) := upd_same
    rw [ln] at s3 hq ⊢
    generalize upd H2 q (.lst [vh, vg, deskV t, .ref n, .int (((hs ++ gs).length : Nat) : Int), .bl true, .str (textT hs gs t)]) = H3 at s3 hq ⊢
    have f4' : SqT K H2 n ((hs ++ gs).map fun z => V.str z.1) := by
      have e : namesV hs gs = (hs ++ gs).map fun z => V.str z.1 := by
        unfold namesV
        rw [List.map_map] <;> rfl
      rw [← e]
      exact f4
    obtain ⟨w1', w2', w3', w4'⟩ := told_fits fi
    have tk3 := Tk.same s3
    have tell : ∀ (G : Hp) (x y : V) (m : Addr), Im K G x (sideD hs) → Im K G y (sideD gs) → SqT K G m ((hs ++ gs).map fun z => V.str z.1) →
        DpAll K G [x, y, deskV t, .ref m, .int (((hs ++ gs).length : Nat) : Int), .bl true, .str (textT hs gs t)] [sideD hs, sideD gs, deskD t, .tuple ((hs ++ gs).map fun z => .str z.1), .int (((hs ++ gs).length : Nat) : Int), .bool true, .str (textT hs gs t)] := fun G x y m i1 i2 i3 =>
      .cons (i1.dp _ _) (.cons (i2.dp _ _) (.cons ((im_desk t).dp _ _) (.cons (.tup i3 ((im_names _).dp _ _)) (.cons (.int _) (.cons (.bl true) (.cons (.str _) .nil))))))
    have hp3 := tk3.sq ((Tk.same s2).sq hp)
    have hw3 := tk3.sq hw1
    refine nxt ?_
    dsimp only
    refine ⟨_, rfl, _, toldD hs gs t, rfl, .lst (SqL.of hq) (tell H3 vh vg n (f2.to tk3 _ _) (f3.to tk3 _ _) (tk3.sq f4')), w1', w2', w3', w4', ?_⟩
    refine ⟨_, rfl, pp, _, 0, _, rfl, rfl, hp3, rfl, ?_⟩
    refine ⟨_, rfl, pp, _, 1, _, rfl, rfl, hp3, rfl, ?_⟩
    refine ⟨_, rfl, pp, _, 2, _, rfl, rfl, hp3, rfl, ?_⟩
    refine ⟨_, rfl, _, rfl, w1, _, rfl, .inr hw3, ?_⟩
    refine ⟨_, rfl, _, hs, gs, t, rfl, (iv.to (Tk.same s2) _ _).to tk3 _ _, fi.short, fun H4 s4 => ?_⟩
    have tk4 := Tk.same s4
    rw [List.length_map]
    refine ⟨(by show 7 ≤ sizeLine; decide), fun r nr => ?_⟩
    have s5 := same_new (Same.refl H4) nr (o := .lst [.ref a, .ref b, deskV t, .ref w1, .int (((hs ++ gs).length : Nat) : Int), .bl true, .str (textT hs gs t)])
    have hr5 : (upd H4 r (.lst [.ref a, .ref b, deskV t, .ref w1, .int (((hs ++ gs).length : Nat) : Int), .bl true, .str (textT hs gs t)])) r = some (.lst [.ref a, .ref b, deskV t, .ref w1, .int (((hs ++ gs).length : Nat) : Int), .bl true, .str (textT hs gs t)]) := upd_same
    generalize upd H4 r (.lst [.ref a, .ref b, deskV t, .ref w1, .int (((hs ++ gs).length : Nat) : Int), .bl true, .str (textT hs gs t)]) = H5 at s5 hr5 ⊢
    have tk5 := (tk3.trans tk4).trans (Tk.same s5)
    have tk6 := (Tk.same s2).trans tk5
    refine ⟨_, toldD hs gs t, rfl, .lst (SqL.of hr5) (tell H5 (.ref a) (.ref b) w1 (ih.to tk6 _ _) (ig.to tk6 _ _) (tk5.sq hw1)), w1', w2', w3', w4', ?_⟩
    refine ⟨rfl, ?_⟩
    rw [decide_eq_true rfl]
    exact k _ ((s2.trans s3).trans (s4.trans s5))
end
end F02
namespace DC
open PySem PySem.Spec PyProof.Rows L2
section
variable {X : Cx} {i : Nat} {y : Str} {py : Pos} {kx vx tg iter : Expr} {ifs : List Expr}
variable {scope : Scope} {own : List (Str × Nat)} {pos spos : Pos} {wi : TI} {g : TG}
variable {tt : TT} {tk tv : TE}
theorem sw_dict {gs : List Comprehension} {l : Nat} {env : Env} (hk : env.scope.kind = .function)
    (hy : env.scope.names.lookup y = some .local) (hl : (py.line == pos.line) = true)
    (ha : (scope.names.any fun (n, k) => n == y && (k == .local || k == .cell)) = false) :
    swapsWith (.DictComp kx vx gs scope pos) (some (.Name y py)) l env = pure true := by
  have k1 : env.kindOf y = some .local := hy
  have k2 : env.blockKind = .function := by
    unfold Env.blockKind
    rw [hk] <;> rfl
  unfold swapsWith
  simp only [k2, k1, ha, Expr.pos, hl] <;> rfl
/-- y = {k: v for tg in iter if ..}, y a local -/
theorem ps_setDc (hc : X.calm = true) (hN : X.N.Nodup) (hy : X.N[i]? = some y)
    (hyl : X.env.scope.names.lookup y = some .local)
    (hsw : swapsWith (.DictComp kx vx [⟨tg, iter, ifs, 0⟩] scope pos) (some (.Name y py))
      spos.line X.env = pure true)
    (hi : PI X tg iter wi) (ok : BlkOk X.N X.env.scope scope own)
    (hg : ∀ (s : Shared) (H : Hp) (C : Addr) (cl : List (Str × Addr)) (fp : List Addr),
      PG (X.blk s H scope (compEnvC scope cl C X.env) fp) tg g)
    (ht : ∀ (s : Shared) (H : Hp) (C : Addr) (cl : List (Str × Addr)) (fp : List Addr),
      PTs (X.blk s H scope (compEnvC scope cl C X.env) fp) ifs tt)
    (hk : ∀ (s : Shared) (H : Hp) (C : Addr) (cl : List (Str × Addr)) (fp : List Addr),
      PE (X.blk s H scope (compEnvC scope cl C X.env) fp) kx tk)
    (he : ∀ (s : Shared) (H : Hp) (C : Addr) (cl : List (Str × Addr)) (fp : List Addr),
      PE (X.blk s H scope (compEnvC scope cl C X.env) fp) vx tv)
    (hs : ∀ x, foldedSetIterable iter X.env x = pure x := by intro _; rfl) :
    PS X (.Assign [.Name y py] (.DictComp kx vx [⟨tg, iter, ifs, 0⟩] scope pos) spos)
      (tAsg (tDc wi g tt tk tv (own.map (·.2))) (gName i)) := by
  constructor
  intro pins s σ H D I h
  rw [exec_Assign_Name_used _ _ _ _ hsw]
  refine wpAny_bind (wpAny_standAt (wpAny_bind ?_))
  have h' : tDc wi g tt tk tv (own.map (·.2)) σ H (fun x H1 => gName i x σ H1 D.nx) := h
  show wpAny _ X.A (do
    let _ ← comprehension (.DictComp kx vx [⟨tg, iter, ifs, 0⟩] scope pos) scope X.env _ newDict
      false (eval iter X.env) (some (assign (.Name y py) X.env))) _ _ s
  refine wpAny_bind (thn (dc_core (Qf := fun _ s' => SP X pins D .next s')
    hc hN I hi ok hg ht hk he hs h' ?_) fun _ s' hq => wpAny_pure (wpAny_pure hq))
  intro L C s' m H' I' q hn ⟨f0, f1, f2, f3, f4, f5⟩
  show wpAny _ _ (assign (.Name y py) X.env (.ref L)) _ _ _
  refine wpAny_assign_Name (store_ok2 (v := V.ref L) I' hN hy (.inl hyl) rfl ?_ (.inr hyl))
  intro s2 I2 ⟨a, sb, ha⟩
  have haC : C ≠ a := by
    rcases ha with z | z
    · exact fun e => f1 (e.trans z)
    · exact fun e => f4 y a z e.symm
  refine ⟨m, hn.sameBut sb haC, fun h3 sb3 => ⟨_, H', ?_, q⟩⟩
  exact I2.turned (t' := s2.toks) (fun b o hb e => (sb3.2 b hb).trans e) f0 f1 f3 f4 f5
end
end DC
namespace F02
open PySem PySem.Spec PyProof.Rows L2 MG DC
theorem dc_range {lo : Int} {n : Nat} {g : TG} {tt : TT} {tk tv : TE} {vs : List Nat} {σ : L2.St}
    {H1 : Hp} {D : Addr} {Qd : Hp → Prop} (Pv : Nat → Hp → Prop) (h0 : Pv 0 (upd H1 D (.dK [])))
    (hs : ∀ i H, i < n → Pv i H → g (.int (lo + i)) (wipe σ vs) H fun σ2 H2 =>
      wipe σ2 vs = wipe σ vs ∧ tt σ2 H2 fun b H3 => if b = true then
        tk σ2 H3 fun y H4 => tv σ2 H4 fun z H5 => ∃ kvs k, y = kV k ∧ H5 D = some (.dK kvs) ∧
          kvs.length < sizeLine ∧ Pv (i + 1) (upd H5 D (.dK (putK kvs k z)))
      else Pv (i + 1) H3) (hd : ∀ H, Pv n H → Qd H) :
    ∃ W : Nat → Nat → Hp → Prop, (∃ m, W 0 m (upd H1 D (.dK []))) ∧ ∀ i m H, W i m H →
      ((Itr lo n).stop i H ∧ Qd H) ∨ ((Itr lo n).go i H ∧ ∃ Nx : Hp → Prop,
        (∀ H', Nx H' → ∃ m', m' < m ∧ W (i + 1) m' H') ∧
        ∀ x H', (Itr lo n).yld i H x H' → g x (wipe σ vs) H' fun σ2 H2 =>
          wipe σ2 vs = wipe σ vs ∧ tt σ2 H2 fun b H3 => if b = true then
            tk σ2 H3 fun y H4 => tv σ2 H4 fun z H5 => ∃ kvs k, y = kV k ∧
              H5 D = some (.dK kvs) ∧ kvs.length < sizeLine ∧ Nx (upd H5 D (.dK (putK kvs k z)))
          else Nx H3) := by
  refine ⟨fun i m H => m = n - i ∧ i ≤ n ∧ Pv i H, ⟨n, rfl, Nat.zero_le _, h0⟩, ?_⟩
  rintro i m H ⟨rfl, hi, p⟩
  by_cases c : i < n
  · refine .inr ⟨c, Pv (i + 1), fun H' q => ⟨n - (i + 1), by omega, rfl, c, q⟩, ?_⟩
    rintro x H' ⟨rfl, rfl⟩
    exact hs i _ c p
  · obtain rfl : i = n := by omega
    exact .inl ⟨Nat.le_refl _, hd H p⟩
section
variable {P : Program} {w : World} {K : PySem.W.Frag} {mg : Str → Option Value} {base : Heap}
abbrev s_number : Stmt := top 21
theorem sc_number : FnScope ["digits", "most", "written", "number"] ["digits", "most"] (defScope s_number) := ⟨rfl, rfl, rfl, by decide +kernel, rfl, by decide +kernel, by decide +kernel⟩
def sp_number : Sp := fun vs H Q _ => ∃ (n m : Int), vs = [.str (num n), .int m] ∧ 1 ≤ n ∧ n ≤ m ∧ m ≤ 12 ∧ ∀ H', Same H H' → Q (.int n) H'
theorem num_inj {i j : Int} (h1 : 0 ≤ i) (h2 : i < 20) (h3 : 0 ≤ j) (h4 : j < 20) (e : num i = num j) : i = j := by
  have q : ∀ a b : _root_.Fin 20, num (a.val : Int) = num (b.val : Int) → a = b := by decide +kernel
  have := q ⟨i.toNat, by omega⟩ ⟨j.toNat, by omega⟩ (by
    rw [show ((⟨i.toNat, by omega⟩ : _root_.Fin 20).val : Int) = i by show ((i.toNat : Nat) : Int) = i; omega, show ((⟨j.toNat, by omega⟩ : _root_.Fin 20).val : Int) = j by show ((j.toNat : Nat) : Int) = j; omega]
    exact e)
  have := congrArg _root_.Fin.val this
  have : i.toNat = j.toNat := this
  omega
theorem ok_number {f : Addr} {fd : FuncData} (F : Fun K "_number" "_number" s_number f fd) (n_range : mg "range" = none) (n_str : mg "str" = none) : FnOk P w K mg base CX0 1 f fd ["digits", "most"] sp_number := by
  refine F.ok sc_number (fun vs H Q E h => ?_) (fun cdv A outer s H vs Q E hr h => ?_)
  · obtain ⟨n, m, rfl, _⟩ := h
    rfl
  · obtain ⟨n, m, rfl, n1, nm, m12, k⟩ := h
    refine ⟨_, (pss_cons (ps_setDc (i := 2) (own := [("number", 3)]) (g := gName 3) (tt := tYes) rfl sc_number.nd rfl rfl (sw_dict rfl rfl rfl (by decide +kernel)) (pi_range2 rfl n_range (pa_cons pe_int (pa_cons (pe_op op_add (pv 1) pe_int) pa_nil))) (blkOk_by (own := [("number", 3)]) (N := ["digits", "most", "written", "number"]) (sc := defScope s_number) (by decide +kernel)) (fun _ _ _ _ _ => (pg_name (i := 3) sc_number.nd rfl (Or.inl rfl))) (fun _ _ _ _ _ => pts_nil) (fun _ _ _ _ _ => (pe_callTy call_str_int (by rfl) n_str (by decide +kernel) (pa_cons (pv 3) pa_nil))) (fun _ _ _ _ _ => (pv 3)))
      (pss_one (ps_ret (pe_dget1 (hu_of hr) (pv 2) (pv 0) ⟨rfl, rfl, rfl, rfl⟩)))), ?_⟩
    refine ⟨_, rfl, _, _, rfl, rfl, 1, m + 1, rfl, by omega, fun D nD => ?_⟩
    refine dc_range (fun i G => Same H G ∧ ∃ kvs : List (Key × V), G D = some (.dK kvs) ∧ kvs.length ≤ i ∧ ∀ j : Int, 1 ≤ j → j ≤ (i : Int) → valV kvs (Sum.inr (num j)) = some (.int j)) ⟨same_new (Same.refl H) nD, [], upd_same, Nat.le_refl _, fun j h1 h2 => by omega⟩ ?_ ?_
    · rintro i G hi ⟨sG, kvs, e, l, hv⟩
      refine ⟨rfl, ?_⟩
      refine tyes ?_
      refine iteT ?_
      refine ⟨_, rfl, _, rfl, int_small (by omega) (by omega), _, rfl, kvs, Sum.inr (num (1 + (i : Int))), rfl, e, ?_, ?_, _, upd_same, ?_, ?_⟩
      · exact Nat.lt_of_le_of_lt l (Nat.lt_of_lt_of_le (show i < 100 by omega) (by decide))
      · intro b o hb
        rw [upd_ne (ne_of_none hb nD)]
        exact sG b o hb
      · exact Nat.le_trans (length_putK _ _ _) (Nat.succ_le_succ l)
      · intro j j1 j2
        rw [valV_put]
        by_cases ej : j = 1 + (i : Int)
        · rw [if_pos (by rw [ej]), ej]
        · rw [if_neg fun z => ej (num_inj (by omega) (by omega) (by omega) (by omega) (Sum.inr.inj z))]
          exact hv j j1 (by omega)
    · rintro G ⟨sG, kvs, e, l, hv⟩
      refine nxt ?_
      dsimp only
      refine ⟨_, rfl, D, rfl, .inl ⟨kvs, .inl e⟩, _, rfl, _, DGet.k (k := Sum.inr (num n)) e, ?_⟩
      · rw [hv n n1 (by omega)]
        exact k G sG
end
end F02
namespace F02
open PySem PySem.Spec PyProof.Rows L2 MG DC
/-! ### the rows of a text, read back -/
inductive Row where
  | host (z : Str × Int)
  | guest (z : Str × Int)
  | desk (k : Int)
def Row.text : Row → Str
  | .host z => rowT "host " z
  | .guest z => rowT "guest " z
  | .desk k => "tables " ++ num k
def Row.host? : Row → Option (Str × Int)
  | .host z => some z
  | _ => none
def Row.guest? : Row → Option (Str × Int)
  | .guest z => some z
  | _ => none
def Row.desk? (a : Option Int) : Row → Option Int
  | .desk k => some k
  | _ => a
def rows (hs gs : Side) (t : Option Int) : List Row := hs.map .host ++ gs.map .guest ++ t.toList.map .desk
def hostsOf (l : List Row) : Side := l.filterMap Row.host?
def guestsOf (l : List Row) : Side := l.filterMap Row.guest?
def deskOf (l : List Row) : Option Int := l.foldl Row.desk? none
theorem rows_text (hs gs : Side) (t : Option Int) : (rows hs gs t).map Row.text = rowsT hs gs t := by
  unfold rows rowsT
  rw [List.map_append, List.map_append, List.map_map, List.map_map, List.map_map]
  cases t <;> rfl
theorem fm_none {f : Str × Int → Row} {g : Row → Option (Str × Int)} (h : ∀ z, g (f z) = none) : ∀ l : Side, (l.map f).filterMap g = []
  | [] => rfl
  | z :: l => by rw [List.map_cons, List.filterMap_cons, h z]; exact fm_none h l
theorem fm_some {f : Str × Int → Row} {g : Row → Option (Str × Int)} (h : ∀ z, g (f z) = some z) : ∀ l : Side, (l.map f).filterMap g = l
  | [] => rfl
  | z :: l => by rw [List.map_cons, List.filterMap_cons, h z]; exact congrArg _ (fm_some h l)
theorem hostsOf_rows (hs gs : Side) (t : Option Int) : hostsOf (rows hs gs t) = hs := by
  unfold hostsOf rows
  rw [List.filterMap_append, List.filterMap_append, fm_some (fun _ => rfl), fm_none (fun _ => rfl)]
  cases t <;> simp [Row.host?]
theorem guestsOf_rows (hs gs : Side) (t : Option Int) : guestsOf (rows hs gs t) = gs := by
  unfold guestsOf rows
  rw [List.filterMap_append, List.filterMap_append, fm_none (fun _ => rfl), fm_some (fun _ => rfl)]
  cases t <;> simp [Row.guest?]
theorem fold_same {f : Str × Int → Row} (h : ∀ a z, Row.desk? a (f z) = a) : ∀ (l : Side) (a : Option Int), (l.map f).foldl Row.desk? a = a
  | [], _ => rfl
  | z :: l, a => by rw [List.map_cons, List.foldl_cons, h]; exact fold_same h l a
theorem deskOf_rows (hs gs : Side) (t : Option Int) : deskOf (rows hs gs t) = t := by
  unfold deskOf rows
  rw [List.foldl_append, List.foldl_append, fold_same (fun _ _ => rfl), fold_same (fun _ _ => rfl)]
  cases t <;> rfl
theorem no32 {x : Str} (h : Nm x) : 32 ∉ x.cps.toList ∧ 10 ∉ x.cps.toList := by
  unfold Nm at h
  have b : ∀ z, signB z = true → z ≠ 32 ∧ z ≠ 10 := fun z hz => by
    unfold signB lowB at hz
    simp only [Bool.or_eq_true, decide_eq_true_eq] at hz
    omega
  cases e : x.cps.toList with
  | nil => exact ⟨(fun z => nomatch z), (fun z => nomatch z)⟩
  | cons a r =>
    rw [e] at h
    have h' : (lowB a && decide (r.length ≤ 7) && r.all signB) = true := h
    simp only [Bool.and_eq_true, decide_eq_true_eq] at h'
    obtain ⟨⟨h1, _⟩, h3⟩ := h'
    have ha := b a (by unfold signB; rw [h1]; rfl)
    constructor <;> intro m <;> rcases List.mem_cons.mp m with m | m
    · exact ha.1 m.symm
    · exact (b _ (List.all_eq_true.mp h3 _ m)).1 rfl
    · exact ha.2 m.symm
    · exact (b _ (List.all_eq_true.mp h3 _ m)).2 rfl
theorem num32 {i : Int} (h0 : 0 ≤ i) (h : i < 20) : 32 ∉ (num i).cps.toList ∧ 10 ∉ (num i).cps.toList := by
  have q : ∀ j : _root_.Fin 20, 32 ∉ (num (j.val : Int)).cps.toList ∧ 10 ∉ (num (j.val : Int)).cps.toList := by decide +kernel
  have := q ⟨i.toNat, by omega⟩
  rw [show ((⟨i.toNat, by omega⟩ : _root_.Fin 20).val : Int) = i by show ((i.toNat : Nat) : Int) = i; omega] at this
  exact this
theorem tl_sp : TL.tl (" " : Str) = 32 :: [] := by decide +kernel
theorem part_row {kind w : Str} {z : Str × Int} (e : kind = w ++ " ") (hw : 32 ∉ w.cps.toList) : Txt.partition (rowT kind z) " " = (w, (" " : Str), z.1 ++ " " ++ num z.2) := by
  have e' : rowT kind z = w ++ " " ++ (z.1 ++ " " ++ num z.2) := by
    unfold rowT
    rw [e]
    simp only [app_assoc]
  rw [e']
  exact TL.partition_app tl_sp hw
theorem part_pair {z : Str × Int} (h : Nm z.1) : Txt.partition (z.1 ++ " " ++ num z.2) " " = (z.1, (" " : Str), num z.2) := TL.partition_app tl_sp (no32 h).1
theorem part_desk (k : Int) : Txt.partition ("tables " ++ num k) " " = (("tables" : Str), (" " : Str), num k) := by
  have e' : ("tables " : Str) ++ num k = ("tables" : Str) ++ " " ++ num k := by
    rw [show ("tables " : Str) = ("tables" : Str) ++ " " by decide +kernel]
  rw [e']
  exact TL.partition_app tl_sp (by decide +kernel)
theorem part_num {k : Int} (h0 : 0 ≤ k) (h : k < 20) : Txt.partition (num k) " " = (num k, Str.empty, Str.empty) := TL.partition_none tl_sp (num32 h0 h).1
theorem split_text {hs gs : Side} {t : Option Int} (f : Fairish hs gs t) : Txt.split (textT hs gs t) "\n" = rowsT hs gs t := by
  unfold textT
  refine TL.split_join (s := 10) (S := []) (by decide +kernel) (by decide +kernel) ?_ ?_
  · intro e
    have q := congrArg List.length e
    unfold rowsT at q
    rw [List.length_append, List.length_append, List.length_map, List.length_nil] at q
    have := f.h1
    omega
  · intro p hp
    have row : ∀ (kind : Str) (z : Str × Int), 10 ∉ kind.cps.toList → Nm z.1 → 1 ≤ z.2 → z.2 ≤ 4 → 10 ∉ (rowT kind z).cps.toList := fun kind z h1 h2 h3 h4 m => by
      unfold rowT at m
      rw [app_cps, app_cps, app_cps] at m
      rcases List.mem_append.mp m with m | m
      · rcases List.mem_append.mp m with m | m
        · rcases List.mem_append.mp m with m | m
          · exact h1 m
          · exact (no32 h2).2 m
        · exact absurd m (by decide +kernel)
      · exact (num32 (by omega) (by omega)).2 m
    unfold rowsT at hp
    show 10 ∉ p.cps.toList
    rcases List.mem_append.mp hp with hp | hp
    · rcases List.mem_append.mp hp with hp | hp
      · obtain ⟨z, hz, rfl⟩ := List.mem_map.mp hp
        have hz' := List.mem_append_left gs hz
        exact row _ z (by decide +kernel) (f.nm z hz') (f.bd z hz').1 (f.bd z hz').2
      · obtain ⟨z, hz, rfl⟩ := List.mem_map.mp hp
        have hz' := List.mem_append_right hs hz
        exact row _ z (by decide +kernel) (f.nm z hz') (f.bd z hz').1 (f.bd z hz').2
    · cases t with
      | none => cases hp
      | some k =>
        have e : p = "tables " ++ num k := List.mem_singleton.mp hp
        have := f.tb k rfl
        rw [e, app_cps]
        intro m
        rcases List.mem_append.mp m with m | m
        · exact absurd m (by decide +kernel)
        · exact (num32 (by omega) (by omega)).2 m
end F02
namespace F02
open PySem PySem.Spec PyProof.Rows L2 MG DC
section
variable {P : Program} {w : World} {K : PySem.W.Frag} {mg : Str → Option Value} {base : Heap}
abbrev s_parts_of : Stmt := top 22
abbrev NPo : List Str := ["text", "hosts", "guests", "tables", "line", "kind", "_", "rest", "name", "digits"]
theorem sc_parts_of : FnScope NPo ["text"] (defScope s_parts_of) := ⟨rfl, rfl, rfl, by decide +kernel, rfl, by decide +kernel, by decide +kernel⟩
def sp_parts_of (K : PySem.W.Frag) : Sp := fun vs H Q _ => ∃ (hs gs : Side) (t : Option Int), vs = [.str (textT hs gs t)] ∧ Fairish hs gs t ∧ (textT hs gs t).length ≤ 1000 ∧ ∀ v H', Same H H' → Im K H' v (partsD hs gs t) → Q v H'
structure TxPo (K : PySem.W.Frag) (mg : Str → Option Value) (f_number : Addr) : Prop where
  n_tuple : mg "tuple" = none
  g_MOST_BOUND : ∃ t, mg "MOST_BOUND" = some (.int 4 t)
  g_MOST_TABLES : ∃ t, mg "MOST_TABLES" = some (.int 12 t)
  g_number : mg "_number" = some (.ref f_number)
  k_number : PySem.W.keepIn K (.ref f_number) = true
/-- the pairs of a side stand at these places -/
def Pairs (G : Hp) (l : Side) (ps : List (Addr × Str × Int)) : Prop := ps.map (·.2) = l ∧ ∀ z ∈ ps, G z.1 = some (.tup [.str z.2.1, .int z.2.2])
theorem Pairs.same {G G' : Hp} {l : Side} {ps : List (Addr × Str × Int)} (p : Pairs G l ps) (s : ∀ a xs, G a = some (.tup xs) → G' a = some (.tup xs)) : Pairs G' l ps := ⟨p.1, fun z hz => s _ _ (p.2 z hz)⟩
/-- what the loop has: the rows' list, two growing lists of pairs -/
structure PSt (H G : Hp) (L D1 D2 : Addr) (R : List V) (l1 l2 : Side) (ps qs : List (Addr × Str × Int)) : Prop where
  s : Same H G
  l : G L = some (.lst R)
  a : G D1 = some (.lst (ps.map fun z => V.ref z.1))
  b : G D2 = some (.lst (qs.map fun z => V.ref z.1))
  p : Pairs G l1 ps
  q : Pairs G l2 qs
theorem PSt.same {H G G' : Hp} {L D1 D2 : Addr} {R : List V} {l1 l2 : Side} {ps qs : List (Addr × Str × Int)} (h : PSt H G L D1 D2 R l1 l2 ps qs) (s : Same G G') : PSt H G' L D1 D2 R l1 l2 ps qs :=
  ⟨h.s.trans s, s _ _ h.l, s _ _ h.a, s _ _ h.b, h.p.same fun a xs e => s _ _ e, h.q.same fun a xs e => s _ _ e⟩
theorem PSt.swap {H G : Hp} {L D1 D2 : Addr} {R : List V} {l1 l2 : Side} {ps qs : List (Addr × Str × Int)} (h : PSt H G L D1 D2 R l1 l2 ps qs) : PSt H G L D2 D1 R l2 l1 qs ps := ⟨h.s, h.l, h.b, h.a, h.q, h.p⟩
theorem PSt.push {H G : Hp} {L D1 D2 p : Addr} {R : List V} {l1 l2 : Side} {ps qs : List (Addr × Str × Int)} {z : Str × Int} (h : PSt H G L D1 D2 R l1 l2 ps qs) (np : G p = none) (n1 : H D1 = none) (n12 : D1 ≠ D2) (nL : L ≠ D1) :
    PSt H (upd (upd G p (.tup [.str z.1, .int z.2])) D1 (.lst ((ps.map fun z => V.ref z.1) ++ [.ref p]))) L D1 D2 R (l1 ++ [z]) l2 (ps ++ [(p, z)]) qs := by
  have s1 : Same G (upd G p (.tup [.str z.1, .int z.2])) := same_new (Same.refl G) np
  have h1 := h.same s1
  have pD : D1 ≠ p := ne_of_none h.a np
  have tup : ∀ a xs, (upd G p (.tup [.str z.1, .int z.2])) a = some (.tup xs) → (upd (upd G p (.tup [.str z.1, .int z.2])) D1 (.lst ((ps.map fun z => V.ref z.1) ++ [.ref p]))) a = some (.tup xs) := fun a xs e => by
    have : a ≠ D1 := fun q => by rw [q, h1.a] at e; cases e
    rw [upd_ne this]
    exact e
  have p1 := h1.p.same tup
  refine ⟨fun b o e => ?_, (upd_ne nL).trans h1.l, ?_, (upd_ne n12.symm).trans h1.b, ⟨?_, ?_⟩, h1.q.same tup⟩
  · rw [upd_ne (ne_of_none e n1)]
    exact h1.s b o e
  · rw [upd_same, List.map_append] <;> rfl
  · rw [List.map_append, p1.1] <;> rfl
  · intro y hy
    rcases List.mem_append.mp hy with hy | hy
    · exact p1.2 y hy
    · obtain rfl := List.mem_singleton.mp hy
      exact tup _ _ upd_same
theorem PSt.len {H G : Hp} {L D1 D2 : Addr} {R : List V} {l1 l2 : Side} {ps qs : List (Addr × Str × Int)} (h : PSt H G L D1 D2 R l1 l2 ps qs) : ps.length = l1.length := by
  have := congrArg List.length h.p.1
  rw [List.length_map] at this
  exact this
theorem fm_len {g : Row → Option (Str × Int)} (l : List Row) : (l.filterMap g).length ≤ l.length := List.length_filterMap_le g l
theorem rows_ok {hs gs : Side} {t : Option Int} (f : Fairish hs gs t) : ∀ r ∈ rows hs gs t, match r with
    | .host z => Nm z.1 ∧ 1 ≤ z.2 ∧ z.2 ≤ 4
    | .guest z => Nm z.1 ∧ 1 ≤ z.2 ∧ z.2 ≤ 4
    | .desk k => 1 ≤ k ∧ k ≤ 12 := by
  intro r hr
  unfold rows at hr
  rcases List.mem_append.mp hr with hr | hr
  · rcases List.mem_append.mp hr with hr | hr
    · obtain ⟨z, hz, rfl⟩ := List.mem_map.mp hr
      have hz' := List.mem_append_left gs hz
      exact ⟨f.nm z hz', f.bd z hz'⟩
    · obtain ⟨z, hz, rfl⟩ := List.mem_map.mp hr
      have hz' := List.mem_append_right hs hz
      exact ⟨f.nm z hz', f.bd z hz'⟩
  · obtain ⟨k, hk, rfl⟩ := List.mem_map.mp hr
    cases t with
    | none => cases hk
    | some n =>
      have e : k = n := List.mem_singleton.mp hk
      exact f.tb k (by rw [e])
theorem tstr {i : Nat} {x u : Str} {σ : L2.St} {H : Hp} {Q : Bool → Hp → Prop} {b : Bool} (h : σ[i]? = some (some (.str x))) (e : decide (V.str x = V.str u) = b) (q : Q b H) : tTest (tOp rEq (tVar i) (tC (V.str u))) σ H Q :=
  ⟨_, h, rfl, _, rfl, by rw [e]; exact q⟩
theorem ne_str {x u : Str} (h : x ≠ u) : decide (V.str x = V.str u) = false := decide_eq_false fun e => h (V.str.inj e)
/-- behind a partition: three names -/
theorem seq_part {i a b c : Nat} {x y : Str} {u1 u2 u3 : Str} {ts : TS} {D : Ends} {σ : L2.St} {G : Hp} {n : Nat} (hn : n = 3) (h : σ[i]? = some (some (.str x))) (hy : (y.length == 0) = false) (hl : x.length ≤ sizeLine) (e : Txt.partition x y = (u1, u2, u3))
    (k : ∀ G', Same G G' → ts D (((σ.set a (some (.str u1))).set b (some (.str u2))).set c (some (.str u3))) G') :
    tSeq (tAsg (tM1 (fun x xs H Q => ∃ a b, x = V.str a ∧ xs = [V.str b] ∧ (b.length == 0) = false ∧ a.length ≤ sizeLine ∧
      ∀ (p : Addr), H p = none → Q (V.ref p) (upd H p (HO.tup [V.str (Txt.partition a b).fst, V.str (Txt.partition a b).snd.fst, V.str (Txt.partition a b).snd.snd]))) (tVar i) (tC (V.str y)))
      (gTup K n (gCons (gName a) (gCons (gName b) (gCons (gName c) gNil))))) ts D σ G := by
  subst hn
  refine ⟨_, h, ⟨_, rfl⟩, _, _, rfl, rfl, hy, hl, fun p np => ?_⟩
  rw [e]
  exact ⟨p, _, rfl, SqT.of upd_same, rfl, _, _, rfl, _, _, rfl, _, _, rfl, rfl, k _ (same_new (Same.refl G) np)⟩
theorem ok_parts_of {f f_number : Addr} {fd fd_number : FuncData} (F : Fun K "_parts_of" "_parts_of" s_parts_of f fd) (T : TxPo K mg f_number)
    (G_number : FnOk P w K mg base CX0 1 f_number fd_number ["digits", "most"] sp_number) (b_number : Binds K fd_number ["digits", "most"] []) : FnOk P w K mg base CX0 2 f fd ["text"] (sp_parts_of K) := by
  obtain ⟨t1, g1⟩ := T.g_MOST_BOUND
  obtain ⟨t2, g2⟩ := T.g_MOST_TABLES
  refine F.ok sc_parts_of (fun vs H Q E h => ?_) (fun cdv A outer s H vs Q E hr h => ?_)
  · obtain ⟨hs, gs, t, rfl, _⟩ := h
    rfl
  · obtain ⟨hs, gs, t, rfl, fi, hz, k⟩ := h
    refine ⟨_, (pss_cons (ps_set (i := 1) sc_parts_of.nd rfl (Or.inl rfl) (pe_lst pa_nil))
      (pss_cons (ps_set (i := 2) sc_parts_of.nd rfl (Or.inl rfl) (pe_lst pa_nil))
      (pss_cons (ps_set (i := 3) sc_parts_of.nd rfl (Or.inl rfl) pe_non)
      (pss_cons (ps_for PassesOwn.never rfl (pi_list (pe_split (pv 0) pe_str)) (pg_name (i := 4) sc_parts_of.nd rfl (Or.inl rfl))
        (pss_cons (ps_asg (pe_partition (pv 4) pe_str) (pg_tup rfl (pgs_cons (pg_name (i := 5) sc_parts_of.nd rfl (Or.inl rfl)) (pgs_cons (pg_name (i := 6) sc_parts_of.nd rfl (Or.inl rfl)) (pgs_cons (pg_name (i := 7) sc_parts_of.nd rfl (Or.inl rfl)) pgs_nil)))))
      (pss_cons (ps_asg (pe_partition (pv 7) pe_str) (pg_tup rfl (pgs_cons (pg_name (i := 8) sc_parts_of.nd rfl (Or.inl rfl)) (pgs_cons (pg_name (i := 6) sc_parts_of.nd rfl (Or.inl rfl)) (pgs_cons (pg_name (i := 9) sc_parts_of.nd rfl (Or.inl rfl)) pgs_nil)))))
      (pss_cons (ps_if (pt_cmpR op_eq (pv 5) pe_str (nomark _))
        (pss_one (ps_expr (pe_bm PySem.F.plainAttrs_list PySem.F.slot_list_append PySem.F.type_list_append mt_append (pv 1) (pa_cons (pe_tup (pa_cons (pv 8) (pa_cons (pe_call G_number hr rfl T.g_number T.k_number b_number .nil pass0 (pa_cons (pv 9) (pa_cons (pe_glob (v := .int 4) rfl g1 ⟨_, rfl⟩) pa_nil))) pa_nil))) pa_nil))))
        pss_nil)
      (pss_cons (ps_if (pt_cmpR op_eq (pv 5) pe_str (nomark _))
        (pss_one (ps_expr (pe_bm PySem.F.plainAttrs_list PySem.F.slot_list_append PySem.F.type_list_append mt_append (pv 2) (pa_cons (pe_tup (pa_cons (pv 8) (pa_cons (pe_call G_number hr rfl T.g_number T.k_number b_number .nil pass0 (pa_cons (pv 9) (pa_cons (pe_glob (v := .int 4) rfl g1 ⟨_, rfl⟩) pa_nil))) pa_nil))) pa_nil))))
        pss_nil)
      (pss_one (ps_if (pt_cmpR op_eq (pv 5) pe_str (nomark _))
        (pss_one (ps_set (i := 3) sc_parts_of.nd rfl (Or.inl rfl) (pe_call G_number hr rfl T.g_number T.k_number b_number .nil pass0 (pa_cons (pv 7) (pa_cons (pe_glob (v := .int 12) rfl g2 ⟨_, rfl⟩) pa_nil)))))
        pss_nil)))))))
      (pss_one (ps_ret (pe_tup (pa_cons (pe_callTy call_tuple_of (by rfl) T.n_tuple (by decide +kernel) (pa_cons (pv 1) pa_nil)) (pa_cons (pe_callTy call_tuple_of (by rfl) T.n_tuple (by decide +kernel) (pa_cons (pv 2) pa_nil)) (pa_cons (pv 3) pa_nil)))))))))), ?_⟩
    refine ⟨Nat.zero_le _, fun D1 n1 => ?_⟩
    refine nxt ?_
    dsimp only
    refine ⟨Nat.zero_le _, fun D2 n2 => ?_⟩
    have n12 : D1 ≠ D2 := fun e => by rw [← e, upd_same] at n2; cases n2
    have n2' : H D2 = none := (upd_ne n12.symm).symm.trans n2
    refine nxt ?_
    dsimp only
    refine nxt ?_
    dsimp only
    refine ⟨_, rfl, ⟨_, rfl⟩, _, _, rfl, rfl, by decide +kernel, Nat.le_trans (Nat.add_le_add_right hz 2) (by decide), fun L nL => ?_⟩
    rw [split_text fi]
    have nL1 : L ≠ D1 := fun e => by rw [e, upd_ne n12, upd_same] at nL; cases nL
    have nL2 : L ≠ D2 := fun e => by rw [e, upd_same] at nL; cases nL
    have nL' : H L = none := by rw [upd_ne nL2, upd_ne nL1] at nL; exact nL
    rw [← rows_text]
    refine ⟨L, rfl, ⟨_, SqL.of upd_same⟩, ?_⟩
    refine for_list (xs := ((rows hs gs t).map Row.text).map V.str) (fun i σ G => ∃ (ps qs : List (Addr × Str × Int)) (v4 v5 v6 v7 v8 v9 : Option V), σ = [some (.str (textT hs gs t)), some (.ref D1), some (.ref D2), some (deskV (deskOf ((rows hs gs t).take i))), v4, v5, v6, v7, v8, v9] ∧
        PSt H G L D1 D2 (((rows hs gs t).map Row.text).map V.str) (hostsOf ((rows hs gs t).take i)) (guestsOf ((rows hs gs t).take i)) ps qs)
      ⟨[], [], none, none, none, none, none, none, rfl, ⟨?_, upd_same, ?_, ?_, ⟨rfl, fun z hz => nomatch hz⟩, ⟨rfl, fun z hz => nomatch hz⟩⟩⟩ (fun i σ G _ z => by obtain ⟨_, _, _, _, _, _, _, _, _, e⟩ := z; exact SqL.of e.l) ?_ ?_
    · exact (same_new (same_new (same_new (Same.refl H) n1) n2) nL)
    · rw [upd_ne nL1.symm, upd_ne n12, upd_same] <;> rfl
    · rw [upd_ne nL2.symm, upd_same] <;> rfl
    · rintro i y σ G hy ⟨ps, qs, v4, v5, v6, v7, v8, v9, rfl, S⟩
      obtain ⟨r, hr', rfl⟩ : ∃ r, (rows hs gs t)[i]? = some r ∧ y = V.str r.text := by
        rw [List.map_map, List.getElem?_map] at hy
        cases e : (rows hs gs t)[i]? with
        | none => rw [e] at hy; cases hy
        | some u => rw [e] at hy; exact ⟨u, rfl, (Option.some.inj hy).symm⟩
      have tk : (rows hs gs t).take (i + 1) = (rows hs gs t).take i ++ [r] := by rw [List.take_add_one, hr'] <;> rfl
      have hm := List.mem_of_getElem? hr'
      have len20 : r.text.length ≤ 20 := fi.short.rows.2 _ (by rw [← rows_text]; exact List.mem_map_of_mem hm)
      have ok := rows_ok fi r hm
      have sp0 : ((" " : Str).length == 0) = false := by decide +kernel
      have i8 : i < 9 := by
        have h1 := (List.getElem?_eq_some_iff.mp hr').1
        have h2 := fi.short.rows.1
        rw [← rows_text, List.length_map] at h2
        omega
      have lt : ((rows hs gs t).take i).length ≤ 9 := by rw [List.length_take]; omega
      have lH : ps.length < sizeLine := Nat.lt_of_lt_of_le (show ps.length < 100 by rw [S.len]; exact Nat.lt_of_le_of_lt (Nat.le_trans (fm_len _) lt) (by decide)) (by decide)
      have lG : qs.length < sizeLine := Nat.lt_of_lt_of_le (show qs.length < 100 by rw [S.swap.len]; exact Nat.lt_of_le_of_lt (Nat.le_trans (fm_len _) lt) (by decide)) (by decide)
      rw [tk]
      have hH : ∀ r, hostsOf ((rows hs gs t).take i ++ [r]) = hostsOf ((rows hs gs t).take i) ++ hostsOf [r] := fun r => List.filterMap_append
      have hG : ∀ r, guestsOf ((rows hs gs t).take i ++ [r]) = guestsOf ((rows hs gs t).take i) ++ guestsOf [r] := fun r => List.filterMap_append
      have hD : ∀ r, deskOf ((rows hs gs t).take i ++ [r]) = Row.desk? (deskOf ((rows hs gs t).take i)) r := fun r => by
        unfold deskOf
        rw [List.foldl_append] <;> rfl
      rw [hH, hG, hD]
      have hg : ("host" : Str) ≠ "guest" := by decide +kernel
      have ht : ("host" : Str) ≠ "tables" := by decide +kernel
      have gh : ("guest" : Str) ≠ "host" := by decide +kernel
      have gt : ("guest" : Str) ≠ "tables" := by decide +kernel
      have th : ("tables" : Str) ≠ "host" := by decide +kernel
      have tg : ("tables" : Str) ≠ "guest" := by decide +kernel
      refine nxt ?_
      cases r with
      | host z =>
        obtain ⟨o1, o2, o3⟩ := ok
        have e1 : Txt.partition (Row.host z).text " " = (("host" : Str), (" " : Str), z.1 ++ " " ++ num z.2) := part_row (by decide +kernel) (by decide +kernel)
        refine seq_part rfl rfl sp0 (Nat.le_trans len20 (by decide)) e1 fun G1 s1 => ?_
        refine seq_part rfl rfl sp0 ?_ (part_pair o1) fun G2 s2 => ?_
        · have := o1.len.2
          have := num_len (i := z.2) (by omega) (by omega)
          have : ((" " : Str)).length = 1 := by decide +kernel
          refine Nat.le_trans (show _ ≤ 100 by rw [app_len, app_len]; omega) (by decide)
        refine seq_if (b := true) (fun Q' q' => tstr rfl (decide_eq_true rfl) q') (fun _ => ?_) (fun c => by cases c)
        refine ⟨_, rfl, .inl ⟨rfl, _, SqL.of (S.same (s1.trans s2)).a⟩, _, rfl, _, rfl, z.2, 4, rfl, o2, o3, by decide, fun G3 s3 => ⟨(by show 2 ≤ sizeLine; decide), fun p3 np3 => ?_⟩⟩
        have S3 := (S.same (s1.trans s2)).same s3
        refine ⟨D1, _, _, rfl, rfl, (upd_ne (ne_of_none S3.a np3)).trans S3.a, (by rw [List.length_map]; exact lH), ?_⟩
        have S4 := S3.push (z := z) np3 n1 n12 nL1
        refine seq_if (b := false) (fun Q' q' => tstr rfl (ne_str hg) q') (fun c => by cases c) (fun _ => ?_)
        refine ⟨_, rfl, rfl, _, rfl, ?_⟩
        rw [ne_str ht, show hostsOf [Row.host z] = [z] from rfl, show guestsOf [Row.host z] = [] from rfl, List.append_nil]
        exact iteF ⟨_, _, _, _, _, _, _, _, rfl, S4⟩
      | guest z =>
        obtain ⟨o1, o2, o3⟩ := ok
        have e1 : Txt.partition (Row.guest z).text " " = (("guest" : Str), (" " : Str), z.1 ++ " " ++ num z.2) := part_row (by decide +kernel) (by decide +kernel)
        refine seq_part rfl rfl sp0 (Nat.le_trans len20 (by decide)) e1 fun G1 s1 => ?_
        refine seq_part rfl rfl sp0 ?_ (part_pair o1) fun G2 s2 => ?_
        · have := o1.len.2
          have := num_len (i := z.2) (by omega) (by omega)
          have : ((" " : Str)).length = 1 := by decide +kernel
          refine Nat.le_trans (show _ ≤ 100 by rw [app_len, app_len]; omega) (by decide)
        refine seq_if (b := false) (fun Q' q' => tstr rfl (ne_str gh) q') (fun c => by cases c) (fun _ => ?_)
        refine seq_if (b := true) (fun Q' q' => tstr rfl (decide_eq_true rfl) q') (fun _ => ?_) (fun c => by cases c)
        refine ⟨_, rfl, .inl ⟨rfl, _, SqL.of (S.same (s1.trans s2)).b⟩, _, rfl, _, rfl, z.2, 4, rfl, o2, o3, by decide, fun G3 s3 => ⟨(by show 2 ≤ sizeLine; decide), fun p3 np3 => ?_⟩⟩
        have S3 := (S.same (s1.trans s2)).same s3
        refine ⟨D2, _, _, rfl, rfl, (upd_ne (ne_of_none S3.b np3)).trans S3.b, (by rw [List.length_map]; exact lG), ?_⟩
        have S4 := (S3.swap.push (z := z) np3 n2' n12.symm nL2).swap
        refine ⟨_, rfl, rfl, _, rfl, ?_⟩
        rw [ne_str gt, show hostsOf [Row.guest z] = [] from rfl, show guestsOf [Row.guest z] = [z] from rfl, List.append_nil]
        exact iteF ⟨_, _, _, _, _, _, _, _, rfl, S4⟩
      | desk n =>
        obtain ⟨o1, o2⟩ := ok
        have e1 : Txt.partition (Row.desk n).text " " = (("tables" : Str), (" " : Str), num n) := part_desk n
        refine seq_part rfl rfl sp0 (Nat.le_trans len20 (by decide)) e1 fun G1 s1 => ?_
        refine seq_part rfl rfl sp0 ?_ (part_num (by omega) (by omega)) fun G2 s2 => ?_
        · have := num_len (i := n) (by omega) (by omega)
          exact Nat.le_trans this (by decide)
        refine seq_if (b := false) (fun Q' q' => tstr rfl (ne_str th) q') (fun c => by cases c) (fun _ => ?_)
        refine seq_if (b := false) (fun Q' q' => tstr rfl (ne_str tg) q') (fun c => by cases c) (fun _ => ?_)
        refine ⟨_, rfl, rfl, _, rfl, ?_⟩
        rw [decide_eq_true rfl]
        refine iteT ?_
        refine ⟨_, rfl, n, 12, rfl, o1, o2, by decide, fun G3 s3 => ?_⟩
        refine nxt ?_
        have S3 := (S.same (s1.trans s2)).same s3
        rw [show hostsOf [Row.desk n] = [] from rfl, show guestsOf [Row.desk n] = [] from rfl, List.append_nil, List.append_nil]
        exact ⟨_, _, _, _, _, _, _, _, rfl, S3⟩
    · rintro σ G ⟨ps, qs, v4, v5, v6, v7, v8, v9, rfl, S⟩
      rw [List.length_map, List.length_map, List.take_length, hostsOf_rows, guestsOf_rows] at S
      rw [List.length_map, List.length_map, List.take_length, deskOf_rows]
      refine ⟨_, rfl, D1, _, rfl, .inl ⟨SqL.of S.a, fun q1 m1 => ?_⟩⟩
      have S1 := S.same (same_new (Same.refl G) m1 (o := .tup (ps.map fun z => V.ref z.1)))
      have e1 : (upd G q1 (.tup (ps.map fun z => V.ref z.1))) q1 = some (.tup (ps.map fun z => V.ref z.1)) := upd_same
      generalize upd G q1 (.tup (ps.map fun z => V.ref z.1)) = G1 at S1 e1 ⊢
      refine ⟨_, rfl, D2, _, rfl, .inl ⟨SqL.of S1.b, fun q2 m2 => ?_⟩⟩
      have z2 := same_new (Same.refl G1) m2 (o := .tup (qs.map fun z => V.ref z.1))
      have S2 := S1.same z2
      have e2 : (upd G1 q2 (.tup (qs.map fun z => V.ref z.1))) q2 = some (.tup (qs.map fun z => V.ref z.1)) := upd_same
      have e12 := z2 _ _ e1
      generalize upd G1 q2 (.tup (qs.map fun z => V.ref z.1)) = G2 at S2 e2 e12 ⊢
      refine ⟨_, rfl, (by show 3 ≤ sizeLine; decide), fun q3 m3 => ?_⟩
      have z3 := same_new (Same.refl G2) m3 (o := .tup [.ref q1, .ref q2, deskV t])
      have S3 := S2.same z3
      refine k _ _ S3.s ?_
      have i1 := im_pairs (K := K) ps S3.p.2
      have i2 := im_pairs (K := K) qs S3.q.2
      rw [S3.p.1] at i1
      rw [S3.q.1] at i2
      exact .tup (SqT.of upd_same) (.cons (.tup (SqT.of (z3 _ _ e12)) i1) (.cons (.tup (SqT.of (z3 _ _ e2)) i2) (.cons (im_desk t) .nil)))
end
end F02
namespace CM
open PySem PySem.Spec PyProof.Rows L2 ClX
section
variable {X : Cx} {CX : CXT} {k i : Nat} {f C p g : Addr} {mc : Value} {fd : FuncData}
variable {ps ks : List Str} {sp : Sp} {E : XK} {x m : Str} {e o : Expr} {es : List Expr}
variable {kws : List Keyword} {t tk : TA} {ta : TE} {pn pos apos : Pos} {dvs : List V}
variable {ds : List Value}
/-- x(e, ..), x a local that holds the class at C -/
def tMakeV (i : Nat) (C : Addr) (sp : Sp) (dvs : List V) (E : XK) (t : TA) : TE := fun σ H Q =>
  σ[i]? = some (some (.ref C)) ∧ tMake C sp dvs E t σ H Q
theorem pe_makeV (M : Mk X.K C f) (F : FnOk X.prog X.w X.K X.mg X.base CX k f fd ps sp)
    (hr : Room (k + 1) X.A) (hb : Binds X.K fd ps ds) (hd : Vals dvs ds) (hx : Passes CX X E)
    (hN : X.N[i]? = some x) (hv : Vis X.env.scope x) (ha : PA X (e :: es) t)
    (hdb : (x == ("__debug__" : Str)) = false := by decide)
    (hcd : (x == ("__classdict__" : Str)) = false := by decide)
    (he : starEach (e :: es) X.env = (false, eval e X.env) :: starEach es X.env := by rfl)
    (hpl : (backTo pos (starEach es X.env)).any (·.1) = false := by rfl) :
    PE X (.Call (.Name x pn) (e :: es) [] pos) (tMakeV i C sp dvs E t) := by
  constructor
  intro pins s σ H Q I ⟨hs, h⟩
  have look := (pe_var (pos := pn) (i := i) hN hv hdb hcd).run pins s σ H
    (fun v H1 => v = .ref C ∧ H1 = H) I ⟨.ref C, hs, rfl, rfl⟩
  refine wpAny_Call_Name_kw (thn look ?_)
  rintro u s1 ⟨v, H1, I1, r1, rfl, rfl⟩
  obtain rfl : u = Value.ref C := r1
  refine PySem.W.callWith_K (h₀ := X.base) I.ok.mod.kin M.kp ?_ he hpl
  refine thn (ha.run pos pins s1 σ H1 _ I1 h) ?_
  rintro us s2 ⟨vs, H2, I2, r, q⟩
  exact ⟨I2.kIn, run_make M F hr hb hd hx I2 r q⟩
/-- o.m(k = v, ..), o the class at C, m a classmethod of it -/
def tCMethK (C : Addr) (n : Nat) (sp : Sp) (gV : List V → List V → List V) (E : XK) (ta : TE)
    (tk : TA) : TE := fun σ H Q => ta σ H fun x H1 => x = .ref C ∧
  tk σ H1 fun zs H2 => zs.length = n ∧ sp (gV [.ref C] zs) H2 Q E
theorem pe_cmethK {gg : List Value → List Value → List Value} {gV : List V → List V → List V}
    {pl : Sem Bool} (he : PE X o ta) (r : CRead X.K C mc) (c : CMet X.K C mc m p g)
    (F : FnOk X.prog X.w X.K X.mg X.base CX k g fd ps sp) (hr : Room k X.A)
    (hb : KBn X.K fd ps 1 ks gg gV) (hx : Passes CX X E) (hkw : PK X kws tk)
    (hall : (backToKw pos (keywordEach kws X.env)).all (·.1.isSome) = true := by rfl)
    (hks : (backToKw pos (keywordEach kws X.env)).filterMap (·.1) = ks := by rfl)
    (hpl : ((backTo pos (starEach [] X.env)).any (·.1) ||
      (backToKw pos (keywordEach kws X.env)).any (·.1.isNone)) = false := by rfl)
    (ht : eval (.Call (.Attribute o m apos) [] kws pos) X.env = (do
      let ov ← eval o X.env
      standAt apos.atName
      let fx ← holding [ov] (getMethod ov m pl)
      callWith pos fx.1 fx.2 (backTo pos (starEach [] X.env))
        (backToKw pos (keywordEach kws X.env))) := by rfl) :
    PE X (.Call (.Attribute o m apos) [] kws pos) (tCMethK C ks.length sp gV E ta tk) := by
  constructor
  intro pins s σ H Q I h
  refine PySem.W.methodCall_KW (pl := pl) (thn (he.run pins s σ H _ I h) ?_) ht
  rintro u s1 ⟨y, H1, I1, ry, rfl, q⟩
  obtain rfl : u = Value.ref C := ry
  refine getmethcm_ok I1 r c fun s2 I2 => ?_
  have keep : ∀ h', PySem.W.MethP X.K s1.heap.objs.size g (.ref C) h' → ∃ k,
      (k = Keeper.frame ∨ k = Keeper.machine ∨ k = Keeper.boundFrame) ∧
        PySem.W.Looks (model X.prog X.w) h' (keeperOf (.ref s1.heap.objs.size)) k :=
    fun h' z => PySem.W.keeps_M c.fi h' z
  refine PySem.W.callWith_of hpl keep (evalArgs_kw2_nil hall ?_)
  refine thn (hkw.run pos _ s2 σ H1 _ I2 q) ?_
  rintro ws s3 ⟨zs, H2, I3, rz, l1, l2⟩
  refine ⟨⟨pin_at I3, I3.kIn⟩, ?_⟩
  rw [hks]
  have n2 : ws.length = ks.length := rz.length.symm.trans l1
  have vals := hb.rel (vs := [.ref C]) (us := [Value.ref C]) (.cons rfl .nil) rz
  have bnd := hb.to s3 [Value.ref C] ws I3.kIn rfl n2
  refine wpAny_call (PySem.W.method_call (pin_at I3) ?_)
  refine codeAny_mono (F.run X.A X.stack s3 H2 ⟨[.ref C], ks.zip ws⟩ _ _ Q E hr I3.env0 bnd vals l2) ?_
  intro res s' hq
  match res, hq with
  | .error e, hq => exact hx _ σ H2 s3 e s' I3 hq
  | .ok (.ret u), hq => exact unpinE (I3.after hq)
end
end CM
namespace F02
open PySem PySem.Spec PyProof.Rows L2 MG SP CM
section
variable {P : Program} {w : World} {K : PySem.W.Frag} {mg : Str → Option Value} {base : Heap} {C : Addr}
abbrev s_read : Stmt := inClass (top 23) 1
abbrev NRd : List Str := ["cls", "text", "hosts", "guests", "tables"]
theorem sc_read : FnScope NRd ["cls", "text"] (defScope s_read) := ⟨rfl, rfl, rfl, by decide +kernel, rfl, by decide +kernel, by decide +kernel⟩
def sp_read (K : PySem.W.Frag) (C : Addr) : Sp := fun vs H Q _ => ∃ (hs gs : Side) (t : Option Int), vs = [.ref C, .str (textT hs gs t)] ∧ Fairish hs gs t ∧ (textT hs gs t).length ≤ 1000 ∧ ∀ x H', Same H H' → FairAt K C H' x hs gs t → Q (.ref x) H'
structure TxRd (K : PySem.W.Frag) (mg : Str → Option Value) (f_parts_of f_fault f_names_of f_text_of : Addr) : Prop where
  n_isinstance : mg "isinstance" = none
  n_str : mg "str" = none
  g_parts_of : mg "_parts_of" = some (.ref f_parts_of)
  k_parts_of : PySem.W.keepIn K (.ref f_parts_of) = true
  g_fault : mg "_fault" = some (.ref f_fault)
  k_fault : PySem.W.keepIn K (.ref f_fault) = true
  g_names_of : mg "_names_of" = some (.ref f_names_of)
  k_names_of : PySem.W.keepIn K (.ref f_names_of) = true
  g_text_of : mg "_text_of" = some (.ref f_text_of)
  k_text_of : PySem.W.keepIn K (.ref f_text_of) = true
theorem kb_read {f : Addr} {fd : FuncData} (F : Fun K "read" "Fair.read" s_read f fd) : KBn K fd ["cls", "text"] 1 ["text"] (fun us ws => us ++ ws) (fun vs zs => vs ++ zs) := by
  obtain ⟨oc, od, kV, doc, pm, an, cdv, ct, osl, rfl, lk, hcd⟩ := F.ex
  refine ⟨fun s us ws X l1 l2 => .of_eq ?_, fun r1 r2 => r1.append r2⟩
  match us, l1, ws, l2 with
  | [_], _, [_], _ => rfl
theorem ok_read {f f_parts_of f_fault f_names_of f_text_of f_init : Addr} {fd fd_parts_of fd_fault fd_names_of fd_text_of d_init : FuncData} (F : Fun K "read" "Fair.read" s_read f fd) (T : TxRd K mg f_parts_of f_fault f_names_of f_text_of)
    (M : Mk K C f_init) (G_init : FnOk P w K mg base CX0 4 f_init d_init psI (sp_init K C)) (b_init : Binds K d_init psI [])
    (G_parts_of2 : FnOk P w K mg base CX0 2 f_parts_of fd_parts_of ["text"] (sp_parts_of K)) (b_parts_of : Binds K fd_parts_of ["text"] [])
    (G_fault3 : FnOk P w K mg base CX0 3 f_fault fd_fault ["side", "taken"] (sp_fault K)) (b_fault : Binds K fd_fault ["side", "taken"] [])
    (G_names_of1 : FnOk P w K mg base CX0 1 f_names_of fd_names_of ["side"] (sp_names_of K)) (b_names_of : Binds K fd_names_of ["side"] [])
    (G_text_of1 : FnOk P w K mg base CX0 1 f_text_of fd_text_of ["hosts", "guests", "tables"] (sp_text_of K)) (b_text_of : Binds K fd_text_of ["hosts", "guests", "tables"] []) :
    FnOk P w K mg base CX0 6 f fd ["cls", "text"] (sp_read K C) := by
  have G_parts_of := G_parts_of2.mono (show 2 ≤ 5 by decide)
  have G_fault := G_fault3.mono (show 3 ≤ 5 by decide)
  have G_names_of := G_names_of1.mono (show 1 ≤ 5 by decide)
  have G_text_of := G_text_of1.mono (show 1 ≤ 5 by decide)
  refine F.ok sc_read (fun vs H Q E h => ?_) (fun cdv A outer s H vs Q E hr h => ?_)
  · obtain ⟨hs, gs, t, rfl, _⟩ := h
    rfl
  · obtain ⟨hs, gs, t, rfl, fi, hz, k⟩ := h
    refine ⟨_, (pss_cons (ps_if (pt_not (pt_val (pe_callB call_isi (by rfl) T.n_isinstance (by decide +kernel) (pa_cons (pv 1) (pa_cons (pe_bltn (v := .ty "str") (by rfl) T.n_str (by decide +kernel) rfl) pa_nil)))))
        (pss_one ps_never)
        pss_nil)
      (pss_cons (ps_asg (pe_call G_parts_of hr rfl T.g_parts_of T.k_parts_of b_parts_of .nil pass0 (pa_cons (pv 1) pa_nil)) (pg_tup rfl (pgs_cons (pg_name (i := 2) sc_read.nd rfl (Or.inl rfl)) (pgs_cons (pg_name (i := 3) sc_read.nd rfl (Or.inl rfl)) (pgs_cons (pg_name (i := 4) sc_read.nd rfl (Or.inl rfl)) pgs_nil)))))
      (pss_cons (ps_if (PW.pt (pw_or (pt_truth (pe_call G_fault hr rfl T.g_fault T.k_fault b_fault .nil pass0 (pa_cons (pv 2) (pa_cons (pe_tup pa_nil) pa_nil))) (by intro _; rfl)) (pw_or1 (pt_truth (pe_call G_fault hr rfl T.g_fault T.k_fault b_fault .nil pass0 (pa_cons (pv 3) (pa_cons (pe_call G_names_of hr rfl T.g_names_of T.k_names_of b_names_of .nil pass0 (pa_cons (pv 2) pa_nil)) pa_nil))) (by intro _; rfl)))))
        (pss_one ps_never)
        pss_nil)
      (pss_cons (ps_if (pt_cmpR op_ne (pe_call G_text_of hr rfl T.g_text_of T.k_text_of b_text_of .nil pass0 (pa_cons (pv 2) (pa_cons (pv 3) (pa_cons (pv 4) pa_nil)))) (pv 1) (nomark _))
        (pss_one ps_never)
        pss_nil)
      (pss_one (ps_ret (pe_makeV (i := 0) M G_init hr b_init .nil pass0 rfl (Or.inl rfl) (pa_cons (pv 2) (pa_cons (pv 3) (pa_cons (pv 4) pa_nil)))))))))), ?_⟩
    refine seq_ifN (b := false) (fun Q' q' => ?_) (fun c => by cases c) (fun _ => ?_)
    · exact ⟨_, rfl, .str _, .ty "str", _, _, true, rfl, .ty "str", .base (.str _), kit_ty (by decide +kernel), true, rfl, q'⟩
    refine ⟨_, rfl, hs, gs, t, rfl, fi, hz, fun v H1 s1 iv => ?_⟩
    obtain ⟨pp, vh, vg, rfl, hp, ih, ig⟩ := im_parts iv
    refine ⟨pp, _, rfl, hp, rfl, _, _, rfl, _, _, rfl, _, _, rfl, rfl, ?_⟩
    dsimp only
    have eN := List.nodup_append.mp (show (hs.map (·.1) ++ gs.map (·.1)).Nodup by rw [← List.map_append]; exact fi.nd)
    refine seq_ifNH (b := false) (fun G => Same H1 G) (fun Q' q' => ?_) (fun _ _ c => by cases c) (fun H2 s2 _ => ?_)
    · refine ⟨_, rfl, Nat.zero_le _, fun e0 n0 => ⟨vh, e0, hs, [], rfl, ih.to (Tk.same (same_new (Same.refl H1) n0)) _ _, SqT.of upd_same, fi.h1, fi.h4, by decide, eN.1, (fun z hz => fi.nm z (List.mem_append_left _ hz)), (fun z hz => fi.bd z (List.mem_append_left _ hz)), fun q1 G1 s1' hq1 => ?_⟩⟩
      have z1 : Same H1 G1 := (same_new (Same.refl H1) n0).trans s1'
      refine ⟨_, tru_tup (SqT.of hq1), iteF ?_⟩
      refine ⟨_, rfl, _, rfl, vh, hs, rfl, ih.to (Tk.same z1) _ _, Nat.le_trans fi.h4 (by decide), fun m1 G2 s2' _ hm1 => ?_⟩
      have z2 := z1.trans s2'
      refine ⟨vg, m1, gs, hs.map (·.1), rfl, ig.to (Tk.same z2) _ _, SqT.of (by rw [List.map_map]; exact hm1), fi.g1, fi.g4, (by rw [List.length_map]; have := fi.h4; omega), (by rw [← List.map_append]; exact fi.nd), (fun z hz => fi.nm z (List.mem_append_right _ hz)), (fun z hz => fi.bd z (List.mem_append_right _ hz)), fun q2 G3 s3' hq2 => ?_⟩
      exact ⟨_, tru_tup (SqT.of hq2), q' _ (z2.trans s3')⟩
    have ih2 := ih.to (Tk.same s2) _ _
    have ig2 := ig.to (Tk.same s2) _ _
    refine seq_ifNH (b := false) (fun G => Same H2 G) (fun Q' q' => ?_) (fun _ _ c => by cases c) (fun H3 s3 _ => ?_)
    · refine ⟨_, rfl, _, rfl, _, rfl, vh, vg, hs, gs, t, rfl, ih2, ig2, fi.short, fun G1 z1 => ?_⟩
      refine ⟨_, rfl, rfl, _, rfl, ?_⟩
      rw [decide_eq_true rfl]
      exact q' _ z1
    have ih3 := ih2.to (Tk.same s3) _ _
    have ig3 := ig2.to (Tk.same s3) _ _
    refine ⟨rfl, _, rfl, _, rfl, _, rfl, fun x dx hx hd hn => ?_⟩
    exact made ih3 ig3 fi hx hd hn fun H' s' fa => k x H' (s1.trans (s2.trans (s3.trans s'))) fa
end
end F02
namespace F02
open PySem PySem.Spec PyProof.Rows L2 MG SP CM ClX
section
variable {P : Program} {w : World} {K : PySem.W.Frag} {mg : Str → Option Value} {base : Heap} {C : Addr}
variable {p_hosts p_guests p_tables p_names f_hosts f_guests f_tables f_names f_len f_str f_has f_eq : Addr} {d_hosts d_guests d_tables d_names d_len d_str d_has d_eq : FuncData}
theorem FairAt.ins {H : Hp} {p : Addr} {hs gs : Side} {t : Option Int} (f : FairAt K C H p hs gs t) : ∃ dx fs, H p = some (.ins C dx fs) := by
  obtain ⟨dx, _, _, _, h, _⟩ := f
  exact ⟨dx, _, h⟩
theorem madeZ {H : Hp} {vh vg : V} {hs gs : Side} {t : Option Int} {Z : VK} {E : XK} {x dx : Addr} (h1 : Im K H vh (sideD hs)) (h2 : Im K H vg (sideD gs)) (fi : Fairish hs gs t) (hx : H x = none) (hd : H dx = none) (hn : dx ≠ x)
    (k : ∀ H', Same H H' → FairAt K C H' x hs gs t → Z .non H') : sp_init K C [.ref x, vh, vg, deskV t] (upd (upd H dx (.own x)) x (.ins C dx [])) Z E := by
  obtain ⟨p, dx', vh', vg', hs', gs', t', e, q1, q2, q3, q4, q5⟩ := made (C := C) (Q := fun _ H' => Z .non H') (E := E) h1 h2 fi hx hd hn k
  exact ⟨p, dx', vh', vg', hs', gs', t', e, q1, q2, q3, q4, fun n H' b u v => (q5 n H' b u v).2⟩
theorem rEq_same (T : TxC K mg C) {H : Hp} {p q : Addr} {hs gs : Side} {t : Option Int} {neg : Bool} {Q : VK} (f1 : FairAt K C H p hs gs t) (f2 : FairAt K C H q hs gs t) (k : Q (.bl (!neg)) H) : rEqOwn K C (sp_eq K C) E0 neg (.ref p) (.ref q) H Q := by
  obtain ⟨dx, fs, e⟩ := f1.ins
  obtain ⟨dx2, fs2, e2⟩ := f2.ins
  refine ⟨p, dx, fs, .ref C, rfl, e, T.ty e2, T.fC, p, .ref q, hs, gs, t, rfl, f1, .inl ⟨q, hs, gs, t, rfl, f2, _, rfl, ?_⟩⟩
  rw [decide_eq_true rfl]
  cases neg <;> exact k
theorem rEq_other {H : Hp} {p : Addr} {y : V} {u : Value} {hs gs : Side} {t : Option Int} {neg : Bool} {Q : VK} (f1 : FairAt K C H p hs gs t) (ty : TyX K H y u) (nf : PySem.W.notFirst K C u = true) (ku : PySem.W.kitOne K u (.ref C) = some false) (k : Q (.bl neg) H) :
    rEqOwn K C (sp_eq K C) E0 neg (.ref p) y H Q := by
  obtain ⟨dx, fs, e⟩ := f1.ins
  refine ⟨p, dx, fs, u, rfl, e, ty, nf, p, y, hs, gs, t, rfl, f1, .inr ⟨u, ty, ku, _, rfl, ?_⟩⟩
  cases neg <;> exact k
abbrev s_l_right : Stmt := top 33
abbrev NR : List Str := ["_law_jug_here", "_law_parts_here", "_law_page_here", "_law_here", "_law_back"]
theorem sc_l_right : FnScope NR ["_law_jug_here"] (defScope s_l_right) := ⟨rfl, rfl, rfl, by decide +kernel, rfl, by decide +kernel, by decide +kernel⟩
def sp_l_right : Sp := fun vs H Q _ => ∃ (p : Addr), vs = [.ref p] ∧ Jug H p 0 ∧ ∀ H', But p H H' → Q (.bl true) H'
structure TxR (K : PySem.W.Frag) (mg : Str → Option Value) (f_l_parts f_l_fair f_l_is_made f_l_page : Addr) : Prop where
  g_l_parts : mg "_law_parts" = some (.ref f_l_parts)
  k_l_parts : PySem.W.keepIn K (.ref f_l_parts) = true
  g_l_fair : mg "_law_fair" = some (.ref f_l_fair)
  k_l_fair : PySem.W.keepIn K (.ref f_l_fair) = true
  g_l_is_made : mg "_law_is_made" = some (.ref f_l_is_made)
  k_l_is_made : PySem.W.keepIn K (.ref f_l_is_made) = true
  g_l_page : mg "_law_page" = some (.ref f_l_page)
  k_l_page : PySem.W.keepIn K (.ref f_l_page) = true
theorem ok_l_right {f f_l_parts f_l_fair f_l_is_made f_l_page f_read p_read : Addr} {mc : Value} {fd fd_l_parts fd_l_fair fd_l_is_made fd_l_page d_read : FuncData} (F : Fun K "_law_right" "_law_right" s_l_right f fd) (T : TxC K mg C)
    (D : TxD K mg C p_hosts p_guests p_tables p_names f_hosts f_guests f_tables f_names f_len f_str f_has f_eq) (G : GD P w K mg base C f_hosts f_guests f_tables f_names f_len f_str f_has f_eq d_hosts d_guests d_tables d_names d_len d_str d_has d_eq)
    (R : TxR K mg f_l_parts f_l_fair f_l_is_made f_l_page) (cr : CRead K C mc) (cm : CMet K C mc "read" p_read f_read)
    (G_read : FnOk P w K mg base CX0 6 f_read d_read ["cls", "text"] (sp_read K C)) (b_read : Binds K d_read ["cls", "text"] []) (kb : KBn K d_read ["cls", "text"] 1 ["text"] (fun us ws => us ++ ws) (fun vs zs => vs ++ zs))
    (G_l_parts4 : FnOk P w K mg base CX0 4 f_l_parts fd_l_parts ["_law_jug_here", "_law_most_here", "_law_most_there"] (sp_l_parts K)) (b_l_parts : Binds K fd_l_parts ["_law_jug_here", "_law_most_here", "_law_most_there"] [])
    (G_l_fair : FnOk P w K mg base CX0 6 f_l_fair fd_l_fair ["_law_parts_here"] (sp_l_fair K C)) (b_l_fair : Binds K fd_l_fair ["_law_parts_here"] [])
    (G_l_is_made : FnG P w K mg base CX0 5 f_l_is_made fd_l_is_made ["_law_here", "_law_parts_here"] (sp_l_is_made K C)) (b_l_is_made : Binds K fd_l_is_made ["_law_here", "_law_parts_here"] [])
    (G_l_page1 : FnOk P w K mg base CX0 1 f_l_page fd_l_page ["_law_parts_here"] (sp_l_page K)) (b_l_page : Binds K fd_l_page ["_law_parts_here"] []) :
    FnG P w K mg base CX0 7 f fd ["_law_jug_here"] sp_l_right := by
  have G_l_parts := G_l_parts4.mono (show 4 ≤ 6 by decide)
  have G_l_page := G_l_page1.mono (show 1 ≤ 6 by decide)
  have G_str := G.str.mono (show 1 ≤ 4 by decide)
  have G_eq := G.eq.mono (show 1 ≤ 6 by decide)
  have G_ne := G.eq.mono (show 1 ≤ 5 by decide)
  have R_read := G_read.raw b_read .nil
  refine okG F sc_l_right (fun vs H Q E h => ?_) (fun cdv A outer s H vs Q E hgd hr h => ?_)
  · obtain ⟨p, rfl, _⟩ := h
    rfl
  · obtain ⟨p, rfl, J, k⟩ := h
    have hr5 := hr.mono (show 5 ≤ 6 by decide)
    refine ⟨_, (pss_cons (ps_set (i := 1) sc_l_right.nd rfl (Or.inl rfl) (pe_call G_l_parts hr rfl R.g_l_parts R.k_l_parts b_l_parts .nil pass0 (pa_cons (pv 0) (pa_cons pe_int (pa_cons pe_int pa_nil)))))
      (pss_cons (ps_par (i := 2) (j := 3) (by rfl) sc_l_right.nd rfl rfl (by decide) rfl rfl (pa_cons (pe_call G_l_page hr rfl R.g_l_page R.k_l_page b_l_page .nil pass0 (pa_cons (pv 1) pa_nil)) (pa_cons (pe_call G_l_fair hr rfl R.g_l_fair R.k_l_fair b_l_fair .nil pass0 (pa_cons (pv 1) pa_nil)) pa_nil)) (by rfl))
      (pss_cons (ps_for PassesOwn.never rfl (pi_list (pe_lst (pa_cons (pe_cmeth (pe_glob (v := .ref C) rfl T.g_Fair rfl) cr cm R_read hr pass0 (pa_cons (pv 2) pa_nil)) (pa_cons (pe_cmethK (pe_glob (v := .ref C) rfl T.g_Fair rfl) cr cm G_read hr kb pass0 (pk_cons (pv 2) pk_nil)) (pa_cons (pe_cmeth (pe_glob (v := .ref C) rfl T.g_Fair rfl) cr cm R_read hr pass0 (pa_cons (pe_callTy (call_strOwn G_str hr G.b_str pass0 D.i_str D.o_str) (by rfl) T.n_str (by decide +kernel) (pa_cons (pv 3) pa_nil)) pa_nil)) (pa_cons (pe_cmeth (pe_glob (v := .ref C) rfl T.g_Fair rfl) cr cm R_read hr pass0 (pa_cons (pe_callTy (call_strOwn G_str hr G.b_str pass0 D.i_str D.o_str) (by rfl) T.n_str (by decide +kernel) (pa_cons (pe_cmeth (pe_glob (v := .ref C) rfl T.g_Fair rfl) cr cm R_read hr pass0 (pa_cons (pv 2) pa_nil)) pa_nil)) pa_nil)) pa_nil)))))) (pg_name (i := 4) sc_l_right.nd rfl (Or.inl rfl))
        (pss_one (ps_if (PW.pt (pw_or (pt_not (pt_val (pe_callG G_l_is_made hgd hr5 rfl R.g_l_is_made R.k_l_is_made b_l_is_made .nil pass0 (pa_cons (pv 4) (pa_cons (pv 1) pa_nil))))) (pw_or (pt_not (pt_cmpR (op_eqOwn G_eq hr G.b_eq pass0 D.i_eq D.o_eq) (pv 4) (pv 3) (nomark _))) (pw_or (pt_not (pt_cmpR (op_eqOwn G_eq hr G.b_eq pass0 D.i_eq D.o_eq) (pv 3) (pv 4) (nomark _))) (pw_or1 (pt_cmpR (op_neOwn G_ne hr G.b_eq pass0 T.ne T.hm D.i_eq D.o_eq) (pv 4) (pv 3) (nomark _)))))))
        (pss_one ps_never)
        pss_nil)))
      (pss_one (ps_ret pe_bl))))), ?_⟩
    refine ⟨_, rfl, p, 4, 4, 0, rfl, J, by decide, by decide, by decide, by decide, by decide, fun v hs gs t H1 fi iv b1 j1 => ?_⟩
    refine nxt ?_
    dsimp only
    have tl := Nat.le_trans (text_len fi) (show 200 ≤ 1000 by decide)
    refine ⟨_, rfl, v, hs, gs, t, rfl, iv, fi.short, fun H2 s2 => ?_⟩
    have iv2 := iv.to (Tk.same s2) _ _
    refine ⟨_, rfl, v, hs, gs, t, rfl, iv2, fi, fun x0 H3 s3 fa0 => ⟨_, _, rfl, ?_⟩⟩
    have iv3 := iv2.to (Tk.same s3) _ _
    obtain ⟨dx0, fs0, e0⟩ := fa0.ins
    dsimp only
    refine ⟨rfl, _, rfl, hs, gs, t, rfl, fi, tl, fun x1 H4 s4 fa1 => ?_⟩
    refine ⟨rfl, _, rfl, rfl, hs, gs, t, rfl, fi, tl, fun x2 H5 s5 fa2 => ?_⟩
    have e05 := s5 _ _ (s4 _ _ e0)
    have fa05 := (fa0.same s4).same s5
    refine ⟨rfl, _, rfl, x0, dx0, fs0, rfl, e05, x0, hs, gs, t, rfl, fa05, _, rfl, hs, gs, t, rfl, fi, tl, fun x3 H6 s6 fa3 => ?_⟩
    refine ⟨rfl, rfl, _, rfl, hs, gs, t, rfl, fi, tl, fun y4 H7 s7 fb4 => ?_⟩
    obtain ⟨dx4, fs4, e4⟩ := fb4.ins
    refine ⟨y4, dx4, fs4, rfl, e4, y4, hs, gs, t, rfl, fb4, _, rfl, hs, gs, t, rfl, fi, tl, fun x4 H8 s8 fa4 => ?_⟩
    refine ⟨(by show 4 ≤ sizeLine; decide), fun q nq => ?_⟩
    have s9 := same_new (Same.refl H8) nq (o := .lst [.ref x1, .ref x2, .ref x3, .ref x4])
    have hq : (upd H8 q (.lst [.ref x1, .ref x2, .ref x3, .ref x4])) q = some (.lst [.ref x1, .ref x2, .ref x3, .ref x4]) := upd_same
    generalize upd H8 q (.lst [.ref x1, .ref x2, .ref x3, .ref x4]) = H9 at s9 hq ⊢
    have z89 := s8.trans s9
    have z79 := s7.trans z89
    have z69 := s6.trans z79
    have z59 := s5.trans z69
    have z49 := s4.trans z59
    have all4 : ∀ y ∈ [V.ref x1, V.ref x2, V.ref x3, V.ref x4], ∃ x, y = V.ref x ∧ FairAt K C H9 x hs gs t := fun y hy => by
      simp only [List.mem_cons, List.not_mem_nil, or_false] at hy
      rcases hy with rfl | rfl | rfl | rfl
      · exact ⟨_, rfl, fa1.same z59⟩
      · exact ⟨_, rfl, fa2.same z69⟩
      · exact ⟨_, rfl, fa3.same z79⟩
      · exact ⟨_, rfl, fa4.same s9⟩
    have fa09 := fa0.same z49
    have iv9 := iv3.to (Tk.same z49) _ _
    refine ⟨q, rfl, ⟨_, SqL.of hq⟩, ?_⟩
    refine for_list (xs := [V.ref x1, V.ref x2, V.ref x3, V.ref x4]) (fun i σ F => (∃ v4 : Option V, σ = [some (.ref p), some v, some (.str (textT hs gs t)), some (.ref x0), v4]) ∧ Same H9 F) ⟨⟨none, rfl⟩, Same.refl H9⟩ (fun i σ F _ z => SqL.of (z.2 _ _ hq)) ?_ ?_
    · rintro i y σ F hy ⟨⟨v4, rfl⟩, sF⟩
      obtain ⟨x, rfl, fa⟩ := all4 y (List.mem_of_getElem? hy)
      refine nxt ?_
      refine ⟨_, rfl, _, rfl, x, v, hs, gs, t, rfl, fa.same sF, iv9.to (Tk.same sF) _ _, fi, fun F1 g1 => ⟨true, rfl, iteF ?_⟩⟩
      have sF1 := sF.trans g1
      refine ⟨_, rfl, _, rfl, rEq_same T (fa.same sF1) (fa09.same sF1) ⟨_, rfl, iteF ?_⟩⟩
      refine ⟨_, rfl, _, rfl, rEq_same T (fa09.same sF1) (fa.same sF1) ⟨_, rfl, iteF ?_⟩⟩
      refine ⟨_, rfl, _, rfl, rEq_same T (fa.same sF1) (fa09.same sF1) ⟨_, rfl, iteF ?_⟩⟩
      exact ⟨⟨_, rfl⟩, sF1⟩
    · rintro σ F ⟨⟨v4, rfl⟩, sF⟩
      refine k F ?_
      exact b1.trans (But.same ((s2.trans s3).trans (z49.trans sF)))
end
end F02
namespace F02
open PySem PySem.Spec PyProof.Rows L2 MG SP
section
variable {P : Program} {w : World} {K : PySem.W.Frag} {mg : Str → Option Value} {base : Heap} {C : Addr}
abbrev s_law : Stmt := top 34
theorem sc_law : FnScope ["_law_script", "_law_at"] ["_law_script"] (defScope s_law) := ⟨rfl, rfl, rfl, by decide +kernel, rfl, by decide +kernel, by decide +kernel⟩
def sp_law (K : PySem.W.Frag) : Sp := fun vs H Q _ => ∃ (a : Addr) (ns : List Int), vs = [.ref a] ∧ SqL K H a (ns.map V.int) ∧ ns.length ≤ 63 ∧ ∀ H', Q (.bl true) H'
structure TxL (K : PySem.W.Frag) (mg : Str → Option Value) (f_l_right f_l_jug : Addr) : Prop where
  n_range : mg "range" = none
  n_max : mg "max" = none
  n_min : mg "min" = none
  n_len : mg "len" = none
  g_l_right : mg "_law_right" = some (.ref f_l_right)
  k_l_right : PySem.W.keepIn K (.ref f_l_right) = true
  g_l_jug : mg "_law_jug" = some (.ref f_l_jug)
  k_l_jug : PySem.W.keepIn K (.ref f_l_jug) = true
theorem ok_law {f f_l_right f_l_jug : Addr} {fd fd_l_right fd_l_jug : FuncData} (F : Fun K "law" "law" s_law f fd) (T : TxL K mg f_l_right f_l_jug)
    (G_l_right : FnG P w K mg base CX0 7 f_l_right fd_l_right ["_law_jug_here"] sp_l_right) (b_l_right : Binds K fd_l_right ["_law_jug_here"] [])
    (G_l_jug1 : FnOk P w K mg base CX0 1 f_l_jug fd_l_jug ["_law_script", "_law_at"] (sp_l_jug K)) (b_l_jug : Binds K fd_l_jug ["_law_script", "_law_at"] []) :
    FnG P w K mg base CX0 8 f fd ["_law_script"] (sp_law K) := by
  have G_l_jug := G_l_jug1.mono (show 1 ≤ 7 by decide)
  refine okG F sc_law (fun vs H Q E h => ?_) (fun cdv A outer s H vs Q E hgd hr h => ?_)
  · obtain ⟨a, ns, rfl, _⟩ := h
    rfl
  · obtain ⟨a, ns, rfl, ha, hl, k⟩ := h
    refine ⟨_, (pss_cons (ps_for PassesOwn.never rfl (pi_range1 rfl T.n_range (pa_cons (pe_callB (call_max2 rfl) (by rfl) T.n_max (by decide +kernel) (pa_cons pe_int (pa_cons (pe_callB (call_min2 rfl) (by rfl) T.n_min (by decide +kernel) (pa_cons (pe_callB call_len_seq (by rfl) T.n_len PySem.boot_len (pa_cons (pv 0) pa_nil)) (pa_cons pe_int pa_nil))) pa_nil))) pa_nil)) (pg_name (i := 1) sc_law.nd rfl (Or.inl rfl))
        (pss_one (ps_if (pt_not (pt_val (pe_callG G_l_right hgd hr rfl T.g_l_right T.k_l_right b_l_right .nil pass0 (pa_cons (pe_call G_l_jug hr rfl T.g_l_jug T.k_l_jug b_l_jug .nil pass0 (pa_cons (pv 0) (pa_cons (pv 1) pa_nil))) pa_nil))))
        (pss_one ps_never)
        pss_nil)))
      (pss_one (ps_ret pe_bl))), ?_⟩
    have top6 : ∀ n : Int, 0 ≤ n → 2 ≤ (if (if (6 : Int) < n then (6 : Int) else n) > 2 then (if (6 : Int) < n then (6 : Int) else n) else 2) ∧ (if (if (6 : Int) < n then (6 : Int) else n) > 2 then (if (6 : Int) < n then (6 : Int) else n) else 2) ≤ 6 := fun n hn => by
      split <;> split <;> omega
    obtain ⟨j2, j5⟩ := top6 (((ns.map V.int).length : Nat) : Int) (by omega)
    refine ⟨_, rfl, a, _, rfl, .inl ha, _, _, rfl, _, _, rfl, _, rfl, by omega, by omega, ?_⟩
    generalize (if (if (6 : Int) < (((ns.map V.int).length : Nat) : Int) then (6 : Int) else (((ns.map V.int).length : Nat) : Int)) > 2 then (if (6 : Int) < (((ns.map V.int).length : Nat) : Int) then (6 : Int) else (((ns.map V.int).length : Nat) : Int)) else 2) = j at j2 j5 ⊢
    refine for_range (lo := 0) (n := j.toNat) (fun i σ G => (∃ v : Option V, σ = [some (.ref a), v]) ∧ Same H G) ⟨⟨none, rfl⟩, Same.refl H⟩ ?_ ?_
    · rintro i σ G hi ⟨⟨v, rfl⟩, sG⟩
      refine nxt ?_
      refine ⟨_, rfl, _, rfl, a, ns, _, rfl, sG.seq ha, hl, by omega, by omega, fun p G1 s1 np j1 => ?_⟩
      refine ⟨p, rfl, j1, fun G2 b2 => ⟨true, rfl, iteF ?_⟩⟩
      exact ⟨⟨_, rfl⟩, sG.trans fun b o e => b2 b o (ne_of_none e np) (s1 _ _ e)⟩
    · rintro σ G ⟨⟨v, rfl⟩, sG⟩
      exact k _
end
end F02
namespace TopG
open PySem PySem.Spec PyProof.Rows L2 MG
section
variable {P : Program} {w : World} {K : PySem.W.Frag} {mg mb : Str → Option Value}
variable {k : Nat} {fa a : Addr} {fd : FuncData} {x : Str} {sp : Sp} {s₁ : Shared}
variable {vs : List Value} {ns : List Int}
/-- what stands at the law's call, from a view H in which at most the script is tracked -/
theorem env_top {H : Hp} (KX : K.In s₁.heap) (hns : s₁.heap.Ns mainGlobals mg)
    (hb : s₁.heap.Ns builtinsNs mb) (hbb : ∀ x : Str, x ≠ "__name__" → mb x = bootBuiltins x)
    (hlim : s₁.heap.NoLimit) (hg : s₁.gens = #[])
    (ha : s₁.heap.get? a = some { cls := .type "list", data := .seq vs.toArray })
    (hok : HOk P w H s₁.heap) (one : ∀ b, b ≠ a → H b = none)
    (own : H a ≠ none → K.lookup a = none) :
    K.In (hidT s₁.heap H) ∧ (hidT s₁.heap H).Ns mainGlobals mg ∧
      Env0 P w K mg (hidT s₁.heap H) callerA [] s₁ H := by
  have seqA : ∀ (b : Addr) (o : Obj) (es : Array DictEntry) (ep : Nat),
      s₁.heap.get? b = some o → o.data = .dict es ep → H b = none := by
    intro b o es ep e d
    refine one b fun q => ?_
    rw [q, ha] at e
    obtain rfl := Option.some.inj e
    exact nomatch (show Data.seq vs.toArray _ = Data.dict es ep from d)
  have ns1 : ∀ (b : Addr) (m : Str → Option Value),
      s₁.heap.Ns b m → (hidT s₁.heap H).Ns b m := by
    rintro b m ⟨o, es, ep, e, d, r⟩
    exact ⟨o, es, ep, hidT_get e (seqA b o es ep e d), d, r⟩
  have kin : K.In (hidT s₁.heap H) := by
    intro b o e
    refine hidT_get (KX b o e) ?_
    by_cases hb : b = a
    · subst hb
      by_cases hn : H b = none
      · exact hn
      · rw [own hn] at e
        exact nomatch e
    · exact one b hb
  obtain ⟨mc, c1, c2⟩ := hlim
  have md : Mod K mg (hidT s₁.heap H) :=
    ⟨kin, ns1 _ _ hns, ⟨mb, ns1 _ _ hb, hbb⟩, mc, ns1 _ _ c1, c2⟩
  exact ⟨kin, ns1 _ _ hns, rfl, md, fun b o e => of_hidT e,
    Nat.le_of_eq (hidT_size _ _), trivial, (fun b hb => nomatch hb), hok, .of_eq hg⟩
/-- the law's def, called from the top -/
theorem run_top {H : Hp} (KX : K.In s₁.heap) (hns : s₁.heap.Ns mainGlobals mg)
    (hb : s₁.heap.Ns builtinsNs mb) (hbb : ∀ x : Str, x ≠ "__name__" → mb x = bootBuiltins x)
    (hlim : s₁.heap.NoLimit) (hg : s₁.gens = #[])
    (ha : s₁.heap.get? a = some { cls := .type "list", data := .seq vs.toArray })
    (hok : HOk P w H s₁.heap) (one : ∀ b, b ≠ a → H b = none)
    (own : H a ≠ none → K.lookup a = none) (frz : ∀ b, H b = none ∨ ∃ o xs, H b = some (.frz o (.lst xs)))
    (hr : Room k callerA)
    (F : ∀ base : Heap, K.In base → base.Ns mainGlobals mg →
      FnG P w K mg base CX0 k fa fd [x] sp)
    (hbind : ∀ (s : Shared) (u : Value), BindsTo s fd ⟨[u], []⟩ [(x, u)])
    (hsp : sp [.ref a] H (fun v _ => v = .bl true) fun _ _ _ => False) :
    codeAny (model P w) callerA (.call (.ref fa) ⟨[.ref a], []⟩)
      (fun r s' => r = .ok (.ret (.bool true)) ∧ OldK s₁.heap s'.heap ∧
        s'.os = s₁.os ∧ AllBare s'.gens) s₁ := by
  obtain ⟨kin, nsm, e0⟩ := env_top KX hns hb hbb hlim hg ha hok one own
  have run := (F _ kin nsm).run callerA [] s₁ H ⟨[.ref a], []⟩ [.ref a] [.ref a] _ _ rfl hr e0
    (hbind s₁ (.ref a)) (.cons rfl .nil) hsp
  refine codeAny_mono run fun r s' h => ?_
  match r, h with
  | .error e, h => exact h.elim
  | .ok (.ret u), h =>
    obtain ⟨v, H', os, bare, un, hok', ru, ev⟩ := h
    have ev' : v = .bl true := ev
    subst ev'
    obtain rfl : u = Value.bool true := ru
    refine ⟨rfl, OldK.of_keep (fun b o e => ?_), os, bare⟩
    rcases frz b with z | ⟨ob, xs, z⟩
    · exact un.keep b o e z (fun m => nomatch m) (fun m => nomatch m)
    · obtain ⟨e1, _⟩ := hok b _ z
      obtain ⟨e2, _⟩ := hok' b _ (un.frzs b ob _ z)
      rw [e1] at e
      obtain rfl := Option.some.inj e
      exact e2
/-- the script is tracked, unless it is one of the module's own objects -/
theorem call_top (KX : K.In s₁.heap) (hns : s₁.heap.Ns mainGlobals mg)
    (hb : s₁.heap.Ns builtinsNs mb) (hbb : ∀ x : Str, x ≠ "__name__" → mb x = bootBuiltins x)
    (hlim : s₁.heap.NoLimit) (hg : s₁.gens = #[])
    (ha : s₁.heap.get? a = some { cls := .type "list", data := .seq vs.toArray })
    (hi : IntsAre vs ns) (hl : ns.length ≤ sizeLine) (hr : Room k callerA)
    (F : ∀ base : Heap, K.In base → base.Ns mainGlobals mg →
      FnG P w K mg base CX0 k fa fd [x] sp)
    (hbind : ∀ (s : Shared) (u : Value), BindsTo s fd ⟨[u], []⟩ [(x, u)])
    (hsp : ∀ H : Hp, SqL K H a (ns.map V.int) →
      sp [.ref a] H (fun v _ => v = .bl true) fun _ _ _ => False) :
    codeAny (model P w) callerA (.call (.ref fa) ⟨[.ref a], []⟩)
      (fun r s' => r = .ok (.ret (.bool true)) ∧ OldK s₁.heap s'.heap ∧
        s'.os = s₁.os ∧ AllBare s'.gens) s₁ := by
  have vi := vals_ints hi
  have lv := hi.length
  cases hk : K.lookup a with
  | some o =>
    have e := KX a o hk
    rw [ha] at e
    obtain rfl := Option.some.inj e
    have sq : SqL K (fun _ => none) a (ns.map V.int) :=
      .inr ⟨_, vs.toArray, _, hk, rfl, rfl, rfl, by rw [List.size_toArray, lv]; exact hl, vi⟩
    exact run_top (H := fun _ => none) KX hns hb hbb hlim hg ha (fun b u z => nomatch z)
      (fun _ _ => rfl) (fun z => absurd rfl z) (fun _ => .inl rfl) hr F hbind (hsp _ sq)
  | none =>
    let o : Obj := { cls := .type "list", data := .seq vs.toArray }
    let H : Hp := fun b => if b = a then some (.frz o (.lst (ns.map V.int))) else none
    have Ha : H a = some (.frz o (.lst (ns.map V.int))) := if_pos rfl
    have Hn : ∀ b, b ≠ a → H b = none := fun b hb => if_neg hb
    refine run_top (H := H) KX hns hb hbb hlim hg ha (fun b u z => ?_) Hn (fun _ => hk)
      (fun b => ?_) hr F hbind (hsp H (.inl (.inr ⟨o, Ha⟩)))
    · by_cases hba : b = a
      · subst hba
        rw [Ha] at z
        obtain rfl := Option.some.inj z
        exact ⟨ha, by rw [List.length_map]; exact hl, vs, _, vi, ha⟩
      · rw [Hn b hba] at z
        exact nomatch z
    · by_cases hba : b = a
      · subst hba
        exact .inr ⟨_, _, Ha⟩
      · exact .inl (Hn b hba)
end
/-- the goal that the head leaves, from the law's promise -/
theorem walkG {l : PySem.W.OpenLaw} {n k : Nat} {q : Program} {loose : List Str}
    {XP : (Str → Option Value) → Heap → Prop} {YP : World → Heap → Prop} {d : DefRec}
    {K : Params → PySem.W.Frag} {sp : PySem.W.Frag → Sp} {x : Str}
    (hn : l.most = some n) (hn2 : n ≤ sizeLine) (hdf : d.params.defaults = [])
    (hr : Room k callerA) (hY : ∀ (w : World) (h : Heap), YP w h → (K w.params).In h)
    (F : ∀ (w : World) (mg : Str → Option Value) (fa : Addr) (h : Heap),
      (K w.params).In h → h.Ns mainGlobals mg → mg d.name = some (.ref fa) →
      ∃ fd : FuncData, (∀ (s : Shared) (u : Value), BindsTo s fd ⟨[u], []⟩ [(x, u)]) ∧
        ∀ base : Heap, (K w.params).In base → base.Ns mainGlobals mg →
          FnG l.prog w (K w.params) mg base CX0 k fa fd [x] (sp (K w.params)))
    (hsp : ∀ (K : PySem.W.Frag) (H : Hp) (a : Addr) (ns : List Int), ns.length ≤ n →
      SqL K H a (ns.map V.int) →
      sp K [.ref a] H (fun v _ => v = .bl true) fun _ _ _ => False) :
    PySem.W.WalkO q loose XP YP l.row.toRowW d [] (fun f vs => PySem.call f vs) := by
  refine Att.attach_call hn hdf ?_
  intro w s₀ s₁ mg mb fa o pm cd doc a vs ns G Y ho hd hcd hmg hobj hints hlen hg
  have KX := hY w _ Y
  obtain ⟨fd, hb, hF⟩ := F w mg fa _ KX G.T.g hmg
  exact call_top KX G.T.g G.T.b G.T.builtins G.T.nolimit hg hobj hints
    (Nat.le_trans hlen hn2) hr hF hb (fun H hS => hsp _ H a ns hlen hS)
end TopG
namespace F02
open PySem PySem.Spec PyProof.Rows L2 MG SP CM ClX
theorem all_mk {l : PySem.W.OpenLaw} {w : World} {K : PySem.W.Frag} {h : Heap} {mg : Str → Option Value} {fa C : Addr} (X : K.In h) (G : h.Ns mainGlobals mg) (hfa : mg "law" = some (.ref fa))
    {f_is_integer f_is_name f_is_pair f_is_member f_fault f_names_of f_text_of f_number f_parts_of f_l_jug f_l_pour f_l_word f_l_words f_l_parts f_l_fair f_l_page f_l_is_made f_l_right f_law dI f_init dT f_len f_str f_has f_eq p_hosts f_hosts p_guests f_guests p_tables f_tables p_names f_names p_read f_read : Addr}
    {odT odI od_is_integer an_is_integer od_is_name an_is_name od_is_pair an_is_pair od_is_member an_is_member od_fault an_fault od_names_of an_names_of od_text_of an_text_of od_number an_number od_parts_of an_parts_of od_l_jug an_l_jug od_l_pour an_l_pour od_l_word an_l_word od_l_words an_l_words od_l_parts an_l_parts od_l_fair an_l_fair od_l_page an_l_page od_l_is_made an_l_is_made od_l_right an_l_right od_law an_law od_init an_init od_len an_len od_str an_str od_has an_has od_eq an_eq od_hosts an_hosts od_guests an_guests od_tables an_tables od_names an_names od_read an_read : Option Addr} {slT slI sl_is_integer sl_is_name sl_is_pair sl_is_member sl_fault sl_names_of sl_text_of sl_number sl_parts_of sl_l_jug sl_l_pour sl_l_word sl_l_words sl_l_parts sl_l_fair sl_l_page sl_l_is_made sl_l_right sl_law sl_init sl_len sl_str sl_has sl_eq sl_hosts sl_guests sl_tables sl_names sl_read : Array (Option Value)}
    {ocT ocI oc_is_integer kV_is_integer dc_is_integer pm_is_integer cd_is_integer ct_is_integer oc_is_name kV_is_name dc_is_name pm_is_name cd_is_name ct_is_name oc_is_pair kV_is_pair dc_is_pair pm_is_pair cd_is_pair ct_is_pair oc_is_member kV_is_member dc_is_member pm_is_member cd_is_member ct_is_member oc_fault kV_fault dc_fault pm_fault cd_fault ct_fault oc_names_of kV_names_of dc_names_of pm_names_of cd_names_of ct_names_of oc_text_of kV_text_of dc_text_of pm_text_of cd_text_of ct_text_of oc_number kV_number dc_number pm_number cd_number ct_number oc_parts_of kV_parts_of dc_parts_of pm_parts_of cd_parts_of ct_parts_of oc_l_jug kV_l_jug dc_l_jug pm_l_jug cd_l_jug ct_l_jug oc_l_pour kV_l_pour dc_l_pour pm_l_pour cd_l_pour ct_l_pour oc_l_word kV_l_word dc_l_word pm_l_word cd_l_word ct_l_word oc_l_words kV_l_words dc_l_words pm_l_words cd_l_words ct_l_words oc_l_parts kV_l_parts dc_l_parts pm_l_parts cd_l_parts ct_l_parts oc_l_fair kV_l_fair dc_l_fair pm_l_fair cd_l_fair ct_l_fair oc_l_page kV_l_page dc_l_page pm_l_page cd_l_page ct_l_page oc_l_is_made kV_l_is_made dc_l_is_made pm_l_is_made cd_l_is_made ct_l_is_made oc_l_right kV_l_right dc_l_right pm_l_right cd_l_right ct_l_right oc_law kV_law dc_law pm_law cd_law ct_law oc_init kV_init dc_init pm_init cd_init ct_init oc_len kV_len dc_len pm_len cd_len ct_len oc_str kV_str dc_str pm_str cd_str ct_str oc_has kV_has dc_has pm_has cd_has ct_has oc_eq kV_eq dc_eq pm_eq cd_eq ct_eq oc_hosts kV_hosts dc_hosts pm_hosts cd_hosts ct_hosts oc_guests kV_guests dc_guests pm_guests cd_guests ct_guests oc_tables kV_tables dc_tables pm_tables cd_tables ct_tables oc_names kV_names dc_names pm_names cd_names ct_names oc_read kV_read dc_read pm_read cd_read ct_read : Value} {nT nI : Nat} {rest_hosts rest_guests rest_tables rest_names rest_read : List Value} {tkMOST_SIDE tkMOST_BOUND tkMOST_TABLES tk_LONGEST_NAME tk_FIRST_SIGNS tk_SIGNS : Tok}
    (aC : PySem.W.nsIn K mainGlobals "Fair" = some (some (.ref C)))
    (a_is_integer : PySem.W.nsIn K mainGlobals "is_integer" = some (some (.ref f_is_integer)))
    (l_is_integer : K.lookup f_is_integer = some ⟨oc_is_integer, od_is_integer, .func (PySem.W.fnOf "is_integer" "is_integer" (defArgs s_is_integer) (defBody s_is_integer) (defScope s_is_integer) (.ref dI) kV_is_integer dc_is_integer pm_is_integer an_is_integer cd_is_integer ct_is_integer), sl_is_integer⟩)
    (c_is_integer : PySem.W.codeIn K cd_is_integer "is_integer" = true)
    (k_is_integer : PySem.W.keepIn K (.ref f_is_integer) = true)
    (a_is_name : PySem.W.nsIn K mainGlobals "is_name" = some (some (.ref f_is_name)))
    (l_is_name : K.lookup f_is_name = some ⟨oc_is_name, od_is_name, .func (PySem.W.fnOf "is_name" "is_name" (defArgs s_is_name) (defBody s_is_name) (defScope s_is_name) .none kV_is_name dc_is_name pm_is_name an_is_name cd_is_name ct_is_name), sl_is_name⟩)
    (c_is_name : PySem.W.codeIn K cd_is_name "is_name" = true)
    (k_is_name : PySem.W.keepIn K (.ref f_is_name) = true)
    (a_is_pair : PySem.W.nsIn K mainGlobals "is_pair" = some (some (.ref f_is_pair)))
    (l_is_pair : K.lookup f_is_pair = some ⟨oc_is_pair, od_is_pair, .func (PySem.W.fnOf "is_pair" "is_pair" (defArgs s_is_pair) (defBody s_is_pair) (defScope s_is_pair) .none kV_is_pair dc_is_pair pm_is_pair an_is_pair cd_is_pair ct_is_pair), sl_is_pair⟩)
    (c_is_pair : PySem.W.codeIn K cd_is_pair "is_pair" = true)
    (k_is_pair : PySem.W.keepIn K (.ref f_is_pair) = true)
    (a_is_member : PySem.W.nsIn K mainGlobals "_is_member" = some (some (.ref f_is_member)))
    (l_is_member : K.lookup f_is_member = some ⟨oc_is_member, od_is_member, .func (PySem.W.fnOf "_is_member" "_is_member" (defArgs s_is_member) (defBody s_is_member) (defScope s_is_member) .none kV_is_member dc_is_member pm_is_member an_is_member cd_is_member ct_is_member), sl_is_member⟩)
    (c_is_member : PySem.W.codeIn K cd_is_member "_is_member" = true)
    (k_is_member : PySem.W.keepIn K (.ref f_is_member) = true)
    (a_fault : PySem.W.nsIn K mainGlobals "_fault" = some (some (.ref f_fault)))
    (l_fault : K.lookup f_fault = some ⟨oc_fault, od_fault, .func (PySem.W.fnOf "_fault" "_fault" (defArgs s_fault) (defBody s_fault) (defScope s_fault) .none kV_fault dc_fault pm_fault an_fault cd_fault ct_fault), sl_fault⟩)
    (c_fault : PySem.W.codeIn K cd_fault "_fault" = true)
    (k_fault : PySem.W.keepIn K (.ref f_fault) = true)
    (a_names_of : PySem.W.nsIn K mainGlobals "_names_of" = some (some (.ref f_names_of)))
    (l_names_of : K.lookup f_names_of = some ⟨oc_names_of, od_names_of, .func (PySem.W.fnOf "_names_of" "_names_of" (defArgs s_names_of) (defBody s_names_of) (defScope s_names_of) .none kV_names_of dc_names_of pm_names_of an_names_of cd_names_of ct_names_of), sl_names_of⟩)
    (c_names_of : PySem.W.codeIn K cd_names_of "_names_of" = true)
    (k_names_of : PySem.W.keepIn K (.ref f_names_of) = true)
    (a_text_of : PySem.W.nsIn K mainGlobals "_text_of" = some (some (.ref f_text_of)))
    (l_text_of : K.lookup f_text_of = some ⟨oc_text_of, od_text_of, .func (PySem.W.fnOf "_text_of" "_text_of" (defArgs s_text_of) (defBody s_text_of) (defScope s_text_of) .none kV_text_of dc_text_of pm_text_of an_text_of cd_text_of ct_text_of), sl_text_of⟩)
    (c_text_of : PySem.W.codeIn K cd_text_of "_text_of" = true)
    (k_text_of : PySem.W.keepIn K (.ref f_text_of) = true)
    (a_number : PySem.W.nsIn K mainGlobals "_number" = some (some (.ref f_number)))
    (l_number : K.lookup f_number = some ⟨oc_number, od_number, .func (PySem.W.fnOf "_number" "_number" (defArgs s_number) (defBody s_number) (defScope s_number) .none kV_number dc_number pm_number an_number cd_number ct_number), sl_number⟩)
    (c_number : PySem.W.codeIn K cd_number "_number" = true)
    (k_number : PySem.W.keepIn K (.ref f_number) = true)
    (a_parts_of : PySem.W.nsIn K mainGlobals "_parts_of" = some (some (.ref f_parts_of)))
    (l_parts_of : K.lookup f_parts_of = some ⟨oc_parts_of, od_parts_of, .func (PySem.W.fnOf "_parts_of" "_parts_of" (defArgs s_parts_of) (defBody s_parts_of) (defScope s_parts_of) .none kV_parts_of dc_parts_of pm_parts_of an_parts_of cd_parts_of ct_parts_of), sl_parts_of⟩)
    (c_parts_of : PySem.W.codeIn K cd_parts_of "_parts_of" = true)
    (k_parts_of : PySem.W.keepIn K (.ref f_parts_of) = true)
    (a_l_jug : PySem.W.nsIn K mainGlobals "_law_jug" = some (some (.ref f_l_jug)))
    (l_l_jug : K.lookup f_l_jug = some ⟨oc_l_jug, od_l_jug, .func (PySem.W.fnOf "_law_jug" "_law_jug" (defArgs s_l_jug) (defBody s_l_jug) (defScope s_l_jug) .none kV_l_jug dc_l_jug pm_l_jug an_l_jug cd_l_jug ct_l_jug), sl_l_jug⟩)
    (c_l_jug : PySem.W.codeIn K cd_l_jug "_law_jug" = true)
    (k_l_jug : PySem.W.keepIn K (.ref f_l_jug) = true)
    (a_l_pour : PySem.W.nsIn K mainGlobals "_law_pour" = some (some (.ref f_l_pour)))
    (l_l_pour : K.lookup f_l_pour = some ⟨oc_l_pour, od_l_pour, .func (PySem.W.fnOf "_law_pour" "_law_pour" (defArgs s_l_pour) (defBody s_l_pour) (defScope s_l_pour) .none kV_l_pour dc_l_pour pm_l_pour an_l_pour cd_l_pour ct_l_pour), sl_l_pour⟩)
    (c_l_pour : PySem.W.codeIn K cd_l_pour "_law_pour" = true)
    (k_l_pour : PySem.W.keepIn K (.ref f_l_pour) = true)
    (a_l_word : PySem.W.nsIn K mainGlobals "_law_word" = some (some (.ref f_l_word)))
    (l_l_word : K.lookup f_l_word = some ⟨oc_l_word, od_l_word, .func (PySem.W.fnOf "_law_word" "_law_word" (defArgs s_l_word) (defBody s_l_word) (defScope s_l_word) .none kV_l_word dc_l_word pm_l_word an_l_word cd_l_word ct_l_word), sl_l_word⟩)
    (c_l_word : PySem.W.codeIn K cd_l_word "_law_word" = true)
    (k_l_word : PySem.W.keepIn K (.ref f_l_word) = true)
    (a_l_words : PySem.W.nsIn K mainGlobals "_law_words" = some (some (.ref f_l_words)))
    (l_l_words : K.lookup f_l_words = some ⟨oc_l_words, od_l_words, .func (PySem.W.fnOf "_law_words" "_law_words" (defArgs s_l_words) (defBody s_l_words) (defScope s_l_words) .none kV_l_words dc_l_words pm_l_words an_l_words cd_l_words ct_l_words), sl_l_words⟩)
    (c_l_words : PySem.W.codeIn K cd_l_words "_law_words" = true)
    (k_l_words : PySem.W.keepIn K (.ref f_l_words) = true)
    (a_l_parts : PySem.W.nsIn K mainGlobals "_law_parts" = some (some (.ref f_l_parts)))
    (l_l_parts : K.lookup f_l_parts = some ⟨oc_l_parts, od_l_parts, .func (PySem.W.fnOf "_law_parts" "_law_parts" (defArgs s_l_parts) (defBody s_l_parts) (defScope s_l_parts) .none kV_l_parts dc_l_parts pm_l_parts an_l_parts cd_l_parts ct_l_parts), sl_l_parts⟩)
    (c_l_parts : PySem.W.codeIn K cd_l_parts "_law_parts" = true)
    (k_l_parts : PySem.W.keepIn K (.ref f_l_parts) = true)
    (a_l_fair : PySem.W.nsIn K mainGlobals "_law_fair" = some (some (.ref f_l_fair)))
    (l_l_fair : K.lookup f_l_fair = some ⟨oc_l_fair, od_l_fair, .func (PySem.W.fnOf "_law_fair" "_law_fair" (defArgs s_l_fair) (defBody s_l_fair) (defScope s_l_fair) .none kV_l_fair dc_l_fair pm_l_fair an_l_fair cd_l_fair ct_l_fair), sl_l_fair⟩)
    (c_l_fair : PySem.W.codeIn K cd_l_fair "_law_fair" = true)
    (k_l_fair : PySem.W.keepIn K (.ref f_l_fair) = true)
    (a_l_page : PySem.W.nsIn K mainGlobals "_law_page" = some (some (.ref f_l_page)))
    (l_l_page : K.lookup f_l_page = some ⟨oc_l_page, od_l_page, .func (PySem.W.fnOf "_law_page" "_law_page" (defArgs s_l_page) (defBody s_l_page) (defScope s_l_page) .none kV_l_page dc_l_page pm_l_page an_l_page cd_l_page ct_l_page), sl_l_page⟩)
    (c_l_page : PySem.W.codeIn K cd_l_page "_law_page" = true)
    (k_l_page : PySem.W.keepIn K (.ref f_l_page) = true)
    (a_l_is_made : PySem.W.nsIn K mainGlobals "_law_is_made" = some (some (.ref f_l_is_made)))
    (l_l_is_made : K.lookup f_l_is_made = some ⟨oc_l_is_made, od_l_is_made, .func (PySem.W.fnOf "_law_is_made" "_law_is_made" (defArgs s_l_is_made) (defBody s_l_is_made) (defScope s_l_is_made) .none kV_l_is_made dc_l_is_made pm_l_is_made an_l_is_made cd_l_is_made ct_l_is_made), sl_l_is_made⟩)
    (c_l_is_made : PySem.W.codeIn K cd_l_is_made "_law_is_made" = true)
    (k_l_is_made : PySem.W.keepIn K (.ref f_l_is_made) = true)
    (a_l_right : PySem.W.nsIn K mainGlobals "_law_right" = some (some (.ref f_l_right)))
    (l_l_right : K.lookup f_l_right = some ⟨oc_l_right, od_l_right, .func (PySem.W.fnOf "_law_right" "_law_right" (defArgs s_l_right) (defBody s_l_right) (defScope s_l_right) .none kV_l_right dc_l_right pm_l_right an_l_right cd_l_right ct_l_right), sl_l_right⟩)
    (c_l_right : PySem.W.codeIn K cd_l_right "_law_right" = true)
    (k_l_right : PySem.W.keepIn K (.ref f_l_right) = true)
    (a_law : PySem.W.nsIn K mainGlobals "law" = some (some (.ref f_law)))
    (l_law : K.lookup f_law = some ⟨oc_law, od_law, .func (PySem.W.fnOf "law" "law" (defArgs s_law) (defBody s_law) (defScope s_law) .none kV_law dc_law pm_law an_law cd_law ct_law), sl_law⟩)
    (c_law : PySem.W.codeIn K cd_law "law" = true)
    (k_law : PySem.W.keepIn K (.ref f_law) = true)
    (lI : K.lookup dI = some ⟨ocI, odI, .seq #[Value.none] nI, slI⟩)
    (a_init : PySem.W.findIn K (.ref C) "__init__" = some (some (.ref f_init)))
    (i_init : PySem.W.isFn K (.ref f_init) = true)
    (l_init : K.lookup f_init = some ⟨oc_init, od_init, .func (PySem.W.fnOf "__init__" "Fair.__init__" (defArgs s_init) (defBody s_init) (defScope s_init) (.ref dT) kV_init dc_init pm_init an_init cd_init ct_init), sl_init⟩)
    (c_init : PySem.W.codeIn K cd_init "Fair.__init__" = true)
    (k_init : PySem.W.keepIn K (.ref f_init) = true)
    (lT : K.lookup dT = some ⟨ocT, odT, .seq #[Value.none] nT, slT⟩)
    (a_len : PySem.W.findIn K (.ref C) "__len__" = some (some (.ref f_len)))
    (i_len : PySem.W.isFn K (.ref f_len) = true)
    (l_len : K.lookup f_len = some ⟨oc_len, od_len, .func (PySem.W.fnOf "__len__" "Fair.__len__" (defArgs s_len) (defBody s_len) (defScope s_len) .none kV_len dc_len pm_len an_len cd_len ct_len), sl_len⟩)
    (c_len : PySem.W.codeIn K cd_len "Fair.__len__" = true)
    (k_len : PySem.W.keepIn K (.ref f_len) = true)
    (a_str : PySem.W.findIn K (.ref C) "__str__" = some (some (.ref f_str)))
    (i_str : PySem.W.isFn K (.ref f_str) = true)
    (l_str : K.lookup f_str = some ⟨oc_str, od_str, .func (PySem.W.fnOf "__str__" "Fair.__str__" (defArgs s_str) (defBody s_str) (defScope s_str) .none kV_str dc_str pm_str an_str cd_str ct_str), sl_str⟩)
    (c_str : PySem.W.codeIn K cd_str "Fair.__str__" = true)
    (k_str : PySem.W.keepIn K (.ref f_str) = true)
    (a_has : PySem.W.findIn K (.ref C) "__contains__" = some (some (.ref f_has)))
    (i_has : PySem.W.isFn K (.ref f_has) = true)
    (l_has : K.lookup f_has = some ⟨oc_has, od_has, .func (PySem.W.fnOf "__contains__" "Fair.__contains__" (defArgs s_has) (defBody s_has) (defScope s_has) .none kV_has dc_has pm_has an_has cd_has ct_has), sl_has⟩)
    (c_has : PySem.W.codeIn K cd_has "Fair.__contains__" = true)
    (k_has : PySem.W.keepIn K (.ref f_has) = true)
    (a_eq : PySem.W.findIn K (.ref C) "__eq__" = some (some (.ref f_eq)))
    (i_eq : PySem.W.isFn K (.ref f_eq) = true)
    (l_eq : K.lookup f_eq = some ⟨oc_eq, od_eq, .func (PySem.W.fnOf "__eq__" "Fair.__eq__" (defArgs s_eq) (defBody s_eq) (defScope s_eq) .none kV_eq dc_eq pm_eq an_eq cd_eq ct_eq), sl_eq⟩)
    (c_eq : PySem.W.codeIn K cd_eq "Fair.__eq__" = true)
    (k_eq : PySem.W.keepIn K (.ref f_eq) = true)
    (a_hosts : PySem.W.findIn K (.ref C) "hosts" = some (some (.ref p_hosts)))
    (g_hosts : PySem.W.specialIn K (.ref p_hosts) "__get__" = some (some (.builtin "property.__get__")))
    (t_hosts : PySem.W.takesIn K (.ref p_hosts) = some true)
    (r_hosts : PySem.W.recIn K p_hosts "property" = some (.ref f_hosts :: rest_hosts))
    (l_hosts : K.lookup f_hosts = some ⟨oc_hosts, od_hosts, .func (PySem.W.fnOf "hosts" "Fair.hosts" (defArgs s_hosts) (defBody s_hosts) (defScope s_hosts) .none kV_hosts dc_hosts pm_hosts an_hosts cd_hosts ct_hosts), sl_hosts⟩)
    (c_hosts : PySem.W.codeIn K cd_hosts "Fair.hosts" = true)
    (k_hosts : PySem.W.keepIn K (.ref f_hosts) = true)
    (a_guests : PySem.W.findIn K (.ref C) "guests" = some (some (.ref p_guests)))
    (g_guests : PySem.W.specialIn K (.ref p_guests) "__get__" = some (some (.builtin "property.__get__")))
    (t_guests : PySem.W.takesIn K (.ref p_guests) = some true)
    (r_guests : PySem.W.recIn K p_guests "property" = some (.ref f_guests :: rest_guests))
    (l_guests : K.lookup f_guests = some ⟨oc_guests, od_guests, .func (PySem.W.fnOf "guests" "Fair.guests" (defArgs s_guests) (defBody s_guests) (defScope s_guests) .none kV_guests dc_guests pm_guests an_guests cd_guests ct_guests), sl_guests⟩)
    (c_guests : PySem.W.codeIn K cd_guests "Fair.guests" = true)
    (k_guests : PySem.W.keepIn K (.ref f_guests) = true)
    (a_tables : PySem.W.findIn K (.ref C) "tables" = some (some (.ref p_tables)))
    (g_tables : PySem.W.specialIn K (.ref p_tables) "__get__" = some (some (.builtin "property.__get__")))
    (t_tables : PySem.W.takesIn K (.ref p_tables) = some true)
    (r_tables : PySem.W.recIn K p_tables "property" = some (.ref f_tables :: rest_tables))
    (l_tables : K.lookup f_tables = some ⟨oc_tables, od_tables, .func (PySem.W.fnOf "tables" "Fair.tables" (defArgs s_tables) (defBody s_tables) (defScope s_tables) .none kV_tables dc_tables pm_tables an_tables cd_tables ct_tables), sl_tables⟩)
    (c_tables : PySem.W.codeIn K cd_tables "Fair.tables" = true)
    (k_tables : PySem.W.keepIn K (.ref f_tables) = true)
    (a_names : PySem.W.findIn K (.ref C) "names" = some (some (.ref p_names)))
    (g_names : PySem.W.specialIn K (.ref p_names) "__get__" = some (some (.builtin "property.__get__")))
    (t_names : PySem.W.takesIn K (.ref p_names) = some true)
    (r_names : PySem.W.recIn K p_names "property" = some (.ref f_names :: rest_names))
    (l_names : K.lookup f_names = some ⟨oc_names, od_names, .func (PySem.W.fnOf "names" "Fair.names" (defArgs s_names) (defBody s_names) (defScope s_names) .none kV_names dc_names pm_names an_names cd_names ct_names), sl_names⟩)
    (c_names : PySem.W.codeIn K cd_names "Fair.names" = true)
    (k_names : PySem.W.keepIn K (.ref f_names) = true)
    (rd : PySem.W.readsIn K C (.type "type") = true)
    (gat : PySem.W.specialIn K (.ref C) "__getattribute__" = some (some (.builtin "type.__getattribute__")))
    (a_read : PySem.W.findCls K (.ref C) (.type "type") "read" = some (.get (.builtin "classmethod.__get__") (.ref p_read) .none (.ref C)))
    (r_read : PySem.W.recIn K p_read "classmethod" = some (.ref f_read :: rest_read))
    (i_read : PySem.W.fnIn K f_read = true)
    (l_read : K.lookup f_read = some ⟨oc_read, od_read, .func (PySem.W.fnOf "read" "Fair.read" (defArgs s_read) (defBody s_read) (defScope s_read) .none kV_read dc_read pm_read an_read cd_read ct_read), sl_read⟩)
    (c_read : PySem.W.codeIn K cd_read "Fair.read" = true)
    (k_read : PySem.W.keepIn K (.ref f_read) = true)
    (pg : PySem.W.plainGet K C Str.empty = true)
    (hd : PySem.W.hasDictIn K C = true)
    (po : PySem.W.plainOver K C = true)
    (sa : PySem.W.findIn K (.ref C) "__setattr__" = some (some (.builtin "object.__setattr__")))
    (mk : PySem.W.makesIn K C = true)
    (kc : PySem.W.keepIn K (.ref C) = true)
    (nH : PySem.W.findIn K (.ref C) "_hosts" = some none)
    (nG : PySem.W.findIn K (.ref C) "_guests" = some none)
    (nT_ : PySem.W.findIn K (.ref C) "_tables" = some none)
    (nN : PySem.W.findIn K (.ref C) "_names" = some none)
    (nX : PySem.W.findIn K (.ref C) "_text" = some none)
    (ha : PySem.W.findIn K (.ref C) "__class__" = some (some (.builtin "object.__class__")))
    (hn : PySem.W.specialIn K (.builtin "object.__class__") "__get__" = some (some (.builtin "getset_descriptor.__get__")))
    (htk : PySem.W.takesIn K (.builtin "object.__class__") = some true)
    (hm : PySem.W.mroIn K C (.type "object") = some true)
    (kC : PySem.W.kitOne K (.ref C) (.ref C) = some true)
    (kN : PySem.W.kitOne K (.type "NoneType") (.ref C) = some false)
    (kI : PySem.W.kitOne K (.type "int") (.ref C) = some false)
    (kS : PySem.W.kitOne K (.type "str") (.ref C) = some false)
    (kT : PySem.W.kitOne K (.type "tuple") (.ref C) = some false)
    (kL : PySem.W.kitOne K (.type "list") (.ref C) = some false)
    (fC : PySem.W.notFirst K C (.ref C) = true)
    (fN : PySem.W.notFirst K C (.type "NoneType") = true)
    (fI : PySem.W.notFirst K C (.type "int") = true)
    (fS : PySem.W.notFirst K C (.type "str") = true)
    (fT : PySem.W.notFirst K C (.type "tuple") = true)
    (fL : PySem.W.notFirst K C (.type "list") = true)
    (nB : PySem.W.findIn K (.ref C) "__bool__" = some none)
    (ne : PySem.W.findIn K (.ref C) "__ne__" = some (some (.builtin "object.__ne__")))
    (z_range : PySem.W.nsIn K mainGlobals "range" = some none)
    (z_str : PySem.W.nsIn K mainGlobals "str" = some none)
    (z_len : PySem.W.nsIn K mainGlobals "len" = some none)
    (z_tuple : PySem.W.nsIn K mainGlobals "tuple" = some none)
    (z_bool : PySem.W.nsIn K mainGlobals "bool" = some none)
    (z_repr : PySem.W.nsIn K mainGlobals "repr" = some none)
    (z_isinstance : PySem.W.nsIn K mainGlobals "isinstance" = some none)
    (z_int : PySem.W.nsIn K mainGlobals "int" = some none)
    (z_divmod : PySem.W.nsIn K mainGlobals "divmod" = some none)
    (z_abs : PySem.W.nsIn K mainGlobals "abs" = some none)
    (z_max : PySem.W.nsIn K mainGlobals "max" = some none)
    (z_min : PySem.W.nsIn K mainGlobals "min" = some none)
    (z_all : PySem.W.nsIn K mainGlobals "all" = some none)
    (z_enumerate : PySem.W.nsIn K mainGlobals "enumerate" = some none)
    (z_list : PySem.W.nsIn K mainGlobals "list" = some none)
    (mMOST_SIDE : PySem.W.nsIn K mainGlobals "MOST_SIDE" = some (some (.int 4 tkMOST_SIDE)))
    (mMOST_BOUND : PySem.W.nsIn K mainGlobals "MOST_BOUND" = some (some (.int 4 tkMOST_BOUND)))
    (mMOST_TABLES : PySem.W.nsIn K mainGlobals "MOST_TABLES" = some (some (.int 12 tkMOST_TABLES)))
    (m_LONGEST_NAME : PySem.W.nsIn K mainGlobals "_LONGEST_NAME" = some (some (.int 8 tk_LONGEST_NAME)))
    (m_FIRST_SIGNS : PySem.W.nsIn K mainGlobals "_FIRST_SIGNS" = some (some (.str "abcdefghijklmnopqrstuvwxyz" tk_FIRST_SIGNS)))
    (m_SIGNS : PySem.W.nsIn K mainGlobals "_SIGNS" = some (some (.str SIGNS tk_SIGNS)))
    : ∃ fd : FuncData, (∀ (s : Shared) (v : Value), BindsTo s fd ⟨[v], []⟩ [("_law_script", v)]) ∧ ∀ base : Heap, K.In base → base.Ns mainGlobals mg → FnG l.prog w K mg base CX0 8 fa fd ["_law_script"] (sp_law K) := by
  have e := hfa.symm.trans (PySem.W.mg_of X G a_law)
  cases e
  have F_is_integer : FII K f_is_integer _ := ⟨⟨_, _, _, _, _, _, _, _, _, _, rfl, l_is_integer, c_is_integer, .inr ⟨by simp, dI, _, [Value.none], nI, rfl, lI, rfl, .cons rfl .nil⟩, .inl rfl⟩, k_is_integer⟩
  have b_is_integer := b_is_integer3 F_is_integer
  have v_is_integer := PySem.W.mg_of X G a_is_integer
  have F_is_name := fun_mk (st := s_is_name) l_is_name c_is_name k_is_name
  have b_is_name := F_is_name.binds (ps := ["value"]) fun _ _ _ _ _ _ us hl => match us, hl with | [_], _ => rfl
  have v_is_name := PySem.W.mg_of X G a_is_name
  have F_is_pair := fun_mk (st := s_is_pair) l_is_pair c_is_pair k_is_pair
  have b_is_pair := F_is_pair.binds (ps := ["value"]) fun _ _ _ _ _ _ us hl => match us, hl with | [_], _ => rfl
  have v_is_pair := PySem.W.mg_of X G a_is_pair
  have F_is_member := fun_mk (st := s_is_member) l_is_member c_is_member k_is_member
  have b_is_member := F_is_member.binds (ps := ["value"]) fun _ _ _ _ _ _ us hl => match us, hl with | [_], _ => rfl
  have v_is_member := PySem.W.mg_of X G a_is_member
  have F_fault := fun_mk (st := s_fault) l_fault c_fault k_fault
  have b_fault := F_fault.binds (ps := ["side", "taken"]) fun _ _ _ _ _ _ us hl => match us, hl with | [_, _], _ => rfl
  have v_fault := PySem.W.mg_of X G a_fault
  have F_names_of := fun_mk (st := s_names_of) l_names_of c_names_of k_names_of
  have b_names_of := F_names_of.binds (ps := ["side"]) fun _ _ _ _ _ _ us hl => match us, hl with | [_], _ => rfl
  have v_names_of := PySem.W.mg_of X G a_names_of
  have F_text_of := fun_mk (st := s_text_of) l_text_of c_text_of k_text_of
  have b_text_of := F_text_of.binds (ps := ["hosts", "guests", "tables"]) fun _ _ _ _ _ _ us hl => match us, hl with | [_, _, _], _ => rfl
  have v_text_of := PySem.W.mg_of X G a_text_of
  have F_number := fun_mk (st := s_number) l_number c_number k_number
  have b_number := F_number.binds (ps := ["digits", "most"]) fun _ _ _ _ _ _ us hl => match us, hl with | [_, _], _ => rfl
  have v_number := PySem.W.mg_of X G a_number
  have F_parts_of := fun_mk (st := s_parts_of) l_parts_of c_parts_of k_parts_of
  have b_parts_of := F_parts_of.binds (ps := ["text"]) fun _ _ _ _ _ _ us hl => match us, hl with | [_], _ => rfl
  have v_parts_of := PySem.W.mg_of X G a_parts_of
  have F_l_jug := fun_mk (st := s_l_jug) l_l_jug c_l_jug k_l_jug
  have b_l_jug := F_l_jug.binds (ps := ["_law_script", "_law_at"]) fun _ _ _ _ _ _ us hl => match us, hl with | [_, _], _ => rfl
  have v_l_jug := PySem.W.mg_of X G a_l_jug
  have F_l_pour := fun_mk (st := s_l_pour) l_l_pour c_l_pour k_l_pour
  have b_l_pour := F_l_pour.binds (ps := ["_law_jug_here", "_law_many"]) fun _ _ _ _ _ _ us hl => match us, hl with | [_, _], _ => rfl
  have v_l_pour := PySem.W.mg_of X G a_l_pour
  have F_l_word := fun_mk (st := s_l_word) l_l_word c_l_word k_l_word
  have b_l_word := F_l_word.binds (ps := ["_law_jug_here"]) fun _ _ _ _ _ _ us hl => match us, hl with | [_], _ => rfl
  have v_l_word := PySem.W.mg_of X G a_l_word
  have F_l_words := fun_mk (st := s_l_words) l_l_words c_l_words k_l_words
  have b_l_words := F_l_words.binds (ps := ["_law_jug_here", "_law_many"]) fun _ _ _ _ _ _ us hl => match us, hl with | [_, _], _ => rfl
  have v_l_words := PySem.W.mg_of X G a_l_words
  have F_l_parts := fun_mk (st := s_l_parts) l_l_parts c_l_parts k_l_parts
  have b_l_parts := F_l_parts.binds (ps := ["_law_jug_here", "_law_most_here", "_law_most_there"]) fun _ _ _ _ _ _ us hl => match us, hl with | [_, _, _], _ => rfl
  have v_l_parts := PySem.W.mg_of X G a_l_parts
  have F_l_fair := fun_mk (st := s_l_fair) l_l_fair c_l_fair k_l_fair
  have b_l_fair := F_l_fair.binds (ps := ["_law_parts_here"]) fun _ _ _ _ _ _ us hl => match us, hl with | [_], _ => rfl
  have v_l_fair := PySem.W.mg_of X G a_l_fair
  have F_l_page := fun_mk (st := s_l_page) l_l_page c_l_page k_l_page
  have b_l_page := F_l_page.binds (ps := ["_law_parts_here"]) fun _ _ _ _ _ _ us hl => match us, hl with | [_], _ => rfl
  have v_l_page := PySem.W.mg_of X G a_l_page
  have F_l_is_made := fun_mk (st := s_l_is_made) l_l_is_made c_l_is_made k_l_is_made
  have b_l_is_made := F_l_is_made.binds (ps := ["_law_here", "_law_parts_here"]) fun _ _ _ _ _ _ us hl => match us, hl with | [_, _], _ => rfl
  have v_l_is_made := PySem.W.mg_of X G a_l_is_made
  have F_l_right := fun_mk (st := s_l_right) l_l_right c_l_right k_l_right
  have b_l_right := F_l_right.binds (ps := ["_law_jug_here"]) fun _ _ _ _ _ _ us hl => match us, hl with | [_], _ => rfl
  have v_l_right := PySem.W.mg_of X G a_l_right
  have F_law := fun_mk (st := s_law) l_law c_law k_law
  have F_len := fun_mk (st := s_len) l_len c_len k_len
  have b_len := F_len.binds (ps := ["self"]) fun _ _ _ _ _ _ us hl => match us, hl with | [_], _ => rfl
  have F_str := fun_mk (st := s_str) l_str c_str k_str
  have b_str := F_str.binds (ps := ["self"]) fun _ _ _ _ _ _ us hl => match us, hl with | [_], _ => rfl
  have F_has := fun_mk (st := s_has) l_has c_has k_has
  have b_has := F_has.binds (ps := ["self", "value"]) fun _ _ _ _ _ _ us hl => match us, hl with | [_, _], _ => rfl
  have F_eq := fun_mk (st := s_eq) l_eq c_eq k_eq
  have b_eq := F_eq.binds (ps := ["self", "other"]) fun _ _ _ _ _ _ us hl => match us, hl with | [_, _], _ => rfl
  have F_hosts := fun_mk (st := s_hosts) l_hosts c_hosts k_hosts
  have b_hosts := F_hosts.binds (ps := ["self"]) fun _ _ _ _ _ _ us hl => match us, hl with | [_], _ => rfl
  have F_guests := fun_mk (st := s_guests) l_guests c_guests k_guests
  have b_guests := F_guests.binds (ps := ["self"]) fun _ _ _ _ _ _ us hl => match us, hl with | [_], _ => rfl
  have F_tables := fun_mk (st := s_tables) l_tables c_tables k_tables
  have b_tables := F_tables.binds (ps := ["self"]) fun _ _ _ _ _ _ us hl => match us, hl with | [_], _ => rfl
  have F_names := fun_mk (st := s_names) l_names c_names k_names
  have b_names := F_names.binds (ps := ["self"]) fun _ _ _ _ _ _ us hl => match us, hl with | [_], _ => rfl
  have F_read := fun_mk (st := s_read) l_read c_read k_read
  have b_read := F_read.binds (ps := ["cls", "text"]) fun _ _ _ _ _ _ us hl => match us, hl with | [_, _], _ => rfl
  have y_range := PySem.W.mg_none_of X G z_range
  have y_str := PySem.W.mg_none_of X G z_str
  have y_len := PySem.W.mg_none_of X G z_len
  have y_tuple := PySem.W.mg_none_of X G z_tuple
  have y_bool := PySem.W.mg_none_of X G z_bool
  have y_repr := PySem.W.mg_none_of X G z_repr
  have y_isinstance := PySem.W.mg_none_of X G z_isinstance
  have y_int := PySem.W.mg_none_of X G z_int
  have y_divmod := PySem.W.mg_none_of X G z_divmod
  have y_abs := PySem.W.mg_none_of X G z_abs
  have y_max := PySem.W.mg_none_of X G z_max
  have y_min := PySem.W.mg_none_of X G z_min
  have y_all := PySem.W.mg_none_of X G z_all
  have y_enumerate := PySem.W.mg_none_of X G z_enumerate
  have y_list := PySem.W.mg_none_of X G z_list
  have wMOST_SIDE := PySem.W.mg_of X G mMOST_SIDE
  have wMOST_BOUND := PySem.W.mg_of X G mMOST_BOUND
  have wMOST_TABLES := PySem.W.mg_of X G mMOST_TABLES
  have w_LONGEST_NAME := PySem.W.mg_of X G m_LONGEST_NAME
  have w_FIRST_SIGNS := PySem.W.mg_of X G m_FIRST_SIGNS
  have w_SIGNS := PySem.W.mg_of X G m_SIGNS
  have FI0 : FI K f_init _ := ⟨⟨_, _, _, _, _, _, _, _, _, _, rfl, l_init, c_init, .inr ⟨by simp, dT, _, [Value.none], nT, rfl, lT, rfl, .cons rfl .nil⟩, .inl rfl⟩, k_init⟩
  have cl : Cls K C := ⟨pg, hd, po, sa⟩
  have vC := PySem.W.mg_of X G aC
  have T : TxC K mg C := ⟨cl, nH, nG, nT_, nN, nX, vC, ha, hn, htk, hm, kC, kN, kI, kS, kT, kL, fC, fN, fI, fS, fT, fL, nB, ne, y_isinstance, y_str, y_len⟩
  have D : TxD K mg C p_hosts p_guests p_tables p_names f_hosts f_guests f_tables f_names f_len f_str f_has f_eq :=
    ⟨⟨a_hosts, g_hosts, t_hosts, _, r_hosts⟩, ⟨a_guests, g_guests, t_guests, _, r_guests⟩, ⟨a_tables, g_tables, t_tables, _, r_tables⟩, ⟨a_names, g_names, t_names, _, r_names⟩, a_len, i_len, a_str, i_str, a_has, i_has, a_eq, i_eq, y_tuple, y_bool, y_repr⟩
  have M : Mk K C f_init := ⟨mk, a_init, i_init, kc⟩
  refine ⟨PySem.W.fnOf "law" "law" (defArgs s_law) (defBody s_law) (defScope s_law) .none kV_law dc_law pm_law an_law cd_law ct_law, fun s v => .of_eq rfl, fun base _ _ => ?_⟩
  have G_is_integer := ok_is_integer (P := l.prog) (w := w) (base := base) F_is_integer (mg := mg) ⟨y_isinstance, y_int, y_bool⟩
  have G_is_name := ok_is_name (P := l.prog) (w := w) (base := base) F_is_name (mg := mg) ⟨y_isinstance, y_str, y_len, y_all, ⟨_, w_LONGEST_NAME⟩, ⟨_, w_FIRST_SIGNS⟩, ⟨_, w_SIGNS⟩⟩
  have G_is_pair := ok_is_pair (P := l.prog) (w := w) (base := base) (mg := mg) F_is_pair y_isinstance y_tuple y_len
  have G_is_member := ok_is_member (P := l.prog) (w := w) (base := base) F_is_member (mg := mg) ⟨⟨_, wMOST_BOUND⟩, v_is_pair, k_is_pair, v_is_name, k_is_name, v_is_integer, k_is_integer⟩ G_is_pair b_is_pair G_is_name b_is_name G_is_integer b_is_integer
  have G_names_of := ok_names_of (P := l.prog) (w := w) (base := base) F_names_of (mg := mg) y_tuple
  have G_text_of := ok_text_of (P := l.prog) (w := w) (base := base) (mg := mg) F_text_of
  have G_fault := ok_fault (P := l.prog) (w := w) (base := base) F_fault (mg := mg) ⟨y_isinstance, y_tuple, y_list, y_enumerate, ⟨_, wMOST_SIDE⟩, v_is_member, k_is_member⟩ G_is_member b_is_member
  have G_init := ok_init (P := l.prog) (w := w) (base := base) FI0 (mg := mg) ⟨cl, nH, nG, nT_, nN, nX, ⟨_, wMOST_TABLES⟩, v_fault, k_fault, v_names_of, k_names_of, v_is_integer, k_is_integer, v_text_of, k_text_of⟩ G_fault b_fault G_names_of b_names_of G_is_integer b_is_integer G_text_of b_text_of
  have G_l_pour := ok_l_pour (P := l.prog) (w := w) (base := base) (K := K) F_l_pour (mg := mg) ⟨y_divmod, y_int⟩
  have G_l_jug := ok_l_jug (P := l.prog) (w := w) (base := base) (K := K) F_l_jug (mg := mg) ⟨y_len, y_int, y_abs⟩
  have G_l_word := ok_l_word (P := l.prog) (w := w) (base := base) F_l_word (mg := mg) ⟨y_range, v_l_pour, k_l_pour⟩ G_l_pour b_l_pour
  have G_l_words := ok_l_words (P := l.prog) (w := w) (base := base) F_l_words (mg := mg) ⟨y_range, y_str, v_l_word, k_l_word⟩ G_l_word b_l_word
  have G_l_parts := ok_l_parts (P := l.prog) (w := w) (base := base) F_l_parts (mg := mg) ⟨y_tuple, v_l_pour, k_l_pour, v_l_words, k_l_words⟩ G_l_pour b_l_pour G_l_words b_l_words
  have G_l_page := ok_l_page (P := l.prog) (w := w) (base := base) F_l_page (mg := mg) y_str
  have b_init := b_init4 FI0
  have G_l_fair := ok_l_fair (P := l.prog) (w := w) (base := base) F_l_fair (mg := mg) vC M G_init b_init
  have GG : GD l.prog w K mg base C f_hosts f_guests f_tables f_names f_len f_str f_has f_eq _ _ _ _ _ _ _ _ :=
    ⟨ok_hosts F_hosts cl nH, ok_guests F_guests cl nG, ok_tables F_tables cl nT_, ok_names F_names cl nN, ok_len F_len T, ok_str F_str T, ok_has F_has T, ok_eq F_eq T, b_hosts, b_guests, b_tables, b_names, b_len, b_str, b_has, b_eq⟩
  have G_l_is_made := ok_l_is_made (P := l.prog) (w := w) (base := base) F_l_is_made (mg := mg) T D GG v_l_page k_l_page G_l_page b_l_page
  have G_number := ok_number (P := l.prog) (w := w) (base := base) (mg := mg) F_number y_range y_str
  have G_parts_of := ok_parts_of (P := l.prog) (w := w) (base := base) (mg := mg) F_parts_of ⟨y_tuple, ⟨_, wMOST_BOUND⟩, ⟨_, wMOST_TABLES⟩, v_number, k_number⟩ G_number b_number
  have G_read := ok_read (P := l.prog) (w := w) (base := base) (mg := mg) F_read ⟨y_isinstance, y_str, v_parts_of, k_parts_of, v_fault, k_fault, v_names_of, k_names_of, v_text_of, k_text_of⟩ M G_init b_init G_parts_of b_parts_of G_fault b_fault G_names_of b_names_of G_text_of b_text_of
  have G_l_right := ok_l_right (P := l.prog) (w := w) (base := base) F_l_right (mg := mg) T D GG ⟨v_l_parts, k_l_parts, v_l_fair, k_l_fair, v_l_is_made, k_l_is_made, v_l_page, k_l_page⟩ ⟨rd, gat⟩ ⟨a_read, ⟨_, r_read⟩, i_read⟩ G_read b_read (kb_read F_read) G_l_parts b_l_parts G_l_fair b_l_fair G_l_is_made b_l_is_made G_l_page b_l_page
  exact ok_law (P := l.prog) (w := w) (base := base) F_law (mg := mg) ⟨y_range, y_max, y_min, y_len, v_l_right, k_l_right, v_l_jug, k_l_jug⟩ G_l_right b_l_right G_l_jug b_l_jug
end F02
open PySem PySem.W PyProof.Rows in
set_option maxRecDepth 100000 in
set_option maxHeartbeats 0 in
theorem PySem.Challenge.cw_meetrounds_k05_whole_fairs_by_their_text_holds : PySem.Challenge.rw_meetrounds_k05_whole_fairs_by_their_text.Holds := by
  w_on; o_law; k_head; (case hw => w_witness2)
  k_fill
  refine TopG.walkG (l := PySem.Challenge.rw_meetrounds_k05_whole_fairs_by_their_text) (n := 63) (k := 8) (x := "_law_script") (sp := F02.sp_law) rfl (by decide) rfl ⟨rfl, by decide, by decide⟩ (fun w h Y => PySem.W.kIn_of Y) ?F (fun K H a ns hl hS => ⟨a, ns, rfl, hS, hl, fun _ => rfl⟩)
  case F =>
    intro w mg fa h KX G hmg
    refine' F02.all_mk KX G hmg ?aC ?a_is_integer ?l_is_integer ?c_is_integer ?k_is_integer ?a_is_name ?l_is_name ?c_is_name ?k_is_name ?a_is_pair ?l_is_pair ?c_is_pair ?k_is_pair ?a_is_member ?l_is_member ?c_is_member ?k_is_member ?a_fault ?l_fault ?c_fault ?k_fault ?a_names_of ?l_names_of ?c_names_of ?k_names_of ?a_text_of ?l_text_of ?c_text_of ?k_text_of ?a_number ?l_number ?c_number ?k_number ?a_parts_of ?l_parts_of ?c_parts_of ?k_parts_of ?a_l_jug ?l_l_jug ?c_l_jug ?k_l_jug ?a_l_pour ?l_l_pour ?c_l_pour ?k_l_pour ?a_l_word ?l_l_word ?c_l_word ?k_l_word ?a_l_words ?l_l_words ?c_l_words ?k_l_words ?a_l_parts ?l_l_parts ?c_l_parts ?k_l_parts ?a_l_fair ?l_l_fair ?c_l_fair ?k_l_fair ?a_l_page ?l_l_page ?c_l_page ?k_l_page ?a_l_is_made ?l_l_is_made ?c_l_is_made ?k_l_is_made ?a_l_right ?l_l_right ?c_l_right ?k_l_right ?a_law ?l_law ?c_law ?k_law ?lI ?a_init ?i_init ?l_init ?c_init ?k_init ?lT ?a_len ?i_len ?l_len ?c_len ?k_len ?a_str ?i_str ?l_str ?c_str ?k_str ?a_has ?i_has ?l_has ?c_has ?k_has ?a_eq ?i_eq ?l_eq ?c_eq ?k_eq ?a_hosts ?g_hosts ?t_hosts ?r_hosts ?l_hosts ?c_hosts ?k_hosts ?a_guests ?g_guests ?t_guests ?r_guests ?l_guests ?c_guests ?k_guests ?a_tables ?g_tables ?t_tables ?r_tables ?l_tables ?c_tables ?k_tables ?a_names ?g_names ?t_names ?r_names ?l_names ?c_names ?k_names ?rd ?gat ?a_read ?r_read ?i_read ?l_read ?c_read ?k_read ?pg ?hd ?po ?sa ?mk ?kc ?nH ?nG ?nT_ ?nN ?nX ?ha ?hn ?htk ?hm ?kC ?kN ?kI ?kS ?kT ?kL ?fC ?fN ?fI ?fS ?fT ?fL ?nB ?ne ?z_range ?z_str ?z_len ?z_tuple ?z_bool ?z_repr ?z_isinstance ?z_int ?z_divmod ?z_abs ?z_max ?z_min ?z_all ?z_enumerate ?z_list ?mMOST_SIDE ?mMOST_BOUND ?mMOST_TABLES ?m_LONGEST_NAME ?m_FIRST_SIGNS ?m_SIGNS
    (case aC => k_is)
    (case a_is_integer => k_is)
    (case l_is_integer => k_is)
    (case c_is_integer => k_is)
    (case k_is_integer => k_is)
    (case a_is_name => k_is)
    (case l_is_name => k_is)
    (case c_is_name => k_is)
    (case k_is_name => k_is)
    (case a_is_pair => k_is)
    (case l_is_pair => k_is)
    (case c_is_pair => k_is)
    (case k_is_pair => k_is)
    (case a_is_member => k_is)
    (case l_is_member => k_is)
    (case c_is_member => k_is)
    (case k_is_member => k_is)
    (case a_fault => k_is)
    (case l_fault => k_is)
    (case c_fault => k_is)
    (case k_fault => k_is)
    (case a_names_of => k_is)
    (case l_names_of => k_is)
    (case c_names_of => k_is)
    (case k_names_of => k_is)
    (case a_text_of => k_is)
    (case l_text_of => k_is)
    (case c_text_of => k_is)
    (case k_text_of => k_is)
    (case a_number => k_is)
    (case l_number => k_is)
    (case c_number => k_is)
    (case k_number => k_is)
    (case a_parts_of => k_is)
    (case l_parts_of => k_is)
    (case c_parts_of => k_is)
    (case k_parts_of => k_is)
    (case a_l_jug => k_is)
    (case l_l_jug => k_is)
    (case c_l_jug => k_is)
    (case k_l_jug => k_is)
    (case a_l_pour => k_is)
    (case l_l_pour => k_is)
    (case c_l_pour => k_is)
    (case k_l_pour => k_is)
    (case a_l_word => k_is)
    (case l_l_word => k_is)
    (case c_l_word => k_is)
    (case k_l_word => k_is)
    (case a_l_words => k_is)
    (case l_l_words => k_is)
    (case c_l_words => k_is)
    (case k_l_words => k_is)
    (case a_l_parts => k_is)
    (case l_l_parts => k_is)
    (case c_l_parts => k_is)
    (case k_l_parts => k_is)
    (case a_l_fair => k_is)
    (case l_l_fair => k_is)
    (case c_l_fair => k_is)
    (case k_l_fair => k_is)
    (case a_l_page => k_is)
    (case l_l_page => k_is)
    (case c_l_page => k_is)
    (case k_l_page => k_is)
    (case a_l_is_made => k_is)
    (case l_l_is_made => k_is)
    (case c_l_is_made => k_is)
    (case k_l_is_made => k_is)
    (case a_l_right => k_is)
    (case l_l_right => k_is)
    (case c_l_right => k_is)
    (case k_l_right => k_is)
    (case a_law => k_is)
    (case l_law => k_is)
    (case c_law => k_is)
    (case k_law => k_is)
    (case lI => k_is)
    (case a_init => k_is)
    (case i_init => k_is)
    (case l_init => k_is)
    (case c_init => k_is)
    (case k_init => k_is)
    (case lT => k_is)
    (case a_len => k_is)
    (case i_len => k_is)
    (case l_len => k_is)
    (case c_len => k_is)
    (case k_len => k_is)
    (case a_str => k_is)
    (case i_str => k_is)
    (case l_str => k_is)
    (case c_str => k_is)
    (case k_str => k_is)
    (case a_has => k_is)
    (case i_has => k_is)
    (case l_has => k_is)
    (case c_has => k_is)
    (case k_has => k_is)
    (case a_eq => k_is)
    (case i_eq => k_is)
    (case l_eq => k_is)
    (case c_eq => k_is)
    (case k_eq => k_is)
    (case a_hosts => k_is)
    (case g_hosts => k_is)
    (case t_hosts => k_is)
    (case r_hosts => k_is)
    (case l_hosts => k_is)
    (case c_hosts => k_is)
    (case k_hosts => k_is)
    (case a_guests => k_is)
    (case g_guests => k_is)
    (case t_guests => k_is)
    (case r_guests => k_is)
    (case l_guests => k_is)
    (case c_guests => k_is)
    (case k_guests => k_is)
    (case a_tables => k_is)
    (case g_tables => k_is)
    (case t_tables => k_is)
    (case r_tables => k_is)
    (case l_tables => k_is)
    (case c_tables => k_is)
    (case k_tables => k_is)
    (case a_names => k_is)
    (case g_names => k_is)
    (case t_names => k_is)
    (case r_names => k_is)
    (case l_names => k_is)
    (case c_names => k_is)
    (case k_names => k_is)
    (case rd => k_is)
    (case gat => k_is)
    (case a_read => k_is)
    (case r_read => k_is)
    (case i_read => k_is)
    (case l_read => k_is)
    (case c_read => k_is)
    (case k_read => k_is)
    (case pg => k_is)
    (case hd => k_is)
    (case po => k_is)
    (case sa => k_is)
    (case mk => k_is)
    (case kc => k_is)
    (case nH => k_is)
    (case nG => k_is)
    (case nT_ => k_is)
    (case nN => k_is)
    (case nX => k_is)
    (case ha => k_is)
    (case hn => k_is)
    (case htk => k_is)
    (case hm => k_is)
    (case kC => kit_is)
    (case kN => kit_is)
    (case kI => kit_is)
    (case kS => kit_is)
    (case kT => kit_is)
    (case kL => kit_is)
    (case fC => k_is)
    (case fN => k_is)
    (case fI => k_is)
    (case fS => k_is)
    (case fT => k_is)
    (case fL => k_is)
    (case nB => k_is)
    (case ne => k_is)
    (case z_range => k_is)
    (case z_str => k_is)
    (case z_len => k_is)
    (case z_tuple => k_is)
    (case z_bool => k_is)
    (case z_repr => k_is)
    (case z_isinstance => k_is)
    (case z_int => k_is)
    (case z_divmod => k_is)
    (case z_abs => k_is)
    (case z_max => k_is)
    (case z_min => k_is)
    (case z_all => k_is)
    (case z_enumerate => k_is)
    (case z_list => k_is)
    (case mMOST_SIDE => k_is)
    (case mMOST_BOUND => k_is)
    (case mMOST_TABLES => k_is)
    (case m_LONGEST_NAME => k_is)
    (case m_FIRST_SIGNS => k_is)
    (case m_SIGNS => k_is)
