import PyProof.Rows.All
import Wide.All
import OpenK.AllK
import Wide.FinOn
import PyProof.EqAt
import PyProof.EqKinds
import PyProof.TupleCall
import PyProof.ReprRoads
import HandS.Base
import HandS.Call
import HandS.List
import HandS.Comp
import HandS.Ends
import HandS.Dict
import HandS.Iter
import HandS.Text
import HandS.Words
import HandS.WordsList
import HandS.Wide
import HandS.WideBits
import HandS.Style
import HandS.WordsExc
import HandS.More
import HandS.IsInst
import HandS.TupAny
import HandS.RaiseMore
import HandS.Zip0
import HandS.Star
import KE.KStar
import PyProof.MeetsSeq2
import HandS.Zip
import KE.KTupSum
import HandS.Walk
import HandS.FStr
import HandS.Property
import KE.GoesMore
import HandS.OwnIter
import HandS.Gcd
import HandS.Defaults
import HandS.TupMul
import HandS.MakeKwOnly
import HandS.TryOnly
import HandS.MakeKw
import HandS.Flt
import PySem.Challenge.RW_meetrounds_k14_whole_tables_needed
import PyProof.ReprBulk
import PyProof.ReprReads
import HandS.EndBits
import KE.RegKIsAll
set_option Elab.async false
set_option linter.all false
set_option maxRecDepth 100000
set_option maxHeartbeats 4000000
set_option maxHeartbeats 1000000
namespace MG
open PySem PySem.Spec PyProof.Rows L2

/-- a def's promise where no builtin of the printing kind is under way around the call -/
structure FnG (P : Program) (w : World) (K : PySem.W.Frag) (mg : Str → Option Value) (base : Heap) (CX : CXT)
    (k : Nat) (f : Addr) (fd : FuncData) (ps : List Str) (sp : Sp) : Prop where
  len : ∀ vs H Q E, sp vs H Q E → vs.length = ps.length
  run : ∀ (A : Around) (outer : List Env) (s : Shared) (H : Hp) (args : Args) (us : List Value)
    (vs : List V) (Q : VK) (E : XK), A.guards = some [] → Room k A → Env0 P w K mg base A outer s H →
    BindsTo s fd args (ps.zip us) → Vals vs us → sp vs H Q E →
    codeAny (model P w) A (.call (.ref f) args) (CR CX outer P w H s Q E) s

section
variable {P : Program} {w : World} {K : PySem.W.Frag} {mg : Str → Option Value} {base : Heap}

theorem FnG.of {CX : CXT} {k : Nat} {f : Addr} {fd : FuncData} {ps : List Str} {sp : Sp}
    (F : FnOk P w K mg base CX k f fd ps sp) : FnG P w K mg base CX k f fd ps sp where
  len := F.len
  run := fun A outer s H args us vs Q E _ => F.run A outer s H args us vs Q E

/-- the body of a def at one place where it is called -/
theorem body_at {CX : CXT} {x qual : Str} {st : Stmt} {f : Addr} {fd : FuncData} {N ps : List Str}
    {A : Around} {outer : List Env} {s : Shared} {H : Hp} {args : Args} {us : List Value}
    {vs : List V} {Q : VK} {E : XK} {k : Nat}
    (F : Fun K x qual st f fd) (S : FnScope N ps (defScope st)) (hl : vs.length = ps.length)
    (hr : Room (k + 1) A) (e0 : Env0 P w K mg base A outer s H) (hb : BindsTo s fd args (ps.zip us))
    (r : Vals vs us)
    (hbody : ∀ cdv : Value, ∃ t,
      PSs (cxOf CX P w K mg base N qual (defScope st) f cdv A outer s H E) (defBody st) t ∧
      t { nx := fun _ H' => Q .non H', rt := Q } (start N vs) H) :
    codeAny (model P w) A (.call (.ref f) args) (CR CX outer P w H s Q E) s := by
  obtain ⟨oc, od, kV, doc, pm, an, cdv, ct, osl, rfl, lk, hcd⟩ := F.ex
  have KX : K.In s.heap := e0.mod.kin.keeps (fun b o e => (e0.bs b o e).1)
  have lim : s.heap.NoLimit := e0.mod.nolimit.keeps (fun b o e => (e0.bs b o e).1)
  have hkind : ∀ y ∈ ps.zip us, (defScope st).names.lookup y.1 = some .local ∨
      ((defScope st).names.lookup y.1 = some .cell ∧
        ((cellsFrom (s.heap.objs.size + 1) (defScope st).names []).lookup y.1).isSome = true) := by
    rintro ⟨n, v⟩ hy
    cases S.par n (List.of_mem_zip hy).1 with
    | inl q => exact Or.inl q
    | inr q => exact Or.inr ⟨q, PySem.W.cellsFrom_some _ _ _ (Or.inl q)⟩
  refine codeAny_call_function hr.depth (KX _ _ lk) rfl S.co S.gen rfl
    (PySem.W.codeRec_of KX hcd) (hb _ _ _ _ ?_)
  refine wpAny_newFunctionEnv_cells S.kind hkind (fun env he s1 x => ?_)
  subst he
  refine ⟨lim.keeps x.toInCall.keep, codeAny_func ?_⟩
  obtain ⟨t, ht, hq⟩ := hbody cdv
  have I := inv_start (CX := CX) (E := E) S hr.hd e0 hl r x
  refine wpAny_mono (ht.run [] s1 (start N vs) H _ I hq) (fun fl s' hs => ?_) (fun e s' hs => hs)
  cases fl with
  | next =>
    obtain ⟨σ', H', J, q⟩ := hs
    exact ⟨V.non, H', J.os, J.bare, J.base, J.hok, rfl, q⟩
  | ret u =>
    obtain ⟨v, σ', H', J, rv, q⟩ := hs
    exact ⟨v, H', J.os, J.bare, J.base, J.hok, rv, q⟩
  | brk => obtain ⟨_, _, _, q⟩ := hs; exact q.elim
  | cont => obtain ⟨_, _, _, q⟩ := hs; exact q.elim

/-- a def of the text that lets nothing out, by its body -/
theorem okG {x qual : Str} {st : Stmt} {f : Addr} {fd : FuncData} {N ps : List Str} {k : Nat} {sp : Sp}
    (F : Fun K x qual st f fd) (S : FnScope N ps (defScope st))
    (len : ∀ vs H Q E, sp vs H Q E → vs.length = ps.length)
    (hbody : ∀ (cdv : Value) (A : Around) (outer : List Env) (s : Shared) (H : Hp) (vs : List V)
      (Q : VK) (E : XK), A.guards = some [] →
      Room k (A.deeper (envOfC qual (defScope st) s.heap.objs.size f cdv)) → sp vs H Q E →
      ∃ t, PSs (cxOf CX0 P w K mg base N qual (defScope st) f cdv A outer s H E).nox (defBody st) t ∧
        t { nx := fun _ H' => Q .non H', rt := Q } (start N vs) H) :
    FnG P w K mg base CX0 (k + 1) f fd ps sp := by
  refine ⟨len, fun A outer s H args us vs Q E hg hr e0 hb r hsp => ?_⟩
  refine body_at F S (len _ _ _ _ hsp) hr e0 hb r (fun cdv => ?_)
  obtain ⟨t, h, q⟩ := hbody cdv A outer s H vs Q E hg (hr.deeper _) hsp
  exact ⟨t, h.nox, q⟩
end

section
variable {X : Cx} {CX : CXT} {k : Nat} {f : Addr} {fd : FuncData} {ps : List Str} {sp : Sp}
  {dvs : List V} {ds : List Value} {E : XK}

theorem run_fnG {pins : List (Addr × Obj)} {σ : L2.St} {H : Hp} {s : Shared} {Q : VK} {us : List Value}
    {vs : List V} (F : FnG X.prog X.w X.K X.mg X.base CX k f fd ps sp) (hg : X.A.guards = some [])
    (hr : Room k X.A) (hb : Binds X.K fd ps ds) (hd : Vals dvs ds) (hx : Passes CX X E)
    (I : Inv X pins σ H s) (r : Vals vs us) (h : sp (vs ++ dvs) H Q E) :
    wpAny (model X.prog X.w) X.A (call (.ref f) us) (EP X pins σ Q) X.xe s := by
  have r2 : Vals (vs ++ dvs) (us ++ ds) := r.append hd
  have hl : (us ++ ds).length = ps.length := r2.length ▸ F.len _ _ _ _ h
  have step := F.run X.A X.stack s H ⟨us, []⟩ (us ++ ds) (vs ++ dvs) Q E hg hr I.env0
    (hb s us I.kIn hl) r2 h
  refine wpAny_call (codeAny_mono step (fun res s' hq => ?_))
  match res, hq with
  | .error e, hq => exact hx pins σ H s e s' I hq
  | .ok (.ret u), hq => exact I.after hq

/-- f(e, ..) -/
theorem pe_callG {x : Str} {p pos : Pos} {e : Expr} {es : List Expr} {t : TA}
    (F : FnG X.prog X.w X.K X.mg X.base CX k f fd ps sp) (hgd : X.A.guards = some [])
    (hr : Room k X.A) (hg : Gl X x) (hm : X.mg x = some (.ref f))
    (hk : PySem.W.keepIn X.K (.ref f) = true) (hb : Binds X.K fd ps ds) (hd : Vals dvs ds)
    (hx : Passes CX X E) (ha : PA X (e :: es) t) (hdb : (x == ("__debug__" : Str)) = false := by decide)
    (he : starEach (e :: es) X.env = (false, eval e X.env) :: starEach es X.env := by rfl)
    (hpl : (backTo pos (starEach es X.env)).any (·.1) = false := by rfl) :
    PE X (.Call (.Name x p) (e :: es) [] pos) (tCall sp dvs E t) := by
  constructor
  intro pins s σ H Q I h
  refine wpAny_Call_Name_kw (ld_glob I hg hm ?_ hdb)
  refine PySem.W.callWith_K (h₀ := X.base) I.ok.mod.kin hk (thn (ha.run pos pins s σ H _ I h)
    (fun us s1 hh => ?_)) he hpl
  obtain ⟨vs, H1, I1, r, q⟩ := hh
  exact ⟨I1.kIn, run_fnG F hgd hr hb hd hx I1 r q⟩

/-- repr(x), x data of nothing but None, bools, ints, texts, lists, tuples -/
def rRepr (K : PySem.W.Frag) : List V → Hp → VK → Prop := fun xs H Q => ∃ x d, xs = [x] ∧ Dp K H x d ∧
  d.showable = true ∧ d.hasDict = false ∧ d.depth ≤ 60 ∧ d.shown.length ≤ 16777216 ∧ Q (.str d.shown) H
theorem call_repr (hgd : X.A.guards = some []) (hr : Room k X.A) : CallR X (.builtin "repr") (rRepr X.K) := by
  intro pins s σ H vs us Q I r h
  obtain ⟨x, d, rfl, hd, hs, hn, hp, hz, q⟩ := h
  cases r with
  | cons rx rn =>
    cases rn
    rename_i u
    obtain ⟨as, rd⟩ := Dp.reads I d x u hd rx
    have hun := hr.un
    cases rd with
    | list h1 h2 h3 h4 =>
      refine repr_of_reads' (.list h1 h2 h3 h4) hs (fun z => by rw [hn] at z; cases z) hgd (by omega) (fun _ _ e => e) (fun h' tk tk' keep => ?_) (by rw [sizeLine_eq]; exact hz)
      exact ⟨.str _, H, I.kept keep, ⟨_, rfl⟩, q⟩
    | tuple h1 h2 h3 h4 =>
      refine repr_of_reads' (.tuple h1 h2 h3 h4) hs (fun z => by rw [hn] at z; cases z) hgd (by omega) (fun _ _ e => e) (fun h' tk tk' keep => ?_) (by rw [sizeLine_eq]; exact hz)
      exact ⟨.str _, H, I.kept keep, ⟨_, rfl⟩, q⟩
    | none => exact P.repr_of_none ⟨.str "None", H, I.tok _, ⟨_, rfl⟩, q⟩
    | bool b => exact P.repr_of_bool ⟨.str (if b then "True" else "False"), H, I.tok _, ⟨_, rfl⟩, q⟩
    | int i t =>
      have hb : i.natAbs.log2 < 1920 := of_decide_eq_true hs
      exact P.repr_of_int hb ⟨.str (toString i), H, I.tok _, ⟨_, rfl⟩, q⟩
    | str y t => exact P.repr_of_str (by exact ⟨.str (reprText y), H, I.tok _, ⟨_, rfl⟩, q⟩) (by rw [sizeLine_eq]; exact hz)
    | dict _ _ _ _ _ => cases hn
end
end MG
/-! QA: data D, how it lies on the heap (Fz), the store of things that change, values, steps. -/
namespace QD
open PySem PySem.Spec PyProof.Rows L2 MG
abbrev D := PyData
/-- a list that is only read: the script, a list of the text's top (no real dict has such a pair) -/
def roD (l : List D) : D := .dict [(.none, .list l)]
/-- a built-in type, a class of the text (by its number) as a value -/
def tyD (n : String) : D := .dict [(.bool true, .str n)]
def clsD (c : Nat) : D := .dict [(.bool false, .int c)]
/-- an object of the class number c: its fields in order (no real dict has such a pair) -/
def obD (c : Nat) (fs : List D) : D := .dict [(.int c, .tuple fs)]
/-- the classes: number, address, names of the fields -/
abbrev CTab := Nat → Option (Addr × List Str)

/-- a tuple, a list of the text's top -/
def KT (K : PySem.W.Frag) (a : Addr) (xs : List V) : Prop := SqT K (fun _ => none) a xs
def KL (K : PySem.W.Frag) (a : Addr) (xs : List V) : Prop := SqL K (fun _ => none) a xs
theorem KT.sq {K : PySem.W.Frag} {a : Addr} {xs : List V} (h : KT K a xs) (H : Hp) : SqT K H a xs := by
  rcases h with (h | ⟨_, h⟩) | h
  · cases h
  · cases h
  · exact .inr h
theorem KL.sq {K : PySem.W.Frag} {a : Addr} {xs : List V} (h : KL K a xs) (H : Hp) : SqL K H a xs := by
  rcases h with (h | ⟨_, h⟩) | h
  · cases h
  · cases h
  · exact .inr h
/-- a moment: what is shunned, the things that change, the heap -/
structure Mo where
  be : Addr → Prop
  rh : List Addr
  hp : Hp
abbrev Mo.sh (m : Mo) (q : Addr) : Mo := ⟨fun a => m.be a ∨ a = q, m.rh, m.hp⟩
abbrev Mo.to (m : Mo) (H : Hp) : Mo := ⟨m.be, m.rh, H⟩
/-- an object that is read and never changed -/
def Rdy (m : Mo) (a : Addr) (u : HO) : Prop := a ∉ m.rh ∧ ¬ m.be a ∧ Rd m.hp a u
def FT (K : PySem.W.Frag) (m : Mo) (a : Addr) (xs : List V) : Prop := Rdy m a (.tup xs) ∨ KT K a xs
def FL (K : PySem.W.Frag) (m : Mo) (a : Addr) (xs : List V) : Prop := Rdy m a (.lst xs) ∨ KL K a xs
theorem FT.sq {K : PySem.W.Frag} {m : Mo} {a : Addr} {xs : List V} (h : FT K m a xs) : SqT K m.hp a xs := h.elim (fun h => .inl h.2.2) fun h => h.sq _
theorem FL.sq {K : PySem.W.Frag} {m : Mo} {a : Addr} {xs : List V} (h : FL K m a xs) : SqL K m.hp a xs := h.elim (fun h => .inl h.2.2) fun h => h.sq _

mutual
inductive Fz (K : PySem.W.Frag) (ct : CTab) (m : Mo) : V → D → Prop
  | non : Fz K ct m .non .none
  | bl (b : Bool) : Fz K ct m (.bl b) (.bool b)
  | int (i : Int) : Fz K ct m (.int i) (.int i)
  | str (x : Str) : Fz K ct m (.str x) (.str x)
  | tup {a : Addr} {xs : List V} {ds : List D} : FT K m a xs → FzA K ct m xs ds → Fz K ct m (.ref a) (.tuple ds)
  | lst {a : Addr} {xs : List V} {ds : List D} : a ∉ m.rh → ¬ m.be a → m.hp a = some (.lst xs) → FzA K ct m xs ds → Fz K ct m (.ref a) (.list ds)
  | ro {a : Addr} {xs : List V} {ds : List D} : FL K m a xs → FzA K ct m xs ds → Fz K ct m (.ref a) (.dict [(.none, .list ds)])
  | ty (n : String) : Fz K ct m (.ty n) (.dict [(.bool true, .str n)])
  | cls {C : Addr} {c : Nat} {ns : List Str} : ct c = some (C, ns) → Fz K ct m (.ref C) (.dict [(.bool false, .int c)])
  | emp {a : Addr} : Rdy m a (.dK []) → Fz K ct m (.ref a) (.dict [])
  | ob {a C dx : Addr} {c : Nat} {ns : List Str} {xs : List V} {ds : List D} : ct c = some (C, ns) → a ∉ m.rh → ¬ m.be a → m.hp a = some (.ins C dx (ns.zip xs)) → ns.length = xs.length →
      FzA K ct m xs ds → Fz K ct m (.ref a) (.dict [(.int c, .tuple ds)])
inductive FzA (K : PySem.W.Frag) (ct : CTab) (m : Mo) : List V → List D → Prop
  | nil : FzA K ct m [] []
  | cons {v : V} {vs : List V} {d : D} {ds : List D} : Fz K ct m v d → FzA K ct m vs ds → FzA K ct m (v :: vs) (d :: ds)
end

/-- from one moment to a later one: new things may be ones that change; what is no such thing stays -/
structure Stp (m m' : Mo) : Prop where
  bl : ∀ a, m.be a → m'.be a
  be : ∀ a, m'.be a → m.be a ∨ (a ∉ m.rh ∧ m.hp a = none)
  ext : ∃ ex, m'.rh = m.rh ++ ex ∧ ∀ b ∈ ex, b ∉ m.rh ∧ m.hp b = none
  keep : ∀ b o, b ∉ m.rh → m.hp b = some o → m'.hp b = some o
theorem sameNew {H : Hp} {a : Addr} {o : HO} (h : H a = none) : Same H (upd H a o) := fun c u e => by
  rw [upd_ne (ne_of_none e h)]; exact e
theorem some_ne {α : Type} {x : α} {y : Option α} (e : y = some x) : y ≠ none := by rw [e]; exact fun z => nomatch z
section
variable {K : PySem.W.Frag} {ct : CTab} {m m' m1 m2 : Mo} {a q : Addr} {u o : HO} {xs : List V} {H H' : Hp}
theorem Stp.refl : Stp m m := ⟨fun _ h => h, fun _ h => .inl h, ⟨[], (List.append_nil _).symm, fun _ h => nomatch h⟩, fun _ _ _ h => h⟩
theorem Stp.same (s : Same m.hp H') : Stp m (m.to H') := ⟨fun _ h => h, fun _ h => .inl h, ⟨[], (List.append_nil _).symm, fun _ h => nomatch h⟩, fun b o _ h => s b o h⟩
/-- a new thing -/
theorem Stp.one (h : m.hp a = none) : Stp m (m.to (upd m.hp a o)) := .same (sameNew h)
theorem Stp.sub (s : Stp m m') (h : a ∈ m.rh) : a ∈ m'.rh := by
  obtain ⟨ex, e, _⟩ := s.ext
  rw [e]
  exact List.mem_append_left _ h
/-- what was there and was none that changes -/
theorem Stp.out (s : Stp m m') (h : a ∉ m.rh) (e : m.hp a ≠ none) : a ∉ m'.rh := by
  obtain ⟨ex, e1, f⟩ := s.ext
  rw [e1]
  intro z
  rcases List.mem_append.mp z with z | z
  · exact h z
  · exact e (f a z).2
/-- new in the end: new at the beginning -/
theorem Stp.new (s : Stp m m1) (h : a ∉ m1.rh) (e : m1.hp a = none) : m.hp a = none := by
  cases q : m.hp a with
  | none => rfl
  | some o =>
    have := s.keep a o (fun z => h (s.sub z)) q
    rw [e] at this
    cases this
theorem Stp.trans (s : Stp m m1) (t : Stp m1 m2) : Stp m m2 := by
  refine ⟨fun a h => t.bl a (s.bl a h), fun a h => ?_, ?_, fun b o n e => t.keep b o (s.out n (some_ne e)) (s.keep b o n e)⟩
  · rcases t.be a h with h | ⟨h1, h2⟩
    · exact s.be a h
    · exact .inr ⟨fun z => h1 (s.sub z), s.new h1 h2⟩
  obtain ⟨e1, z1, f1⟩ := s.ext
  obtain ⟨e2, z2, f2⟩ := t.ext
  refine ⟨e1 ++ e2, by rw [z2, z1, List.append_assoc], fun b h => ?_⟩
  rcases List.mem_append.mp h with h | h
  · exact f1 b h
  · exact ⟨fun z => (f2 b h).1 (s.sub z), s.new (f2 b h).1 (f2 b h).2⟩
theorem Stp.len (s : Stp m m') : m.rh.length ≤ m'.rh.length := by
  obtain ⟨ex, e, _⟩ := s.ext
  rw [e, List.length_append]; omega
theorem Stp.get (s : Stp m m') {n : Nat} (h : m.rh[n]? = some a) : m'.rh[n]? = some a := by
  obtain ⟨ex, e, _⟩ := s.ext
  rw [e, List.getElem?_append_left (List.getElem?_eq_some_iff.mp h).1]; exact h
theorem Rdy.live (h : Rdy m a u) : m.hp a ≠ none := by
  rcases h.2.2 with h | ⟨o, h⟩
  · exact some_ne h
  · exact some_ne h
theorem Stp.nbe (s : Stp m m') (h : ¬ m.be a) (e : m.hp a ≠ none) : ¬ m'.be a := fun z => (s.be a z).elim h fun y => e y.2
theorem Rdy.to (s : Stp m m') (h : Rdy m a u) : Rdy m' a u := by
  refine ⟨s.out h.1 h.live, s.nbe h.2.1 h.live, ?_⟩
  rcases h.2.2 with e | ⟨o, e⟩
  · exact .inl (s.keep _ _ h.1 e)
  · exact .inr ⟨o, s.keep _ _ h.1 e⟩
theorem FT.to (s : Stp m m') (h : FT K m a xs) : FT K m' a xs := h.imp (Rdy.to s) id
theorem FL.to (s : Stp m m') (h : FL K m a xs) : FL K m' a xs := h.imp (Rdy.to s) id
mutual
theorem Fz.to (s : Stp m m') : ∀ {v : V} {d : D}, Fz K ct m v d → Fz K ct m' v d
  | _, _, .non => .non
  | _, _, .bl b => .bl b
  | _, _, .int b => .int b
  | _, _, .str b => .str b
  | _, _, .tup h1 h2 => .tup (h1.to s) (FzA.to s h2)
  | _, _, .lst h1 h2 h3 h4 => .lst (s.out h1 (some_ne h3)) (s.nbe h2 (some_ne h3)) (s.keep _ _ h1 h3) (FzA.to s h4)
  | _, _, .ro h1 h2 => .ro (h1.to s) (FzA.to s h2)
  | _, _, .ty n => .ty n
  | _, _, .cls h => .cls h
  | _, _, .emp h => .emp (h.to s)
  | _, _, .ob h1 h2 h3 h4 h5 h6 => .ob h1 (s.out h2 (some_ne h4)) (s.nbe h3 (some_ne h4)) (s.keep _ _ h2 h4) h5 (FzA.to s h6)
theorem FzA.to (s : Stp m m') : ∀ {vs : List V} {ds : List D}, FzA K ct m vs ds → FzA K ct m' vs ds
  | _, _, .nil => .nil
  | _, _, .cons h1 h2 => .cons (Fz.to s h1) (FzA.to s h2)
end
/-! another thing is shunned; a shunned thing is changed -/
mutual
theorem Fz.mv (hq : ∀ a u, Rdy m a u → ¬ m'.be a ∧ a ∉ m'.rh ∧ ∀ o, m.hp a = some o → m'.hp a = some o) : ∀ {v : V} {d : D}, Fz K ct m v d → Fz K ct m' v d
  | _, _, .non => .non
  | _, _, .bl b => .bl b
  | _, _, .int b => .int b
  | _, _, .str b => .str b
  | _, _, .tup h1 h2 => .tup (h1.imp (fun h => ⟨(hq _ _ h).2.1, (hq _ _ h).1, h.2.2.imp ((hq _ _ h).2.2 _) fun ⟨o, e⟩ => ⟨o, (hq _ _ h).2.2 _ e⟩⟩) id) (FzA.mv hq h2)
  | _, _, .lst h1 h2 h3 h4 => .lst (hq _ _ ⟨h1, h2, .inl h3⟩).2.1 (hq _ _ ⟨h1, h2, .inl h3⟩).1 ((hq _ _ ⟨h1, h2, .inl h3⟩).2.2 _ h3) (FzA.mv hq h4)
  | _, _, .ro h1 h2 => .ro (h1.imp (fun h => ⟨(hq _ _ h).2.1, (hq _ _ h).1, h.2.2.imp ((hq _ _ h).2.2 _) fun ⟨o, e⟩ => ⟨o, (hq _ _ h).2.2 _ e⟩⟩) id) (FzA.mv hq h2)
  | _, _, .ty n => .ty n
  | _, _, .cls h => .cls h
  | _, _, .emp h => .emp ⟨(hq _ _ h).2.1, (hq _ _ h).1, h.2.2.imp ((hq _ _ h).2.2 _) fun ⟨o, e⟩ => ⟨o, (hq _ _ h).2.2 _ e⟩⟩
  | _, _, .ob h1 h2 h3 h4 h5 h6 => .ob h1 (hq _ _ ⟨h2, h3, .inl h4⟩).2.1 (hq _ _ ⟨h2, h3, .inl h4⟩).1 ((hq _ _ ⟨h2, h3, .inl h4⟩).2.2 _ h4) h5 (FzA.mv hq h6)
theorem FzA.mv (hq : ∀ a u, Rdy m a u → ¬ m'.be a ∧ a ∉ m'.rh ∧ ∀ o, m.hp a = some o → m'.hp a = some o) : ∀ {vs : List V} {ds : List D}, FzA K ct m vs ds → FzA K ct m' vs ds
  | _, _, .nil => .nil
  | _, _, .cons h1 h2 => .cons (Fz.mv hq h1) (FzA.mv hq h2)
end
theorem mv_q {o : HO} (hb : m.be q) : ∀ a u, Rdy m a u → ¬ (m.to (upd m.hp q o)).be a ∧ a ∉ (m.to (upd m.hp q o)).rh ∧ ∀ p, m.hp a = some p → (m.to (upd m.hp q o)).hp a = some p := fun a u h =>
  ⟨h.2.1, h.1, fun p e => by
    show upd m.hp q o a = some p
    rw [upd_ne (fun z => h.2.1 (by rw [z]; exact hb))]; exact e⟩
mutual
theorem Fz.avo (hq : ∀ a u, Rdy m a u → ¬ m'.be a ∧ a ∉ m'.rh) (he : m'.hp = m.hp) : ∀ {v : V} {d : D}, Fz K ct m v d → Fz K ct m' v d
  | _, _, .non => .non
  | _, _, .bl b => .bl b
  | _, _, .int b => .int b
  | _, _, .str b => .str b
  | _, _, .tup h1 h2 => .tup (h1.imp (fun h => ⟨(hq _ _ h).2, (hq _ _ h).1, by rw [he]; exact h.2.2⟩) id) (FzA.avo hq he h2)
  | _, _, .lst h1 h2 h3 h4 => .lst (hq _ _ ⟨h1, h2, .inl h3⟩).2 (hq _ _ ⟨h1, h2, .inl h3⟩).1 (by rw [he]; exact h3) (FzA.avo hq he h4)
  | _, _, .ro h1 h2 => .ro (h1.imp (fun h => ⟨(hq _ _ h).2, (hq _ _ h).1, by rw [he]; exact h.2.2⟩) id) (FzA.avo hq he h2)
  | _, _, .ty n => .ty n
  | _, _, .cls h => .cls h
  | _, _, .emp h => .emp ⟨(hq _ _ h).2, (hq _ _ h).1, by rw [he]; exact h.2.2⟩
  | _, _, .ob h1 h2 h3 h4 h5 h6 => .ob h1 (hq _ _ ⟨h2, h3, .inl h4⟩).2 (hq _ _ ⟨h2, h3, .inl h4⟩).1 (by rw [he]; exact h4) h5 (FzA.avo hq he h6)
theorem FzA.avo (hq : ∀ a u, Rdy m a u → ¬ m'.be a ∧ a ∉ m'.rh) (he : m'.hp = m.hp) : ∀ {vs : List V} {ds : List D}, FzA K ct m vs ds → FzA K ct m' vs ds
  | _, _, .nil => .nil
  | _, _, .cons h1 h2 => .cons (Fz.avo hq he h1) (FzA.avo hq he h2)
end
theorem shun_new (n : m.hp q = none) : ∀ a u, Rdy m a u → ¬ (m.sh q).be a ∧ a ∉ (m.sh q).rh := fun a u h =>
  ⟨fun z => z.elim h.2.1 fun e => h.live (by rw [e]; exact n), h.1⟩
theorem shun_off : ∀ a u, Rdy (m.sh q) a u → ¬ m.be a ∧ a ∉ m.rh := fun a u h => ⟨fun z => h.2.1 (.inl z), h.1⟩
theorem shun_loc : ∀ a u, Rdy (m.sh q) a u → ¬ (⟨m.be, m.rh ++ [q], m.hp⟩ : Mo).be a ∧ a ∉ (⟨m.be, m.rh ++ [q], m.hp⟩ : Mo).rh := fun a u h =>
  ⟨fun z => h.2.1 (.inl z), fun z => (List.mem_append.mp z).elim h.1 fun z => h.2.1 (.inr (List.mem_singleton.mp z))⟩
theorem shun_back (ex : List Addr) : ∀ a u, Rdy ⟨m.be, m.rh ++ ex, m.hp⟩ a u → ¬ m.be a ∧ a ∉ m.rh := fun a u h => ⟨h.2.1, fun z => h.1 (List.mem_append_left _ z)⟩
theorem shun_back1 : ∀ a u, Rdy ⟨m.be, m.rh ++ [q], m.hp⟩ a u → ¬ (m.sh q).be a ∧ a ∉ (m.sh q).rh := fun a u h =>
  ⟨fun z => z.elim h.2.1 fun e => h.1 (by rw [e]; simp), fun z => h.1 (List.mem_append_left _ z)⟩
theorem FzA.length : ∀ {vs : List V} {ds : List D}, FzA K ct m vs ds → vs.length = ds.length
  | _, _, .nil => rfl
  | _, _, .cons _ h => congrArg Nat.succ (FzA.length h)
theorem FzA.get : ∀ {vs : List V} {ds : List D} {i : Nat} {d : D}, FzA K ct m vs ds → ds[i]? = some d → ∃ v, vs[i]? = some v ∧ Fz K ct m v d
  | _, _, _, _, .nil, h => by simp at h
  | _, _, 0, _, .cons a _, h => by simp at h; subst h; exact ⟨_, rfl, a⟩
  | _, _, i + 1, _, .cons _ b, h => by
    obtain ⟨d, h1, h2⟩ := FzA.get (i := i) b (by simpa using h)
    exact ⟨d, by simpa using h1, h2⟩
theorem FzA.append : ∀ {vs ws : List V} {ds es : List D}, FzA K ct m vs ds → FzA K ct m ws es → FzA K ct m (vs ++ ws) (ds ++ es)
  | _, _, _, _, .nil, h => h
  | _, _, _, _, .cons a b, h => .cons a (FzA.append b h)
theorem FzA.take : ∀ {vs : List V} {ds : List D} (n : Nat), FzA K ct m vs ds → FzA K ct m (vs.take n) (ds.take n)
  | _, _, 0, _ => .nil
  | _, _, _ + 1, .nil => .nil
  | _, _, n + 1, .cons a b => .cons a (FzA.take n b)
theorem FzA.drop : ∀ {vs : List V} {ds : List D} (n : Nat), FzA K ct m vs ds → FzA K ct m (vs.drop n) (ds.drop n)
  | _, _, 0, h => h
  | _, _, _ + 1, .nil => .nil
  | _, _, n + 1, .cons _ b => FzA.drop n b
theorem FzA.set : ∀ {vs : List V} {ds : List D} {v : V} {d : D} (n : Nat), Fz K ct m v d → FzA K ct m vs ds → FzA K ct m (vs.set n v) (ds.set n d)
  | _, _, _, _, _, _, .nil => .nil
  | _, _, _, _, 0, h, .cons a b => .cons h b
  | _, _, _, _, n + 1, h, .cons a b => .cons a (FzA.set n h b)
theorem FzA.rev {vs : List V} {ds : List D} (h : FzA K ct m vs ds) : FzA K ct m vs.reverse ds.reverse := by
  induction vs generalizing ds with
  | nil => cases h; exact .nil
  | cons v vs ih =>
    cases h with
    | cons a b => rw [List.reverse_cons, List.reverse_cons]; exact (ih b).append (.cons a .nil)
theorem FzA.dropLast {vs : List V} {ds : List D} (h : FzA K ct m vs ds) : FzA K ct m vs.dropLast ds.dropLast := by
  rw [List.dropLast_eq_take, List.dropLast_eq_take, h.length]
  exact h.take _
theorem FzA.erase : ∀ {vs : List V} {ds : List D} (n : Nat), FzA K ct m vs ds → FzA K ct m (vs.eraseIdx n) (ds.eraseIdx n)
  | _, _, _, .nil => .nil
  | _, _, 0, .cons a b => b
  | _, _, n + 1, .cons a b => .cons a (FzA.erase n b)
theorem FzA.ints : ∀ {vs : List V} {ns : List Int}, FzA K ct m vs (ns.map PyData.int) → vs = ns.map V.int
  | _, [], h => by cases h; rfl
  | _, n :: ns, h => by
    cases h with
    | cons a b => cases a; rw [FzA.ints b]; rfl
theorem FzA.ofInts : ∀ (ns : List Int), FzA K ct m (ns.map V.int) (ns.map PyData.int)
  | [] => .nil
  | n :: ns => .cons (.int n) (FzA.ofInts ns)
theorem FzA.strs : ∀ {vs : List V} {ns : List Str}, FzA K ct m vs (ns.map PyData.str) → vs = ns.map V.str
  | _, [], h => by cases h; rfl
  | _, n :: ns, h => by
    cases h with
    | cons a b => cases a; rw [FzA.strs b]; rfl
theorem FzA.bls : ∀ {vs : List V} {ns : List Bool}, FzA K ct m vs (ns.map PyData.bool) → vs = ns.map V.bl
  | _, [], h => by cases h; rfl
  | _, n :: ns, h => by
    cases h with
    | cons a b => cases a; rw [FzA.bls b]; rfl
end
/-! ### things that change -/
inductive Ob where
  | lst (l : List D)
  | dk (l : List (Key × D))
  | ins (c : Nat) (fs : List (Str × D))
abbrev Sto := List Ob
theorem FzA.imp {K : PySem.W.Frag} {ct : CTab} {m m' : Mo} (f : ∀ v d, Fz K ct m v d → Fz K ct m' v d) : ∀ {vs : List V} {ds : List D}, FzA K ct m vs ds → FzA K ct m' vs ds
  | _, _, .nil => .nil
  | _, _, .cons h1 h2 => .cons (f _ _ h1) (FzA.imp f h2)
section
variable (K : PySem.W.Frag) (ct : CTab) (m : Mo)
def KvA : List (Key × V) → List (Key × D) → Prop := Paired fun p q => p.1 = q.1 ∧ Fz K ct m p.2 q.2
def SvA : List (Str × V) → List (Str × D) → Prop := Paired fun p q => p.1 = q.1 ∧ Fz K ct m p.2 q.2
def OR : HO → Ob → Prop
  | .lst xs, .lst l => FzA K ct m xs l
  | .dK kvs, .dk l => KvA K ct m kvs l
  | .ins C _ vs, .ins c fs => (∃ ns, ct c = some (C, ns)) ∧ SvA K ct m vs fs
  | _, _ => False
def ObR (a : Addr) (o : Ob) : Prop := ∃ u, m.hp a = some u ∧ OR K ct m u o
structure SR (st : Sto) : Prop where
  len : m.rh.length = st.length
  nd : m.rh.Nodup
  bl : ∀ a, m.be a → m.hp a ≠ none
  dj : ∀ a, m.be a → a ∉ m.rh
  ob : ∀ (n : Nat) (a : Addr) (o : Ob), m.rh[n]? = some a → st[n]? = some o → ObR K ct m a o
/-- a value: one that stays, a new list that nothing else knows, a thing that changes -/
inductive W where
  | fz (d : D)
  | own (l : List D)
  | loc (n : Nat)
  | nst (ks : List Nat)
def W.stays : W → Prop
  | .own _ => False
  | _ => True
/-- inner lists that change: the things with these numbers -/
def KsR : List V → List Nat → Prop := Paired fun x k => ∃ a, x = .ref a ∧ m.rh[k]? = some a
def WR : V → W → Prop
  | v, .fz d => Fz K ct m v d
  | v, .own l => ∃ q xs, v = .ref q ∧ q ∉ m.rh ∧ ¬ m.be q ∧ m.hp q = some (.lst xs) ∧ FzA K ct (m.sh q) xs l
  | v, .loc n => ∃ a, v = .ref a ∧ m.rh[n]? = some a
  | v, .nst ks => ∃ q xs, v = .ref q ∧ q ∉ m.rh ∧ ¬ m.be q ∧ m.hp q = some (.lst xs) ∧ KsR m xs ks
/-- a new list was not there before -/
def Nw (H0 : Hp) : V → W → Prop
  | v, .own _ => ∃ q, v = .ref q ∧ H0 q = none
  | _, _ => True
abbrev En := List (Option W)
structure ER (σ : L2.St) (en : En) : Prop where
  len : σ.length = en.length
  at_ : ∀ (i : Nat) (w : W), en[i]? = some (some w) → ∃ v, σ[i]? = some (some v) ∧ WR K ct m v w ∧ w.stays
end
section
variable {K : PySem.W.Frag} {ct : CTab} {m m' m1 m2 : Mo} {a q : Addr} {xs : List V} {v : V} {w : W} {st : Sto} {H' : Hp}
theorem OR.imp (f : ∀ v d, Fz K ct m v d → Fz K ct m' v d) {u : HO} {o : Ob} (h : OR K ct m u o) : OR K ct m' u o := by
  unfold OR at h ⊢
  split at h
  · exact FzA.imp f h
  · exact Paired.mapP h fun p q z => ⟨z.1, f _ _ z.2⟩
  · exact ⟨h.1, Paired.mapP h.2 fun p q z => ⟨z.1, f _ _ z.2⟩⟩
  · exact h.elim
theorem OR.lst_of {u : HO} {l : List D} (h : OR K ct m u (.lst l)) : ∃ xs, u = .lst xs ∧ FzA K ct m xs l := by
  cases u with
  | lst xs => exact ⟨xs, rfl, h⟩
  | _ => exact h.elim
theorem OR.dk_of {u : HO} {l : List (Key × D)} (h : OR K ct m u (.dk l)) : ∃ xs, u = .dK xs ∧ KvA K ct m xs l := by
  cases u with
  | dK xs => exact ⟨xs, rfl, h⟩
  | _ => exact h.elim
theorem OR.ins_of {u : HO} {c : Nat} {l : List (Str × D)} (h : OR K ct m u (.ins c l)) : ∃ C dx ns vs, u = .ins C dx vs ∧ ct c = some (C, ns) ∧ SvA K ct m vs l := by
  cases u with
  | ins C dx vs => exact ⟨C, dx, h.1.choose, vs, rfl, h.1.choose_spec, h.2⟩
  | _ => exact h.elim
theorem ObR.lst_of {l : List D} (h : ObR K ct m a (.lst l)) : ∃ xs, m.hp a = some (.lst xs) ∧ FzA K ct m xs l := by
  obtain ⟨u, e, h⟩ := h
  obtain ⟨xs, rfl, f⟩ := h.lst_of
  exact ⟨xs, e, f⟩
theorem KvA.to (s : Stp m m') {kvs : List (Key × V)} {l : List (Key × D)} (h : KvA K ct m kvs l) : KvA K ct m' kvs l := Paired.mapP h fun p q z => ⟨z.1, z.2.to s⟩
theorem Stp.sh (s : Stp m m') : Stp (m.sh q) (m'.sh q) := ⟨fun a h => h.imp (s.bl a) id, fun a h => h.elim (fun h => (s.be a h).imp .inl id) fun h => .inl (.inr h), s.ext, s.keep⟩
theorem KsR.to (s : Stp m m') {xs : List V} {ks : List Nat} (h : KsR m xs ks) : KsR m' xs ks := Paired.mapP h fun _ _ ⟨a, e, z⟩ => ⟨a, e, s.get z⟩
theorem WR.to (s : Stp m m') (h : WR K ct m v w) : WR K ct m' v w := by
  cases w with
  | fz d => exact Fz.to s h
  | own l =>
    obtain ⟨q, xs, e, n, nb, hq, f⟩ := h
    exact ⟨q, xs, e, s.out n (some_ne hq), s.nbe nb (some_ne hq), s.keep _ _ n hq, f.to s.sh⟩
  | loc n =>
    obtain ⟨a, e, h⟩ := h
    exact ⟨a, e, s.get h⟩
  | nst ks =>
    obtain ⟨q, xs, e, n, nb, hq, k⟩ := h
    exact ⟨q, xs, e, s.out n (some_ne hq), s.nbe nb (some_ne hq), s.keep _ _ n hq, k.to s⟩
theorem ER.to (s : Stp m m') {σ : L2.St} {en : En} (h : ER K ct m σ en) : ER K ct m' σ en :=
  ⟨h.len, fun i w e => let ⟨v, e1, r, k⟩ := h.at_ i w e; ⟨v, e1, r.to s, k⟩⟩
theorem WR.fz_of {l : List D} (h : WR K ct m v (.own l)) : WR K ct m v (.fz (.list l)) := by
  obtain ⟨q, xs, rfl, n, nb, hq, f⟩ := h
  exact .lst n nb hq (f.avo shun_off rfl)
/-- the list that a value is -/
def seqW (st : Sto) : W → Option (List D)
  | .fz (.list l) => some l
  | .own l => some l
  | .loc n => match st[n]? with
    | some (.lst l) => some l
    | _ => none
  | _ => none
theorem seq_ok {l : List D} (S : SR K ct m st) (h : WR K ct m v w) (e : seqW st w = some l) : ∃ a xs, v = .ref a ∧ m.hp a = some (.lst xs) ∧ FzA K ct m xs l := by
  cases w with
  | fz d =>
    cases d with
    | list l' =>
      cases e
      cases h with
      | lst h1 h2 h3 h4 => exact ⟨_, _, rfl, h3, h4⟩
    | _ => cases e
  | own l' =>
    cases e
    obtain ⟨q, xs, rfl, n, nb, hq, f⟩ := h
    exact ⟨q, xs, rfl, hq, f.avo shun_off rfl⟩
  | loc n =>
    obtain ⟨a, rfl, h⟩ := h
    unfold seqW at e
    dsimp only at e
    cases q : st[n]? with
    | none => rw [q] at e; cases e
    | some o =>
      rw [q] at e
      cases o with
      | dk _ => cases e
      | ins _ _ => cases e
      | lst l' =>
        cases e
        obtain ⟨xs, h1, h2⟩ := (S.ob n a _ h q).lst_of
        exact ⟨a, xs, rfl, h1, h2⟩
  | nst _ => cases e
/-- .. one that is only read, too -/
def seqR (st : Sto) : W → Option (List D)
  | .fz (.dict [(.none, .list l)]) => some l
  | w => seqW st w
theorem seqR_ok {l : List D} (S : SR K ct m st) (h : WR K ct m v w) (e : seqR st w = some l) : ∃ a xs, v = .ref a ∧ SqL K m.hp a xs ∧ FzA K ct m xs l := by
  unfold seqR at e
  split at e
  case h_1 l' =>
    cases e
    cases h with
    | ro h1 h2 => exact ⟨_, _, rfl, h1.sq, h2⟩
  case h_2 =>
    obtain ⟨a, xs, e1, e2, f⟩ := seq_ok S h e
    exact ⟨a, xs, e1, SqL.of e2, f⟩
theorem ObR.kept (s : Stp m m') {o : Ob} (he : m'.hp a = m.hp a) (h : ObR K ct m a o) : ObR K ct m' a o := by
  obtain ⟨u, e, h⟩ := h
  exact ⟨u, he.trans e, h.imp fun _ _ f => f.to s⟩
theorem ObR.live {o : Ob} (h : ObR K ct m a o) : m.hp a ≠ none := by
  obtain ⟨u, e, h⟩ := h
  exact some_ne e
theorem SR.get (S : SR K ct m st) {n : Nat} (h : m.rh[n]? = some a) : ∃ o, st[n]? = some o ∧ ObR K ct m a o := by
  have hl : n < st.length := by rw [← S.len]; exact (List.getElem?_eq_some_iff.mp h).1
  exact ⟨_, List.getElem?_eq_getElem hl, S.ob n a _ h (List.getElem?_eq_getElem hl)⟩
theorem SR.live (S : SR K ct m st) (h : a ∈ m.rh) : m.hp a ≠ none := by
  obtain ⟨n, hn⟩ := List.mem_iff_getElem?.mp h
  obtain ⟨o, _, r⟩ := S.get hn
  exact r.live
theorem SR.out (S : SR K ct m st) (h : m.hp a = none) : a ∉ m.rh := fun z => S.live z h
/-- the store behind what keeps all -/
theorem SR.same (S : SR K ct m st) (s : Same m.hp H') : SR K ct (m.to H') st :=
  ⟨S.len, S.nd, fun a h => by
    cases e : m.hp a with
    | none => exact absurd e (S.bl a h)
    | some u => exact some_ne (s _ _ e), S.dj, fun n a o h1 h2 => by
    have r := S.ob n a o h1 h2
    refine r.kept (.same s) ?_
    cases e : m.hp a with
    | none => exact absurd e r.live
    | some u => exact s _ _ e⟩
theorem SR.new (S : SR K ct m st) {o : HO} (h : m.hp q = none) : SR K ct (m.to (upd m.hp q o)) st := S.same (sameNew h)
/-- a thing is changed -/
theorem SR.set (S : SR K ct m st) {n : Nat} {o : Ob} {u : HO} (h : m.rh[n]? = some a) (ho : ObR K ct (m.to (upd m.hp a u)) a o) : SR K ct (m.to (upd m.hp a u)) (st.set n o) := by
  have s : Stp m (m.to (upd m.hp a u)) := ⟨fun _ h => h, fun _ h => .inl h, ⟨[], (List.append_nil _).symm, fun _ h => nomatch h⟩, fun b o nb e => by
    show upd m.hp a u b = some o
    rw [upd_ne (fun z => nb (by rw [z]; exact List.mem_of_getElem? h))]; exact e⟩
  refine ⟨by rw [List.length_set]; exact S.len, S.nd, fun b hb => ?_, S.dj, fun k b p h1 h2 => ?_⟩
  · show upd m.hp a u b ≠ none
    by_cases e : b = a
    · subst e; rw [upd_same]; exact fun z => nomatch z
    · rw [upd_ne e]; exact S.bl b hb
  by_cases e : k = n
  · subst e
    have h1' : m.rh[k]? = some b := h1
    rw [h] at h1'
    cases h1'
    have hl : k < st.length := by rw [← S.len]; exact (List.getElem?_eq_some_iff.mp h).1
    rw [List.getElem?_set_self hl] at h2
    cases h2
    exact ho
  · rw [List.getElem?_set_ne (Ne.symm e)] at h2
    have ne : b ≠ a := fun z => by
      subst z
      obtain ⟨l1, e1⟩ := List.getElem?_eq_some_iff.mp h
      obtain ⟨l2, e2⟩ := List.getElem?_eq_some_iff.mp (show m.rh[k]? = some b from h1)
      exact e ((List.getElem_inj S.nd).mp (e2.trans e1.symm))
    exact (S.ob k b p h1 h2).kept s (upd_ne ne)
theorem Stp.chg {n : Nat} {u : HO} (h : m.rh[n]? = some a) : Stp m (m.to (upd m.hp a u)) := ⟨fun _ h => h, fun _ h => .inl h, ⟨[], (List.append_nil _).symm, fun _ h => nomatch h⟩, fun b o nb e => by
    show upd m.hp a u b = some o
    rw [upd_ne (fun z => nb (by rw [z]; exact List.mem_of_getElem? h))]; exact e⟩
/-- what was made since m0 and nothing else knows becomes a thing that changes -/
abbrev Mo.add (m : Mo) (q : Addr) : Mo := ⟨m.be, m.rh ++ [q], m.hp⟩
theorem Stp.add {m0 : Mo} (s : Stp m0 m) (n : q ∉ m.rh) (h0 : m0.hp q = none) : Stp m0 (m.add q) := by
  obtain ⟨ex, e, f⟩ := s.ext
  refine ⟨s.bl, s.be, ⟨ex ++ [q], by show m.rh ++ [q] = _; rw [e, List.append_assoc], fun b hb => ?_⟩, s.keep⟩
  rcases List.mem_append.mp hb with hb | hb
  · exact f b hb
  · rw [List.mem_singleton] at hb
    subst hb
    exact ⟨fun z => n (s.sub z), h0⟩
theorem ObR.avo (hq : ∀ a u, Rdy m a u → ¬ m'.be a ∧ a ∉ m'.rh) (he : m'.hp = m.hp) {o : Ob} (h : ObR K ct m a o) : ObR K ct m' a o := by
  obtain ⟨u, e, h⟩ := h
  exact ⟨u, by rw [he]; exact e, h.imp fun _ _ f => f.avo hq he⟩
theorem SR.avo (S : SR K ct m st) (hr : m'.rh = m.rh) (hq : ∀ a u, Rdy m a u → ¬ m'.be a ∧ a ∉ m'.rh) (he : m'.hp = m.hp) (hb : ∀ a, m'.be a → m.hp a ≠ none) (hd : ∀ a, m'.be a → a ∉ m.rh) : SR K ct m' st :=
  ⟨by rw [hr]; exact S.len, by rw [hr]; exact S.nd, fun a h => by rw [he]; exact hb a h, fun a h => by rw [hr]; exact hd a h, fun n a o h1 h2 => (S.ob n a o (by rw [← hr]; exact h1) h2).avo hq he⟩
theorem SR.add (S : SR K ct (m.sh q) st) {o : Ob} (n : q ∉ m.rh) (nb : ¬ m.be q) (ho : ObR K ct (m.sh q) q o) : SR K ct (m.add q) (st ++ [o]) := by
  refine ⟨by show (m.rh ++ [q]).length = _; rw [List.length_append, List.length_append, S.len]; rfl, ?_, fun a h => S.bl a (.inl h), fun a h z => ?_, fun k a p h1 h2 => ?_⟩
  · show (m.rh ++ [q]).Nodup
    rw [List.nodup_append]
    refine ⟨S.nd, by simp, fun x hx y hy e => ?_⟩
    rw [List.mem_singleton] at hy
    exact n (by rw [← hy, ← e]; exact hx)
  · have h' : m.be a := h
    rcases List.mem_append.mp (show a ∈ m.rh ++ [q] from z) with z | z
    · exact S.dj a (.inl h') z
    · rw [List.mem_singleton] at z
      subst z
      exact nb h'
  · have h1' : (m.rh ++ [q])[k]? = some a := h1
    by_cases c : k < m.rh.length
    · rw [List.getElem?_append_left c] at h1'
      rw [List.getElem?_append_left (by rw [← S.len]; exact c)] at h2
      exact (S.ob k a p h1' h2).avo shun_loc rfl
    · rw [List.getElem?_append_right (by omega)] at h1'
      rw [List.getElem?_append_right (by rw [← S.len]; show m.rh.length ≤ k; omega)] at h2
      have e : k - m.rh.length = 0 := by
        have := (List.getElem?_eq_some_iff.mp h1').1
        simp at this
        omega
      have e2 : k - st.length = 0 := by rw [← S.len]; exact e
      rw [e] at h1'
      rw [e2] at h2
      cases h1'
      cases h2
      exact ho.avo shun_loc rfl
/-- a shunned thing is changed -/
theorem SR.chq (S : SR K ct m st) {o : HO} (hb : m.be q) (n : q ∉ m.rh) : SR K ct (m.to (upd m.hp q o)) st := by
  refine ⟨S.len, S.nd, fun a h => ?_, S.dj, fun k a p h1 h2 => ?_⟩
  · show upd m.hp q o a ≠ none
    by_cases c : a = q
    · subst c; rw [upd_same]; exact fun z => nomatch z
    · rw [upd_ne c]; exact S.bl a h
  · have r := S.ob k a p h1 h2
    have ne : a ≠ q := fun z => n (by rw [← z]; exact List.mem_of_getElem? (show m.rh[k]? = some a from h1))
    obtain ⟨u, e, h⟩ := r
    exact ⟨u, (upd_ne ne).trans e, h.imp fun _ _ f => f.mv (mv_q hb)⟩
theorem SR.off (S : SR K ct (m.sh q) st) : SR K ct m st := S.avo rfl shun_off rfl (fun a h => S.bl a (.inl h)) fun a h => S.dj a (.inl h)
/-- what an expression has come to, from m0 on -/
structure Rs (K : PySem.W.Frag) (ct : CTab) (m0 m : Mo) (st : Sto) (v : V) (w : W) : Prop where
  stp : Stp m0 m
  sr : SR K ct m st
  wr : WR K ct m v w
  nw : ∀ l, w = .own l → ∃ q, v = .ref q ∧ m0.hp q = none ∧ SR K ct (m.sh q) st
theorem Rs.fz {m0 : Mo} {d : D} (s : Stp m0 m) (S : SR K ct m st) (f : Fz K ct m v d) : Rs K ct m0 m st v (.fz d) := ⟨s, S, f, fun _ z => nomatch z⟩
theorem Rs.loc {m0 : Mo} {n : Nat} (s : Stp m0 m) (S : SR K ct m st) (f : m.rh[n]? = some a) : Rs K ct m0 m st (.ref a) (.loc n) := ⟨s, S, ⟨a, rfl, f⟩, fun _ z => nomatch z⟩
theorem Rs.pre {m0 : Mo} (s : Stp m0 m1) (r : Rs K ct m1 m st v w) : Rs K ct m0 m st v w :=
  ⟨s.trans r.stp, r.sr, r.wr, fun l e => by
    obtain ⟨q, ev, h0, S⟩ := r.nw l e
    refine ⟨q, ev, s.new (fun z => ?_) h0, S⟩
    have w' := r.wr
    subst e
    obtain ⟨q', xs, e', n, _⟩ := w'
    rw [ev] at e'
    cases e'
    exact n (r.stp.sub z)⟩
/-- a new list, made at the end -/
theorem Rs.new {m0 : Mo} (s : Stp m0 m) (S : SR K ct m st) {l : List D} (h : m.hp q = none) (f : FzA K ct m xs l) : Rs K ct m0 (m.to (upd m.hp q (.lst xs))) st (.ref q) (.own l) := by
  have st1 : Stp m (m.to (upd m.hp q (.lst xs))) := Stp.one h
  have nr := S.out h
  have nb : ¬ m.be q := fun z => S.bl q z h
  have e : (m.to (upd m.hp q (.lst xs))).hp q = some (.lst xs) := upd_same
  have sh : ∀ a u, Rdy m a u → ¬ ((m.to (upd m.hp q (.lst xs))).sh q).be a ∧ a ∉ ((m.to (upd m.hp q (.lst xs))).sh q).rh := fun a u h' => shun_new h a u h'
  have f1 : FzA K ct (m.sh q) xs l := f.avo (shun_new h) rfl
  have st2 : Stp (m.sh q) ((m.to (upd m.hp q (.lst xs))).sh q) := ⟨fun _ h => h, fun _ h => .inl h, ⟨[], (List.append_nil _).symm, fun _ h => nomatch h⟩, st1.keep⟩
  refine ⟨s.trans st1, S.new h, ⟨q, xs, rfl, nr, nb, e, f1.to st2⟩, fun _ _ => ⟨q, rfl, s.new nr h, ?_⟩⟩
  refine ⟨S.len, S.nd, fun a z => ?_, fun a z => z.elim (S.dj a) fun z => by rw [z]; exact nr, fun n a o h1 h2 => ?_⟩
  · rcases z with z | rfl
    · show upd m.hp q _ a ≠ none
      by_cases c : a = q
      · subst c; exact some_ne e
      · rw [upd_ne c]; exact S.bl a z
    · exact some_ne e
  · have r := S.ob n a o h1 h2
    have r1 : ObR K ct (m.sh q) a o := r.avo (shun_new h) rfl
    exact r1.kept st2 (upd_ne fun c => r.live (by rw [c]; exact h))
/-- .. becomes a thing that changes -/
theorem Rs.add {m0 : Mo} {l : List D} (r : Rs K ct m0 m st v (.own l)) : ∃ q, v = .ref q ∧ Stp m0 (m.add q) ∧ SR K ct (m.add q) (st ++ [.lst l]) ∧ (m.add q).rh[st.length]? = some q := by
  obtain ⟨q, e, h0, S⟩ := r.nw l rfl
  obtain ⟨q', xs, e', n, nb, hq, f⟩ := r.wr
  rw [e] at e'
  cases e'
  refine ⟨q, e, r.stp.add n h0, S.add n nb ⟨_, hq, f⟩, ?_⟩
  show (m.rh ++ [q])[st.length]? = some q
  rw [← r.sr.len, List.getElem?_append_right (Nat.le_refl _), Nat.sub_self]
  rfl
/-- what was made since m and can change is forgotten -/
abbrev Mo.cut (m' m : Mo) : Mo := ⟨m'.be, m.rh, m'.hp⟩
theorem cut_out (s : Stp m m') : ∀ a u, Rdy m' a u → ¬ (m'.cut m).be a ∧ a ∉ (m'.cut m).rh := fun a u h => ⟨h.2.1, fun z => h.1 (s.sub z)⟩
theorem Stp.cut (s : Stp m m') : Stp m (m'.cut m) := ⟨s.bl, s.be, ⟨[], (List.append_nil _).symm, fun _ h => nomatch h⟩, s.keep⟩
theorem SR.cut (S : SR K ct m' st) (s : Stp m m') {n : Nat} (hn : n = m.rh.length) : SR K ct (m'.cut m) (st.take n) := by
  obtain ⟨ex, e, _⟩ := s.ext
  have hl := S.len
  rw [e, List.length_append] at hl
  have nd := S.nd
  rw [e, List.nodup_append] at nd
  refine ⟨by rw [List.length_take]; show m.rh.length = _; omega, nd.1, S.bl, fun a h z => S.dj a h (s.sub z), fun k a o h1 h2 => ?_⟩
  have h1' : m.rh[k]? = some a := h1
  have hk : k < m.rh.length := (List.getElem?_eq_some_iff.mp h1').1
  rw [List.getElem?_take_of_lt (by omega)] at h2
  exact (S.ob k a o (s.get h1') h2).avo (cut_out s) rfl
theorem SR.cutSh (S : SR K ct (m'.sh q) st) (s : Stp m m') {n : Nat} (hn : n = m.rh.length) : SR K ct ((m'.cut m).sh q) (st.take n) := by
  obtain ⟨ex, e, _⟩ := s.ext
  have hl := S.len
  have hl : m'.rh.length = st.length := S.len
  rw [e, List.length_append] at hl
  have nd : m'.rh.Nodup := S.nd
  rw [e, List.nodup_append] at nd
  refine ⟨by rw [List.length_take]; show m.rh.length = _; omega, nd.1, S.bl, fun a h z => S.dj a h (s.sub z), fun k a o h1 h2 => ?_⟩
  have h1' : m.rh[k]? = some a := h1
  have hk : k < m.rh.length := (List.getElem?_eq_some_iff.mp h1').1
  rw [List.getElem?_take_of_lt (by omega)] at h2
  have av : ∀ a u, Rdy (m'.sh q) a u → ¬ ((m'.cut m).sh q).be a ∧ a ∉ ((m'.cut m).sh q).rh := fun a u h => ⟨h.2.1, fun z => h.1 (show a ∈ m'.rh from s.sub z)⟩
  exact (S.ob k a o (s.get h1') h2).avo av rfl
/-- a value at a def's end -/
def exitW (n : Nat) (w : W) (st : Sto) : Option (W × Sto) := match w with
  | .loc k => if k < n then some (.loc k, st.take n) else match st[k]? with
    | some (.lst l) => some (.own l, st.take n)
    | _ => none
  | .nst _ => none
  | w => some (w, st.take n)
theorem Rs.exit {w' : W} {st' : Sto} {n : Nat} (r : Rs K ct m m' st v w) (hn : n = m.rh.length) (e : exitW n w st = some (w', st')) : Rs K ct m (m'.cut m) st' v w' := by
  have s := r.stp
  have big : ∀ k a, m'.rh[k]? = some a → ¬ k < n → a ∉ m.rh ∧ m.hp a = none := fun k a h hk => by
    obtain ⟨ex, e1, f⟩ := s.ext
    rw [e1, List.getElem?_append_right (by omega)] at h
    exact f a (List.mem_of_getElem? h)
  cases w with
  | fz d =>
    cases e
    exact .fz s.cut (r.sr.cut s hn) (Fz.avo (cut_out s) rfl r.wr)
  | own l =>
    cases e
    obtain ⟨q, xs, e1, n1, nb, hq, f⟩ := r.wr
    obtain ⟨q', e2, h0, S2⟩ := r.nw l rfl
    rw [e1] at e2
    cases e2
    have av : ∀ a u, Rdy (m'.sh q) a u → ¬ ((m'.cut m).sh q).be a ∧ a ∉ ((m'.cut m).sh q).rh := fun a u h => ⟨h.2.1, fun z => h.1 (show a ∈ m'.rh from s.sub z)⟩
    refine ⟨s.cut, r.sr.cut s hn, ⟨q, xs, e1, fun z => n1 (s.sub z), nb, hq, f.avo av rfl⟩, fun _ _ => ⟨q, e1, h0, S2.cutSh s hn⟩⟩
  | nst ks => cases e
  | loc k =>
    unfold exitW at e
    dsimp only at e
    obtain ⟨a, rfl, ha⟩ := r.wr
    split at e
    case isTrue c =>
      cases e
      refine .loc s.cut (r.sr.cut s hn) ?_
      obtain ⟨ex, e1, f⟩ := s.ext
      rw [e1, List.getElem?_append_left (by omega)] at ha
      exact ha
    case isFalse c =>
      obtain ⟨o, ho, hb⟩ := r.sr.get ha
      rw [ho] at e
      cases o with
      | dk l => cases e
      | ins _ _ => cases e
      | lst l =>
        cases e
        obtain ⟨xs, e1, f⟩ := hb.lst_of
        obtain ⟨na, h0⟩ := big k a ha c
        have av : ∀ b u, Rdy m' b u → ¬ ((m'.cut m).sh a).be b ∧ b ∉ ((m'.cut m).sh a).rh := fun b u h => ⟨fun z => Or.elim z h.2.1 fun e => h.1 (by rw [e]; exact List.mem_of_getElem? ha), fun z => h.1 (s.sub z)⟩
        have S2 := r.sr.cut s hn
        refine ⟨s.cut, S2, ⟨a, xs, rfl, na, fun z => r.sr.dj a z (List.mem_of_getElem? ha), e1, f.avo av rfl⟩, fun _ _ => ⟨a, rfl, h0, ?_⟩⟩
        refine ⟨S2.len, S2.nd, fun b h => Or.elim h (S2.bl b) fun z => by rw [z]; exact some_ne e1, fun b h => Or.elim h (S2.dj b) fun z => by rw [z]; exact na, fun j b o h1 h2 => ?_⟩
        have hj : j < m.rh.length := (List.getElem?_eq_some_iff.mp (show m.rh[j]? = some b from h1)).1
        rw [List.getElem?_take_of_lt (by omega)] at h2
        exact (r.sr.ob j b o (s.get h1) h2).avo av rfl
end
end QD
/-! QB: what a piece of a program does to data and to the store (denotations), and that its reading follows. -/
namespace QD
open PySem PySem.Spec PyProof.Rows L2 MG
inductive Rt (α : Type) where
  | ok (a : α) (st : Sto)
  | ex (c : Str) (p : Option (Str × D)) (st : Sto)
  | no
def Rt.bind {α β : Type} : Rt α → (α → Sto → Rt β) → Rt β
  | .ok a st, f => f a st
  | .ex c p st, _ => .ex c p st
  | .no, _ => .no
@[simp] theorem Rt.bind_ok {α β : Type} {a : α} {st : Sto} {f : α → Sto → Rt β} : (Rt.ok a st).bind f = f a st := rfl
@[simp] theorem Rt.bind_ex {α β : Type} {c : Str} {p : Option (Str × D)} {st : Sto} {f : α → Sto → Rt β} : (Rt.ex c p st : Rt α).bind f = .ex c p st := rfl
@[simp] theorem Rt.bind_no {α β : Type} {f : α → Sto → Rt β} : (Rt.no : Rt α).bind f = .no := rfl
/-- the text's part, the classes, the errors' classes -/
structure Cf where
  K : PySem.W.Frag
  ct : CTab
  ce : Str → Addr
/-- an error's own dict -/
def ExD (cf : Cf) (m : Mo) : Option (Str × D) → Option Addr → Prop
  | some (f, d), dd => ∃ a v, dd = some a ∧ m.hp a = some (.xd [(f, v)]) ∧ Fz cf.K cf.ct m v d
  | none, _ => True
section
variable (cf : Cf) (E : XK) (m : Mo)
def Xe (c : Str) (p : Option (Str × D)) (st : Sto) : Prop := ∀ m' dd, Stp m m' → SR cf.K cf.ct m' st → ExD cf m' p dd → E (.ref (cf.ce c)) dd m'.hp
def Pe (Q : VK) : Rt W → Prop
  | .ok w st => ∀ v m', Rs cf.K cf.ct m m' st v w → Q v m'.hp
  | .ex c p st => Xe cf E m c p st
  | .no => False
def Pt (Q : Bool → Hp → Prop) : Rt Bool → Prop
  | .ok b st => ∀ m', Stp m m' → SR cf.K cf.ct m' st → Q b m'.hp
  | .ex c p st => Xe cf E m c p st
  | .no => False
inductive WRs (m : Mo) : List V → List W → Prop
  | nil : WRs m [] []
  | cons {v vs w ws} : WR cf.K cf.ct m v w → WRs m vs ws → WRs m (v :: vs) (w :: ws)
def Pa (Q : List V → Hp → Prop) : Rt (List W) → Prop
  | .ok ws st => ∀ vs m', Stp m m' → SR cf.K cf.ct m' st → WRs cf m' vs ws → Q vs m'.hp
  | .ex c p st => Xe cf E m c p st
  | .no => False
inductive Sx where
  | go (en : En) (st : Sto)
  | rt (w : W) (st : Sto)
  | bk (en : En) (st : Sto)
  | ct (en : En) (st : Sto)
  | ex (c : Str) (p : Option (Str × D)) (st : Sto)
  | no
def Px (D : Ends) : Sx → Prop
  | .go en st => ∀ σ m', Stp m m' → ER cf.K cf.ct m' σ en → SR cf.K cf.ct m' st → D.nx σ m'.hp
  | .bk en st => ∀ σ m', Stp m m' → ER cf.K cf.ct m' σ en → SR cf.K cf.ct m' st → D.bk σ m'.hp
  | .ct en st => ∀ σ m', Stp m m' → ER cf.K cf.ct m' σ en → SR cf.K cf.ct m' st → D.ct σ m'.hp
  | .rt w st => ∀ v m', Rs cf.K cf.ct m m' st v w → D.rt v m'.hp
  | .ex c p st => Xe cf E m c p st
  | .no => False
def Pg (vs : List Nat) (σ : L2.St) (Q : L2.St → Hp → Prop) : Rt En → Prop
  | .ok en st => ∀ σ' m', Stp m m' → ER cf.K cf.ct m' σ' en → SR cf.K cf.ct m' st → (∀ i, i ∉ vs → σ'[i]? = σ[i]?) → σ'.length = σ.length → Q σ' m'.hp
  | .ex c p st => Xe cf E m c p st
  | .no => False
end
abbrev Dn := En → Sto → Rt W
abbrev DnT := En → Sto → Rt Bool
abbrev DnA := En → Sto → Rt (List W)
abbrev DnS := En → Sto → Sx
abbrev DnG := W → En → Sto → Rt En
section
variable (cf : Cf) (E : XK)
def Ev (t : TE) (d : Dn) : Prop := ∀ m σ en st Q, ER cf.K cf.ct m σ en → SR cf.K cf.ct m st → Pe cf E m Q (d en st) → t σ m.hp Q
def Et (t : TT) (d : DnT) : Prop := ∀ m σ en st Q, ER cf.K cf.ct m σ en → SR cf.K cf.ct m st → Pt cf E m Q (d en st) → t σ m.hp Q
def Ea (t : TA) (d : DnA) : Prop := ∀ m σ en st Q, ER cf.K cf.ct m σ en → SR cf.K cf.ct m st → Pa cf E m Q (d en st) → t σ m.hp Q
def Es (t : TS) (d : DnS) : Prop := ∀ m σ en st D, ER cf.K cf.ct m σ en → SR cf.K cf.ct m st → Px cf E m D (d en st) → t D σ m.hp
/-- a target; only the slots of vs are set -/
def Eg (vs : List Nat) (g : TG) (d : DnG) : Prop := ∀ m σ en st v w Q, ER cf.K cf.ct m σ en → SR cf.K cf.ct m st → WR cf.K cf.ct m v w → Pg cf E m vs σ Q (d w en st) → g v σ m.hp Q
def Egs (vs : List Nat) (g : TGs) (d : List D → En → Sto → Rt En) : Prop := ∀ m σ en st us ds Q, ER cf.K cf.ct m σ en → SR cf.K cf.ct m st → FzA cf.K cf.ct m us ds → Pg cf E m vs σ Q (d ds en st) → g us σ m.hp Q
/-- operations by values -/
def Op2 (r : R2) (f : W → W → Sto → Rt W) : Prop := ∀ m st v1 v2 w1 w2 Q, SR cf.K cf.ct m st → WR cf.K cf.ct m v1 w1 → WR cf.K cf.ct m v2 w2 → Pe cf E m Q (f w1 w2 st) → r v1 v2 m.hp Q
def Op1 (r : V → Hp → VK → Prop) (f : W → Sto → Rt W) : Prop := ∀ m st v w Q, SR cf.K cf.ct m st → WR cf.K cf.ct m v w → Pe cf E m Q (f w st) → r v m.hp Q
def OpN (r : List V → Hp → VK → Prop) (f : List W → Sto → Rt W) : Prop := ∀ m st vs ws Q, SR cf.K cf.ct m st → WRs cf m vs ws → Pe cf E m Q (f ws st) → r vs m.hp Q
/-- a method of a builtin type, of a value -/
def OpM (T : String) (r : V → List V → Hp → VK → Prop) (f : W → List W → Sto → Rt W) (ty : W → Sto → Prop) : Prop :=
  (∀ m st v w, SR cf.K cf.ct m st → WR cf.K cf.ct m v w → ty w st → tyV cf.K T v m.hp) ∧
  ∀ m st v w vs ws Q, SR cf.K cf.ct m st → WR cf.K cf.ct m v w → WRs cf m vs ws → Pe cf E m Q (f w ws st) → r v vs m.hp Q
end
section
variable {cf : Cf} {E : XK} {m m1 : Mo} {st : Sto}
theorem Xe.pre {c : Str} {p : Option (Str × D)} (s : Stp m m1) (h : Xe cf E m c p st) : Xe cf E m1 c p st := fun m' dd t S x => h m' dd (s.trans t) S x
theorem Pe.pre {Q : VK} {r : Rt W} (s : Stp m m1) (h : Pe cf E m Q r) : Pe cf E m1 Q r := by
  cases r with
  | ok w st => exact fun v m' q => h v m' (q.pre s)
  | ex c p st => exact Xe.pre s h
  | no => exact h
theorem Pt.pre {Q : Bool → Hp → Prop} {r : Rt Bool} (s : Stp m m1) (h : Pt cf E m Q r) : Pt cf E m1 Q r := by
  cases r with
  | ok w st => exact fun m' q => h m' (s.trans q)
  | ex c p st => exact Xe.pre s h
  | no => exact h
theorem Pa.pre {Q : List V → Hp → Prop} {r : Rt (List W)} (s : Stp m m1) (h : Pa cf E m Q r) : Pa cf E m1 Q r := by
  cases r with
  | ok w st => exact fun vs m' q => h vs m' (s.trans q)
  | ex c p st => exact Xe.pre s h
  | no => exact h
theorem Px.pre {D : Ends} {r : Sx} (s : Stp m m1) (h : Px cf E m D r) : Px cf E m1 D r := by
  cases r with
  | go en st => exact fun σ m' q => h σ m' (s.trans q)
  | bk en st => exact fun σ m' q => h σ m' (s.trans q)
  | ct en st => exact fun σ m' q => h σ m' (s.trans q)
  | rt w st => exact fun v m' q => h v m' (q.pre s)
  | ex c p st => exact Xe.pre s h
  | no => exact h
theorem Pg.pre {vs : List Nat} {σ : L2.St} {Q : L2.St → Hp → Prop} {r : Rt En} (s : Stp m m1) (h : Pg cf E m vs σ Q r) : Pg cf E m1 vs σ Q r := by
  cases r with
  | ok en st => exact fun σ m' q => h σ m' (s.trans q)
  | ex c p st => exact Xe.pre s h
  | no => exact h
theorem WRs.to {vs : List V} {ws : List W} (s : Stp m m1) : WRs cf m vs ws → WRs cf m1 vs ws := fun h => by
  induction h with
  | nil => exact .nil
  | cons a b ih => exact .cons (a.to s) ih
/-! ### expressions -/
theorem Rs.keep {v : V} {w : W} (S : SR cf.K cf.ct m st) (r : WR cf.K cf.ct m v w) (k : w.stays) : Rs cf.K cf.ct m m st v w := ⟨Stp.refl, S, r, fun l e => by subst e; exact k.elim⟩
def dVar (i : Nat) : Dn := fun en st => match en[i]? with
  | some (some w) => .ok w st
  | _ => .no
theorem ev_var {i : Nat} : Ev cf E (tVar i) (dVar i) := fun m σ en st Q er S h => by
  unfold dVar at h
  cases e : en[i]? with
  | none => rw [e] at h; exact h.elim
  | some o =>
    cases o with
    | none => rw [e] at h; exact h.elim
    | some w =>
      rw [e] at h
      obtain ⟨v, hv, r, k⟩ := er.at_ i w e
      exact ⟨v, hv, h v m (.keep S r k)⟩
def dC (d : D) : Dn := fun _ st => .ok (.fz d) st
theorem ev_c {v : V} {d : D} (h : ∀ m, Fz cf.K cf.ct m v d) : Ev cf E (tC v) (dC d) := fun m σ en st Q er S q => q v m (.fz Stp.refl S (h m))
theorem ev_int {i : Int} : Ev cf E (tC (.int i)) (dC (.int i)) := ev_c fun _ => .int i
theorem ev_bl {b : Bool} : Ev cf E (tC (.bl b)) (dC (.bool b)) := ev_c fun _ => .bl b
theorem ev_str {b : Str} : Ev cf E (tC (.str b)) (dC (.str b)) := ev_c fun _ => .str b
theorem ev_non : Ev cf E (tC .non) (dC .none) := ev_c fun _ => .non
/-- two in a row, then an operation -/
def dOp (f : W → W → Sto → Rt W) (a b : Dn) : Dn := fun en st => (a en st).bind fun x st1 => (b en st1).bind fun y st2 => f x y st2
theorem ev_op {r : R2} {f : W → W → Sto → Rt W} {ta tb : TE} {a b : Dn} (o : Op2 cf E r f) (ha : Ev cf E ta a) (hb : Ev cf E tb b) : Ev cf E (tOp r ta tb) (dOp f a b) := fun m σ en st Q er S h => by
  refine ha m σ en st _ er S ?_
  unfold dOp at h
  cases e : a en st with
  | ex c p st1 => rw [e] at h; exact h
  | no => rw [e] at h; exact h
  | ok x st1 =>
    rw [e] at h
    intro v m1 r1
    refine hb m1 σ en st1 _ (er.to r1.stp) r1.sr ?_
    replace h : Pe cf E m Q ((b en st1).bind fun y st2 => f x y st2) := h
    cases e2 : b en st1 with
    | ex c p st2 => rw [e2] at h; exact Xe.pre r1.stp h
    | no => rw [e2] at h; exact h
    | ok y st2 =>
      rw [e2] at h
      intro u m2 r2
      exact o m2 st2 v u x y Q r2.sr (r1.wr.to r2.stp) r2.wr (Pe.pre (r1.stp.trans r2.stp) h)
def dUn (f : W → Sto → Rt W) (a : Dn) : Dn := fun en st => (a en st).bind fun x st1 => f x st1
theorem ev_un {r : V → Hp → VK → Prop} {f : W → Sto → Rt W} {ta : TE} {a : Dn} (o : Op1 cf E r f) (ha : Ev cf E ta a) : Ev cf E (tUn r ta) (dUn f a) := fun m σ en st Q er S h => by
  refine ha m σ en st _ er S ?_
  unfold dUn at h
  cases e : a en st with
  | ex c p st1 => rw [e] at h; exact h
  | no => rw [e] at h; exact h
  | ok x st1 =>
    rw [e] at h
    intro v m1 r1
    exact o m1 st1 v x Q r1.sr r1.wr (Pe.pre r1.stp h)
/-! ### arguments, displays -/
def aNil : DnA := fun _ st => .ok [] st
theorem ea_nil : Ea cf E tNil aNil := fun m σ en st Q er S h => h [] m Stp.refl S .nil
def aCons (a : Dn) (b : DnA) : DnA := fun en st => (a en st).bind fun x st1 => (b en st1).bind fun xs st2 => .ok (x :: xs) st2
theorem ea_cons {te : TE} {tr : TA} {a : Dn} {b : DnA} (ha : Ev cf E te a) (hb : Ea cf E tr b) : Ea cf E (tCons te tr) (aCons a b) := fun m σ en st Q er S h => by
  refine ha m σ en st _ er S ?_
  unfold aCons at h
  cases e : a en st with
  | ex c p st1 => rw [e] at h; exact h
  | no => rw [e] at h; exact h
  | ok x st1 =>
    rw [e] at h
    intro v m1 r1
    refine hb m1 σ en st1 _ (er.to r1.stp) r1.sr ?_
    replace h : Pa cf E m Q ((b en st1).bind fun xs st2 => .ok (x :: xs) st2) := h
    cases e2 : b en st1 with
    | ex c p st2 => rw [e2] at h; exact Xe.pre r1.stp h
    | no => rw [e2] at h; exact h
    | ok y st2 =>
      rw [e2] at h
      intro us m2 s2 S2 r2
      exact h (v :: us) m2 (r1.stp.trans s2) S2 (.cons (r1.wr.to s2) r2)
/-- a call of a builtin -/
def dN (f : List W → Sto → Rt W) (a : DnA) : Dn := fun en st => (a en st).bind fun xs st1 => f xs st1
theorem ev_cb {r : List V → Hp → VK → Prop} {f : List W → Sto → Rt W} {t : TA} {a : DnA} (o : OpN cf E r f) (ha : Ea cf E t a) : Ev cf E (tCB r t) (dN f a) := fun m σ en st Q er S h => by
  refine ha m σ en st _ er S ?_
  unfold dN at h
  cases e : a en st with
  | ex c p st1 => rw [e] at h; exact h
  | no => rw [e] at h; exact h
  | ok x st1 =>
    rw [e] at h
    intro vs m1 s1 S1 r1
    exact o m1 st1 vs x Q S1 r1 (Pe.pre s1 h)
/-- the data of a value that goes into a tuple, a list -/
def datW : W → Option D
  | .fz d => some d
  | .own l => some (.list l)
  | .loc _ => none
  | .nst _ => none
def datWs : List W → Option (List D)
  | [] => some []
  | w :: ws => match datW w, datWs ws with
    | some d, some ds => some (d :: ds)
    | _, _ => none
theorem dat_ok {v : V} {w : W} {d : D} (r : WR cf.K cf.ct m v w) (e : datW w = some d) : Fz cf.K cf.ct m v d := by
  cases w with
  | fz d' => cases e; exact r
  | own l => cases e; exact r.fz_of
  | loc n => cases e
  | nst _ => cases e
theorem dats_ok : ∀ {vs : List V} {ws : List W} {ds : List D}, WRs cf m vs ws → datWs ws = some ds → FzA cf.K cf.ct m vs ds
  | _, _, _, .nil, e => by cases e; exact .nil
  | _, w :: ws, ds, .cons a b, e => by
    unfold datWs at e
    cases e1 : datW w with
    | none => rw [e1] at e; cases e
    | some d =>
      cases e2 : datWs ws with
      | none => rw [e1, e2] at e; cases e
      | some ds' =>
        rw [e1, e2] at e
        cases e
        exact .cons (dat_ok a e1) (dats_ok b e2)
def fTup (ws : List W) (st : Sto) : Rt W := match datWs ws with
  | some ds => if ds.length ≤ sizeLine then .ok (.fz (.tuple ds)) st else .no
  | none => .no
def fLst (ws : List W) (st : Sto) : Rt W := match datWs ws with
  | some ds => if ds.length ≤ sizeLine then .ok (.own ds) st else .no
  | none => .no
theorem Rs.newTup {a : Addr} {xs : List V} {ds : List D} (S : SR cf.K cf.ct m st) (h : m.hp a = none) (f : FzA cf.K cf.ct m xs ds) : Rs cf.K cf.ct m (m.to (upd m.hp a (.tup xs))) st (.ref a) (.fz (.tuple ds)) :=
  .fz (Stp.one h) (S.new h) (.tup (.inl ⟨S.out h, fun z => S.bl a z h, .inl upd_same⟩) (f.to (Stp.one h)))
theorem ev_tup {t : TA} {a : DnA} (ha : Ea cf E t a) : Ev cf E (tTup t) (dN fTup a) := fun m σ en st Q er S h => by
  refine ha m σ en st _ er S ?_
  unfold dN at h
  cases e : a en st with
  | ex c p st1 => rw [e] at h; exact h
  | no => rw [e] at h; exact h
  | ok x st1 =>
    rw [e] at h
    intro vs m1 s1 S1 r1
    replace h : Pe cf E m Q (fTup x st1) := h
    unfold fTup at h
    cases e2 : datWs x with
    | none => rw [e2] at h; exact h.elim
    | some ds =>
      rw [e2] at h
      dsimp only at h
      have f := dats_ok r1 e2
      split at h
      case isTrue c =>
        refine ⟨by rw [f.length]; exact c, fun p hp => ?_⟩
        exact h _ _ ((Rs.newTup S1 hp f).pre s1)
      case isFalse c => exact h.elim
theorem ev_lst {t : TA} {a : DnA} (ha : Ea cf E t a) : Ev cf E (tLst t) (dN fLst a) := fun m σ en st Q er S h => by
  refine ha m σ en st _ er S ?_
  unfold dN at h
  cases e : a en st with
  | ex c p st1 => rw [e] at h; exact h
  | no => rw [e] at h; exact h
  | ok x st1 =>
    rw [e] at h
    intro vs m1 s1 S1 r1
    replace h : Pe cf E m Q (fLst x st1) := h
    unfold fLst at h
    cases e2 : datWs x with
    | none => rw [e2] at h; exact h.elim
    | some ds =>
      rw [e2] at h
      dsimp only at h
      have f := dats_ok r1 e2
      split at h
      case isTrue c =>
        refine ⟨by rw [f.length]; exact c, fun p hp => ?_⟩
        exact h _ _ (Rs.new s1 S1 hp f)
      case isFalse c => exact h.elim
/-- a new list is to change -/
def dLoc (a : Dn) : Dn := fun en st => (a en st).bind fun x st1 => match x with
  | .own l => .ok (.loc st1.length) (st1 ++ [.lst l])
  | _ => .no
theorem ev_loc {t : TE} {a : Dn} (ha : Ev cf E t a) : Ev cf E t (dLoc a) := fun m σ en st Q er S h => by
  refine ha m σ en st Q er S ?_
  unfold dLoc at h
  cases e : a en st with
  | ex c p st1 => rw [e] at h; exact h
  | no => rw [e] at h; exact h
  | ok x st1 =>
    rw [e] at h
    intro v m1 r1
    cases x with
    | fz _ => exact h.elim
    | loc _ => exact h.elim
    | nst _ => exact h.elim
    | own l =>
      obtain ⟨q, rfl, s, S2, hq⟩ := r1.add
      exact h (.ref q) (m1.add q) (.loc s S2 hq)
/-! ### tests -/
def tst : W → Option Bool
  | .fz (.bool b) => some b
  | _ => none
theorem tst_ok {v : V} {w : W} {b : Bool} (r : WR cf.K cf.ct m v w) (e : tst w = some b) : v = .bl b := by
  cases w with
  | fz d => cases d with
    | bool b' => cases e; cases r; rfl
    | _ => cases e
  | _ => cases e
def bT (a : Dn) : DnT := fun en st => (a en st).bind fun x st1 => match tst x with
  | some b => .ok b st1
  | none => .no
theorem et_b {t : TE} {a : Dn} (ha : Ev cf E t a) : Et cf E (tB t) (bT a) := fun m σ en st Q er S h => by
  refine ha m σ en st _ er S ?_
  unfold bT at h
  cases e : a en st with
  | ex c p st1 => rw [e] at h; exact h
  | no => rw [e] at h; exact h
  | ok x st1 =>
    rw [e] at h
    intro v m1 r1
    replace h : Pt cf E m Q (match tst x with | some b => .ok b st1 | none => .no) := h
    cases e2 : tst x with
    | none => rw [e2] at h; exact h.elim
    | some b =>
      rw [e2] at h
      exact ⟨b, tst_ok r1.wr e2, h m1 r1.stp r1.sr⟩
theorem et_t {t : TE} {a : Dn} (ha : Ev cf E t a) : Et cf E (tTest t) (bT a) := et_b ha
def bAnd (a b : DnT) : DnT := fun en st => (a en st).bind fun x st1 => if x = true then b en st1 else .ok false st1
def bOr (a b : DnT) : DnT := fun en st => (a en st).bind fun x st1 => if x = true then .ok true st1 else b en st1
def bNot (a : DnT) : DnT := fun en st => (a en st).bind fun x st1 => .ok (!x) st1
theorem et_and {t u : TT} {a b : DnT} (ha : Et cf E t a) (hb : Et cf E u b) : Et cf E (tAnd t u) (bAnd a b) := fun m σ en st Q er S h => by
  refine ha m σ en st _ er S ?_
  unfold bAnd at h
  cases e : a en st with
  | ex c p st1 => rw [e] at h; exact h
  | no => rw [e] at h; exact h
  | ok x st1 =>
    rw [e] at h
    intro m1 s1 S1
    replace h : Pt cf E m Q (if x = true then b en st1 else .ok false st1) := h
    cases x with
    | true => exact hb m1 σ en st1 Q (er.to s1) S1 (Pt.pre s1 h)
    | false => exact h m1 s1 S1
theorem et_or {t u : TT} {a b : DnT} (ha : Et cf E t a) (hb : Et cf E u b) : Et cf E (tOr t u) (bOr a b) := fun m σ en st Q er S h => by
  refine ha m σ en st _ er S ?_
  unfold bOr at h
  cases e : a en st with
  | ex c p st1 => rw [e] at h; exact h
  | no => rw [e] at h; exact h
  | ok x st1 =>
    rw [e] at h
    intro m1 s1 S1
    replace h : Pt cf E m Q (if x = true then .ok true st1 else b en st1) := h
    cases x with
    | false => exact hb m1 σ en st1 Q (er.to s1) S1 (Pt.pre s1 h)
    | true => exact h m1 s1 S1
theorem et_not {t : TT} {a : DnT} (ha : Et cf E t a) : Et cf E (tNot t) (bNot a) := fun m σ en st Q er S h => by
  refine ha m σ en st _ er S ?_
  unfold bNot at h
  cases e : a en st with
  | ex c p st1 => rw [e] at h; exact h
  | no => rw [e] at h; exact h
  | ok x st1 => rw [e] at h; exact h
theorem et_yes : Et cf E tYes (fun _ st => .ok true st) := fun m σ en st Q er S h => h m Stp.refl S
/-- and, or, not as values -/
def dAnd (a b : Dn) : Dn := fun en st => (a en st).bind fun x st1 => match tst x with
  | some true => b en st1
  | some false => .ok (.fz (.bool false)) st1
  | none => .no
def dOr (a b : Dn) : Dn := fun en st => (a en st).bind fun x st1 => match tst x with
  | some true => .ok (.fz (.bool true)) st1
  | some false => b en st1
  | none => .no
def dNot (a : Dn) : Dn := fun en st => (a en st).bind fun x st1 => match tst x with
  | some b => .ok (.fz (.bool (!b))) st1
  | none => .no
theorem ev_and {t u : TE} {a b : Dn} (ha : Ev cf E t a) (hb : Ev cf E u b) : Ev cf E (tAndV t u) (dAnd a b) := fun m σ en st Q er S h => by
  refine ha m σ en st _ er S ?_
  unfold dAnd at h
  cases e : a en st with
  | ex c p st1 => rw [e] at h; exact h
  | no => rw [e] at h; exact h
  | ok x st1 =>
    rw [e, Rt.bind_ok] at h
    intro v m1 r1
    cases e2 : tst x with
    | none => rw [e2] at h; exact h.elim
    | some c =>
      rw [e2] at h
      refine ⟨c, tst_ok r1.wr e2, ?_⟩
      cases c with
      | true => exact hb m1 σ en st1 Q (er.to r1.stp) r1.sr (Pe.pre r1.stp h)
      | false => exact h _ m1 (.fz r1.stp r1.sr (.bl false))
theorem ev_or {t u : TE} {a b : Dn} (ha : Ev cf E t a) (hb : Ev cf E u b) : Ev cf E (tOrV t u) (dOr a b) := fun m σ en st Q er S h => by
  refine ha m σ en st _ er S ?_
  unfold dOr at h
  cases e : a en st with
  | ex c p st1 => rw [e] at h; exact h
  | no => rw [e] at h; exact h
  | ok x st1 =>
    rw [e, Rt.bind_ok] at h
    intro v m1 r1
    cases e2 : tst x with
    | none => rw [e2] at h; exact h.elim
    | some c =>
      rw [e2] at h
      refine ⟨c, tst_ok r1.wr e2, ?_⟩
      cases c with
      | false => exact hb m1 σ en st1 Q (er.to r1.stp) r1.sr (Pe.pre r1.stp h)
      | true => exact h _ m1 (.fz r1.stp r1.sr (.bl true))
theorem ev_not {t : TE} {a : Dn} (ha : Ev cf E t a) : Ev cf E (tNotV t) (dNot a) := fun m σ en st Q er S h => by
  refine ha m σ en st _ er S ?_
  unfold dNot at h
  cases e : a en st with
  | ex c p st1 => rw [e] at h; exact h
  | no => rw [e] at h; exact h
  | ok x st1 =>
    rw [e, Rt.bind_ok] at h
    intro v m1 r1
    cases e2 : tst x with
    | none => rw [e2] at h; exact h.elim
    | some c =>
      rw [e2] at h
      exact ⟨c, tst_ok r1.wr e2, h _ m1 (.fz r1.stp r1.sr (.bl _))⟩
def dIf (c : DnT) (a b : Dn) : Dn := fun en st => (c en st).bind fun x st1 => if x = true then a en st1 else b en st1
theorem ev_if {t : TT} {ta tb : TE} {c : DnT} {a b : Dn} (hc : Et cf E t c) (ha : Ev cf E ta a) (hb : Ev cf E tb b) : Ev cf E (tIf t ta tb) (dIf c a b) := fun m σ en st Q er S h => by
  refine hc m σ en st _ er S ?_
  unfold dIf at h
  cases e : c en st with
  | ex c p st1 => rw [e] at h; exact h
  | no => rw [e] at h; exact h
  | ok x st1 =>
    rw [e, Rt.bind_ok] at h
    intro m1 s1 S1
    cases x with
    | true => exact ha m1 σ en st1 Q (er.to s1) S1 (Pe.pre s1 h)
    | false => exact hb m1 σ en st1 Q (er.to s1) S1 (Pe.pre s1 h)
/-- a chain of two comparisons -/
def dChain (f g : W → W → Sto → Rt W) (a b c : Dn) : Dn := fun en st => (a en st).bind fun x st1 => (b en st1).bind fun y st2 => (f x y st2).bind fun z st3 => match tst z with
  | some true => (c en st3).bind fun u st4 => g y u st4
  | some false => .ok (.fz (.bool false)) st3
  | none => .no
end
end QD
/-! QC: chains, truth, statements, targets, loops, comprehensions. -/
namespace QD
open PySem PySem.Spec PyProof.Rows L2 MG
section
variable {cf : Cf} {E : XK} {m m1 : Mo} {st : Sto}
theorem ev_chain {r r' : R2} {f g : W → W → Sto → Rt W} {ta tb tc : TE} {a b c : Dn} (o : Op2 cf E r f) (o' : Op2 cf E r' g) (ha : Ev cf E ta a) (hb : Ev cf E tb b) (hc : Ev cf E tc c) : Ev cf E (tChain r r' ta tb tc) (dChain f g a b c) := fun m σ en st Q er S h => by
  refine ha m σ en st _ er S ?_
  unfold dChain at h
  cases e : a en st with
  | ex c p st1 => rw [e] at h; exact h
  | no => rw [e] at h; exact h
  | ok x st1 =>
    rw [e, Rt.bind_ok] at h
    intro v m1 r1
    refine hb m1 σ en st1 _ (er.to r1.stp) r1.sr ?_
    cases e2 : b en st1 with
    | ex c p st2 => rw [e2] at h; exact Xe.pre r1.stp h
    | no => rw [e2] at h; exact h
    | ok y st2 =>
      rw [e2, Rt.bind_ok] at h
      intro u m2 r2
      refine o m2 st2 v u x y _ r2.sr (r1.wr.to r2.stp) r2.wr ?_
      have s2 := r1.stp.trans r2.stp
      cases e3 : f x y st2 with
      | ex c p st3 => rw [e3] at h; exact Xe.pre s2 h
      | no => rw [e3] at h; exact h
      | ok z st3 =>
        rw [e3, Rt.bind_ok] at h
        intro w m3 r3
        have s3 := s2.trans r3.stp
        cases e4 : tst z with
        | none => rw [e4] at h; exact h.elim
        | some k =>
          rw [e4] at h
          refine ⟨k, tst_ok r3.wr e4, ?_⟩
          cases k with
          | false => exact h _ m3 (.fz s3 r3.sr (.bl false))
          | true =>
            refine hc m3 σ en st3 _ (er.to s3) r3.sr ?_
            replace h : Pe cf E m Q ((c en st3).bind fun u st4 => g y u st4) := h
            cases e5 : c en st3 with
            | ex c p st4 => rw [e5] at h; exact Xe.pre s3 h
            | no => rw [e5] at h; exact h
            | ok u' st4 =>
              rw [e5, Rt.bind_ok] at h
              intro w' m4 r4
              exact o' m4 st4 u w' y u' Q r4.sr (r2.wr.to (r3.stp.trans r4.stp)) r4.wr (Pe.pre (s3.trans r4.stp) h)
/-! ### truth -/
def truW (st : Sto) : W → Option Bool
  | .fz .none => some false
  | .fz (.bool b) => some b
  | .fz (.int i) => some (i != 0)
  | .fz (.str y) => if y.length ≤ sizeLine then some ((y.length : Int) != 0) else none
  | .fz (.tuple l) => some (!l.isEmpty)
  | .fz (.dict _) => none
  | w => match seqW st w with
    | some l => some (!l.isEmpty)
    | none => match w with
      | .loc n => match st[n]? with
        | some (.dk l) => some (!l.isEmpty)
        | _ => none
      | _ => none
theorem isEmpty_len {α β : Type} {xs : List α} {ys : List β} (h : xs.length = ys.length) : xs.isEmpty = ys.isEmpty := by
  cases xs <;> cases ys <;> simp at h ⊢
theorem Paired.len {α β : Type} {F : α → β → Prop} : ∀ {l₁ : List α} {l₂ : List β}, Paired F l₁ l₂ → l₁.length = l₂.length
  | _, _, .nil => rfl
  | _, _, .cons _ h => congrArg Nat.succ (Paired.len h)
theorem tru_w {v : V} {w : W} {b : Bool} (S : SR cf.K cf.ct m st) (r : WR cf.K cf.ct m v w) (e : truW st w = some b) : TruV cf.K v m.hp b := by
  have viaSeq : ∀ l, seqW st w = some l → b = !l.isEmpty → TruV cf.K v m.hp b := fun l h1 h2 => by
    obtain ⟨a, xs, rfl, hs, f⟩ := seq_ok S r h1
    exact .inl ⟨xs, SqL.of hs, by rw [h2, isEmpty_len f.length]⟩
  cases w with
  | fz d =>
    cases d with
    | none => cases r; cases e; exact rfl
    | bool c => cases r; cases e; exact rfl
    | int i => cases r; cases e; exact rfl
    | str y =>
      cases r
      unfold truW at e
      dsimp only at e
      split at e
      case isTrue c => cases e; exact ⟨c, rfl⟩
      case isFalse c => cases e
    | list l => cases e; exact viaSeq l rfl rfl
    | tuple l =>
      cases e
      cases r with
      | tup h1 h2 => exact .inr (.inl ⟨_, h1.sq, by rw [isEmpty_len h2.length]⟩)
    | dict l => cases e
  | own l => cases e; exact viaSeq l rfl rfl
  | nst _ => cases e
  | loc n =>
    obtain ⟨a, rfl, ha⟩ := r
    obtain ⟨o, ho, hb⟩ := S.get ha
    cases o with
    | lst l =>
      have hs : seqW st (.loc n) = some l := by unfold seqW; dsimp only; rw [ho]
      unfold truW at e
      dsimp only at e
      rw [hs] at e
      cases e
      obtain ⟨xs, e1, f⟩ := hb.lst_of
      exact .inl ⟨xs, SqL.of e1, by rw [isEmpty_len f.length]⟩
    | dk l =>
      have hs : seqW st (.loc n) = none := by unfold seqW; dsimp only; rw [ho]
      unfold truW at e
      dsimp only at e
      rw [hs] at e
      dsimp only at e
      rw [ho] at e
      cases e
      obtain ⟨u, e1, hb⟩ := hb
      obtain ⟨kvs, rfl, f⟩ := hb.dk_of
      exact .inr (.inr ⟨kvs, e1, by rw [isEmpty_len (Paired.len f)]⟩)
    | ins c l =>
      have hs : seqW st (.loc n) = none := by unfold seqW; dsimp only; rw [ho]
      unfold truW at e
      dsimp only at e
      rw [hs] at e
      dsimp only at e
      rw [ho] at e
      cases e
def bTru (a : Dn) : DnT := fun en st => (a en st).bind fun x st1 => match truW st1 x with
  | some b => .ok b st1
  | none => .no
theorem et_tru {t : TE} {a : Dn} (ha : Ev cf E t a) : Et cf E (fun σ H Q => t σ H fun x H' => ∃ k, TruV cf.K x H' k ∧ Q k H') (bTru a) := fun m σ en st Q er S h => by
  refine ha m σ en st _ er S ?_
  unfold bTru at h
  cases e : a en st with
  | ex c p st1 => rw [e] at h; exact h
  | no => rw [e] at h; exact h
  | ok x st1 =>
    rw [e, Rt.bind_ok] at h
    intro v m1 r1
    cases e2 : truW st1 x with
    | none => rw [e2] at h; exact h.elim
    | some b =>
      rw [e2] at h
      exact ⟨b, tru_w r1.sr r1.wr e2, h m1 r1.stp r1.sr⟩
/-! ### statements -/
def sNext : DnS := fun en st => .go en st
theorem es_next : Es cf E tNext sNext := fun m σ en st D er S h => h σ m Stp.refl er S
def sNo : DnS := fun _ _ => .no
theorem es_never : Es cf E tNever sNo := fun m σ en st D er S h => h.elim
def sSeq (a b : DnS) : DnS := fun en st => match a en st with
  | .go en1 st1 => b en1 st1
  | r => r
theorem es_seq {t u : TS} {a b : DnS} (ha : Es cf E t a) (hb : Es cf E u b) : Es cf E (tSeq t u) (sSeq a b) := fun m σ en st D er S h => by
  refine ha m σ en st _ er S ?_
  unfold sSeq at h
  cases e : a en st with
  | go en1 st1 =>
    rw [e] at h
    intro σ1 m1 s1 er1 S1
    exact hb m1 σ1 en1 st1 D er1 S1 (Px.pre s1 h)
  | rt w st1 => rw [e] at h; exact h
  | bk w st1 => rw [e] at h; exact h
  | ct w st1 => rw [e] at h; exact h
  | ex c p st1 => rw [e] at h; exact h
  | no => rw [e] at h; exact h
def sBind {α : Type} (r : Rt α) (f : α → Sto → Sx) : Sx := match r with
  | .ok a st => f a st
  | .ex c p st => .ex c p st
  | .no => .no
@[simp] theorem sBind_ok {α : Type} {a : α} {st : Sto} {f : α → Sto → Sx} : sBind (.ok a st) f = f a st := rfl
def sDrop (a : Dn) : DnS := fun en st => sBind (a en st) fun _ st1 => .go en st1
theorem es_drop {t : TE} {a : Dn} (ha : Ev cf E t a) : Es cf E (tDrop t) (sDrop a) := fun m σ en st D er S h => by
  refine ha m σ en st _ er S ?_
  unfold sDrop at h
  cases e : a en st with
  | ex c p st1 => rw [e] at h; exact h
  | no => rw [e] at h; exact h
  | ok x st1 =>
    rw [e] at h
    intro v m1 r1
    exact h σ m1 r1.stp (er.to r1.stp) r1.sr
def sRet (a : Dn) : DnS := fun en st => sBind (a en st) fun x st1 => .rt x st1
theorem es_ret {t : TE} {a : Dn} (ha : Ev cf E t a) : Es cf E (tRet t) (sRet a) := fun m σ en st D er S h => by
  refine ha m σ en st _ er S ?_
  unfold sRet at h
  cases e : a en st with
  | ex c p st1 => rw [e] at h; exact h
  | no => rw [e] at h; exact h
  | ok x st1 => rw [e] at h; exact h
def sRetN : DnS := fun _ st => .rt (.fz .none) st
theorem es_retN : Es cf E tRetN sRetN := fun m σ en st D er S h => h _ m (.fz Stp.refl S .non)
def sIf (c : DnT) (a b : DnS) : DnS := fun en st => sBind (c en st) fun x st1 => if x = true then a en st1 else b en st1
theorem es_if {c : TT} {t u : TS} {d : DnT} {a b : DnS} (hc : Et cf E c d) (ha : Es cf E t a) (hb : Es cf E u b) : Es cf E (tIfS c t u) (sIf d a b) := fun m σ en st D er S h => by
  refine hc m σ en st _ er S ?_
  unfold sIf at h
  cases e : d en st with
  | ex c p st1 => rw [e] at h; exact h
  | no => rw [e] at h; exact h
  | ok x st1 =>
    rw [e, sBind_ok] at h
    intro m1 s1 S1
    cases x with
    | true => exact ha m1 σ en st1 D (er.to s1) S1 (Px.pre s1 h)
    | false => exact hb m1 σ en st1 D (er.to s1) S1 (Px.pre s1 h)
theorem es_break : Es cf E tBreak (fun en st => .bk en st) := fun m σ en st D er S h => h σ m Stp.refl er S
theorem es_cont : Es cf E tCont (fun en st => .ct en st) := fun m σ en st D er S h => h σ m Stp.refl er S
/-! ### targets -/
def frz : W → W
  | .own l => .fz (.list l)
  | w => w
theorem frz_ok {v : V} {w : W} (r : WR cf.K cf.ct m v w) : WR cf.K cf.ct m v (frz w) ∧ (frz w).stays := by
  cases w with
  | fz d => exact ⟨r, trivial⟩
  | own l => exact ⟨r.fz_of, trivial⟩
  | loc n => exact ⟨r, trivial⟩
  | nst _ => exact ⟨r, trivial⟩
theorem ER.set {σ : L2.St} {en : En} {v : V} {w : W} (er : ER cf.K cf.ct m σ en) (i : Nat) (r : WR cf.K cf.ct m v w) (k : w.stays) : ER cf.K cf.ct m (σ.set i (some v)) (en.set i (some w)) := by
  refine ⟨by rw [List.length_set, List.length_set]; exact er.len, fun j u h => ?_⟩
  by_cases c : i = j
  · subst c
    have hl : i < en.length := by
      have := (List.getElem?_eq_some_iff.mp h).1
      rwa [List.length_set] at this
    rw [List.getElem?_set_self hl] at h
    cases h
    exact ⟨v, List.getElem?_set_self (by rw [er.len]; exact hl), r, k⟩
  · rw [List.getElem?_set_ne c] at h
    rw [List.getElem?_set_ne c]
    exact er.at_ j u h
def gN (i : Nat) : DnG := fun w en st => .ok (en.set i (some (frz w))) st
theorem eg_name {i : Nat} {vs : List Nat} (hi : vs.contains i = true) : Eg cf E vs (gName i) (gN i) := fun m σ en st v w Q er S r h => by
  obtain ⟨r', k⟩ := frz_ok r
  refine h _ m Stp.refl (er.set i r' k) S (fun j hj => ?_) (by rw [List.length_set])
  exact List.getElem?_set_ne (fun e => hj (by rw [← e]; simpa using hi))
def gsNil : List D → En → Sto → Rt En := fun ds en st => match ds with
  | [] => .ok en st
  | _ => .no
theorem egs_nil {vs : List Nat} : Egs cf E vs gNil gsNil := fun m σ en st us ds Q er S r h => by
  cases ds with
  | nil => cases r; exact ⟨rfl, h σ m Stp.refl er S (fun _ _ => rfl) rfl⟩
  | cons d ds => exact h.elim
def gsCons (g : DnG) (gs : List D → En → Sto → Rt En) : List D → En → Sto → Rt En := fun ds en st => match ds with
  | [] => .no
  | d :: ds => (g (.fz d) en st).bind fun en1 st1 => gs ds en1 st1
theorem egs_cons {vs : List Nat} {g : TG} {gs : TGs} {a : DnG} {b : List D → En → Sto → Rt En} (ha : Eg cf E vs g a) (hb : Egs cf E vs gs b) : Egs cf E vs (gCons g gs) (gsCons a b) := fun m σ en st us ds Q er S r h => by
  cases ds with
  | nil => exact h.elim
  | cons d ds =>
    cases r with
    | cons r1 r2 =>
      refine ⟨_, _, rfl, ?_⟩
      refine ha m σ en st _ (.fz d) _ er S r1 ?_
      replace h : Pg cf E m vs σ Q ((a (.fz d) en st).bind fun en1 st1 => b ds en1 st1) := h
      cases e : a (.fz d) en st with
      | ex c p st1 => rw [e] at h; exact h
      | no => rw [e] at h; exact h
      | ok en1 st1 =>
        rw [e, Rt.bind_ok] at h
        intro σ1 m1 s1 er1 S1 k1 l1
        refine hb m1 σ1 en1 st1 _ ds Q er1 S1 (r2.to s1) ?_
        cases e2 : b ds en1 st1 with
        | ex c p st2 => rw [e2] at h; exact Xe.pre s1 h
        | no => rw [e2] at h; exact h
        | ok en2 st2 =>
          rw [e2] at h
          intro σ2 m2 s2 er2 S2 k2 l2
          exact h σ2 m2 (s1.trans s2) er2 S2 (fun i hi => (k2 i hi).trans (k1 i hi)) (l2.trans l1)
def gT (n : Nat) (gs : List D → En → Sto → Rt En) : DnG := fun w en st => match w with
  | .fz (.tuple ds) => if ds.length = n then gs ds en st else .no
  | _ => .no
theorem eg_tup {vs : List Nat} {n : Nat} {g : TGs} {a : List D → En → Sto → Rt En} (ha : Egs cf E vs g a) : Eg cf E vs (gTup cf.K n g) (gT n a) := fun m σ en st v w Q er S r h => by
  unfold gT at h
  split at h
  case h_1 ds =>
    split at h
    case isTrue c =>
      cases r with
      | tup h1 h2 => exact ⟨_, _, rfl, h1.sq, h2.length.trans c, ha m σ en st _ ds Q er S h2 h⟩
    case isFalse c => exact h.elim
  case h_2 => exact h.elim
def sAsg (a : Dn) (g : DnG) : DnS := fun en st => sBind (a en st) fun x st1 => match g x en st1 with
  | .ok en2 st2 => .go en2 st2
  | .ex c p st2 => .ex c p st2
  | .no => .no
theorem es_asg {vs : List Nat} {t : TE} {g : TG} {a : Dn} {d : DnG} (ha : Ev cf E t a) (hg : Eg cf E vs g d) : Es cf E (tAsg t g) (sAsg a d) := fun m σ en st D er S h => by
  refine ha m σ en st _ er S ?_
  unfold sAsg at h
  cases e : a en st with
  | ex c p st1 => rw [e] at h; exact h
  | no => rw [e] at h; exact h
  | ok x st1 =>
    rw [e, sBind_ok] at h
    intro v m1 r1
    refine hg m1 σ en st1 v x _ (er.to r1.stp) r1.sr r1.wr ?_
    cases e2 : d x en st1 with
    | ex c p st2 => rw [e2] at h; exact Xe.pre r1.stp h
    | no => rw [e2] at h; exact h.elim
    | ok en2 st2 =>
      rw [e2] at h
      intro σ2 m2 s2 er2 S2 _ _
      exact h σ2 m2 (r1.stp.trans s2) er2 S2
/-- name = value -/
def sSet (i : Nat) (a : Dn) : DnS := fun en st => sBind (a en st) fun x st1 => .go (en.set i (some (frz x))) st1
theorem es_set {t : TE} {a : Dn} {i : Nat} (ha : Ev cf E t a) : Es cf E (tAsg t (gName i)) (sSet i a) := fun m σ en st D er S h => by
  refine ha m σ en st _ er S ?_
  unfold sSet at h
  cases e : a en st with
  | ex c p st1 => rw [e] at h; exact h
  | no => rw [e] at h; exact h
  | ok x st1 =>
    rw [e, sBind_ok] at h
    intro v m1 r1
    obtain ⟨r', k⟩ := frz_ok r1.wr
    exact h _ m1 r1.stp ((er.to r1.stp).set i r' k) r1.sr
/-- several names at once -/
theorem WRs.two {vs : List V} {x y : W} (h : WRs cf m vs [x, y]) : ∃ v u, vs = [v, u] ∧ WR cf.K cf.ct m v x ∧ WR cf.K cf.ct m u y := by
  cases h with
  | cons a b => cases b with
    | cons b c => cases c; exact ⟨_, _, rfl, a, b⟩
theorem WRs.three {vs : List V} {x y z : W} (h : WRs cf m vs [x, y, z]) : ∃ v u w, vs = [v, u, w] ∧ WR cf.K cf.ct m v x ∧ WR cf.K cf.ct m u y ∧ WR cf.K cf.ct m w z := by
  cases h with
  | cons a b => cases b with
    | cons b c => cases c with
      | cons c d => cases d; exact ⟨_, _, _, rfl, a, b, c⟩
theorem WRs.one {vs : List V} {x : W} (h : WRs cf m vs [x]) : ∃ v, vs = [v] ∧ WR cf.K cf.ct m v x := by
  cases h with
  | cons a b => cases b; exact ⟨_, rfl, a⟩
def sPar (i j : Nat) (a : DnA) : DnS := fun en st => sBind (a en st) fun xs st1 => match xs with
  | [x, y] => .go ((en.set i (some (frz x))).set j (some (frz y))) st1
  | _ => .no
theorem es_par {t : TA} {a : DnA} {i j : Nat} (ha : Ea cf E t a) : Es cf E (tPar i j t) (sPar i j a) := fun m σ en st D er S h => by
  refine ha m σ en st _ er S ?_
  unfold sPar at h
  cases e : a en st with
  | ex c p st1 => rw [e] at h; exact h
  | no => rw [e] at h; exact h
  | ok xs st1 =>
    rw [e, sBind_ok] at h
    intro vs m1 s1 S1 r1
    split at h
    case h_1 x y =>
      obtain ⟨v, u, rfl, r, r'⟩ := r1.two
      obtain ⟨q, k⟩ := frz_ok r
      obtain ⟨q', k'⟩ := frz_ok r'
      exact ⟨v, u, rfl, h _ m1 s1 (((er.to s1).set i q k).set j q' k') S1⟩
    case h_2 => exact h.elim
def sPar3 (i j l : Nat) (a : DnA) : DnS := fun en st => sBind (a en st) fun xs st1 => match xs with
  | [x, y, z] => .go (((en.set i (some (frz x))).set j (some (frz y))).set l (some (frz z))) st1
  | _ => .no
theorem es_par3 {t : TA} {a : DnA} {i j l : Nat} (ha : Ea cf E t a) : Es cf E (tPar3 i j l t) (sPar3 i j l a) := fun m σ en st D er S h => by
  refine ha m σ en st _ er S ?_
  unfold sPar3 at h
  cases e : a en st with
  | ex c p st1 => rw [e] at h; exact h
  | no => rw [e] at h; exact h
  | ok xs st1 =>
    rw [e, sBind_ok] at h
    intro vs m1 s1 S1 r1
    split at h
    case h_1 x y z =>
      obtain ⟨v, u, w, rfl, r, r', r''⟩ := r1.three
      obtain ⟨q, k⟩ := frz_ok r
      obtain ⟨q', k'⟩ := frz_ok r'
      obtain ⟨q'', k''⟩ := frz_ok r''
      exact ⟨v, u, w, rfl, h _ m1 s1 ((((er.to s1).set i q k).set j q' k').set l q'' k'') S1⟩
    case h_2 => exact h.elim
/-- o[i] = v -/
def OpS (cf : Cf) (E : XK) (r : TSet) (f : W → W → W → Sto → Option Sto) : Prop := ∀ m st v1 v2 v3 w1 w2 w3 (Q : Hp → Prop), SR cf.K cf.ct m st → WR cf.K cf.ct m v1 w1 → WR cf.K cf.ct m v2 w2 → WR cf.K cf.ct m v3 w3 →
  ∀ st', f w1 w2 w3 st = some st' → (∀ m', Stp m m' → SR cf.K cf.ct m' st' → Q m'.hp) → r v1 v2 v3 m.hp Q
def gSb (f : W → W → W → Sto → Option Sto) (a b : Dn) : DnG := fun w en st => (a en st).bind fun x st1 => (b en st1).bind fun y st2 => match f x y w st2 with
  | some st3 => .ok en st3
  | none => .no
theorem eg_sub {vs : List Nat} {r : TSet} {f : W → W → W → Sto → Option Sto} {ta tb : TE} {a b : Dn} (o : OpS cf E r f) (ha : Ev cf E ta a) (hb : Ev cf E tb b) : Eg cf E vs (gSub ta tb r) (gSb f a b) := fun m σ en st v w Q er S r0 h => by
  refine ha m σ en st _ er S ?_
  unfold gSb at h
  cases e : a en st with
  | ex c p st1 => rw [e] at h; exact h
  | no => rw [e] at h; exact h
  | ok x st1 =>
    rw [e, Rt.bind_ok] at h
    intro v1 m1 r1
    refine hb m1 σ en st1 _ (er.to r1.stp) r1.sr ?_
    cases e2 : b en st1 with
    | ex c p st2 => rw [e2] at h; exact Xe.pre r1.stp h
    | no => rw [e2] at h; exact h
    | ok y st2 =>
      rw [e2, Rt.bind_ok] at h
      intro v2 m2 r2
      have s2 := r1.stp.trans r2.stp
      cases e3 : f x y w st2 with
      | none => rw [e3] at h; exact h.elim
      | some st3 =>
        rw [e3] at h
        exact o m2 st2 v1 v2 v x y w _ r2.sr (r1.wr.to r2.stp) r2.wr (r0.to s2) st3 e3 fun m3 s3 S3 => h σ m3 (s2.trans s3) (er.to (s2.trans s3)) S3 (fun _ _ => rfl) rfl
/-! ### what is walked -/
/-- a step in which what is shunned may change -/
structure Stb (m m' : Mo) : Prop where
  bl : ∀ a, m.be a → m'.be a
  be : ∀ a, m'.be a → m.be a ∨ (a ∉ m.rh ∧ m.hp a = none)
  ext : ∃ ex, m'.rh = m.rh ++ ex ∧ ∀ b ∈ ex, b ∉ m.rh ∧ m.hp b = none
  keep : ∀ b o, b ∉ m.rh → ¬ m.be b → m.hp b = some o → m'.hp b = some o
section
variable {m' : Mo}
theorem Stp.stb (s : Stp m m') : Stb m m' := ⟨s.bl, s.be, s.ext, fun b o n _ e => s.keep b o n e⟩
theorem Stb.get (s : Stb m m') {n : Nat} {a : Addr} (h : m.rh[n]? = some a) : m'.rh[n]? = some a := by
  obtain ⟨ex, e, _⟩ := s.ext
  rw [e, List.getElem?_append_left (List.getElem?_eq_some_iff.mp h).1]; exact h
theorem Stb.rdy (s : Stb m m') : ∀ a u, Rdy m a u → ¬ m'.be a ∧ a ∉ m'.rh ∧ ∀ o, m.hp a = some o → m'.hp a = some o := fun a u h => by
  refine ⟨fun z => (s.be a z).elim h.2.1 fun y => h.live y.2, fun z => ?_, fun o e => s.keep a o h.1 h.2.1 e⟩
  obtain ⟨ex, e, f⟩ := s.ext
  rw [e] at z
  exact (List.mem_append.mp z).elim h.1 fun y => h.live (f a y).2
theorem Fz.tob (s : Stb m m') {K : PySem.W.Frag} {ct : CTab} {v : V} {d : D} (h : Fz K ct m v d) : Fz K ct m' v d := Fz.mv s.rdy h
theorem FzA.tob (s : Stb m m') {K : PySem.W.Frag} {ct : CTab} {v : List V} {d : List D} (h : FzA K ct m v d) : FzA K ct m' v d := FzA.mv s.rdy h
theorem Rdy.tob (s : Stb m m') {a : Addr} {u : HO} (h : Rdy m a u) : Rdy m' a u := ⟨(s.rdy a u h).2.1, (s.rdy a u h).1, h.2.2.imp ((s.rdy a u h).2.2 _) fun ⟨o, e⟩ => ⟨o, (s.rdy a u h).2.2 _ e⟩⟩
theorem FT.tob (s : Stb m m') {K : PySem.W.Frag} {a : Addr} {xs : List V} (h : FT K m a xs) : FT K m' a xs := h.imp (Rdy.tob s) id
theorem FL.tob (s : Stb m m') {K : PySem.W.Frag} {a : Addr} {xs : List V} (h : FL K m a xs) : FL K m' a xs := h.imp (Rdy.tob s) id
theorem ER.tob (s : Stb m m') {K : PySem.W.Frag} {ct : CTab} {σ : L2.St} {en : En} (h : ER K ct m σ en) : ER K ct m' σ en :=
  ⟨h.len, fun i w e => by
    obtain ⟨v, e1, r, k⟩ := h.at_ i w e
    refine ⟨v, e1, ?_, k⟩
    cases w with
    | fz d => exact Fz.tob s r
    | own l => exact k.elim
    | loc n =>
      obtain ⟨a, ea, h⟩ := r
      exact ⟨a, ea, s.get h⟩
    | nst ks =>
      obtain ⟨q, xs, e, n, nb, hq, kk⟩ := r
      refine ⟨q, xs, e, fun z => ?_, fun z => (s.be q z).elim nb fun y => some_ne hq y.2, s.keep _ _ n nb hq, Paired.mapP kk fun _ _ ⟨a, e, z⟩ => ⟨a, e, s.get z⟩⟩
      obtain ⟨ex, e1, f⟩ := s.ext
      rw [e1] at z
      exact (List.mem_append.mp z).elim n fun y => some_ne hq (f q y).2⟩
end
/-- the items; the list that must stay as it is meanwhile -/
structure Src where
  l : List D
  g : Option Nat
def Src.ok (s : Src) (st : Sto) : Prop := match s.g with
  | none => True
  | some n => st[n]? = some (.lst s.l)
/-- from the moment m on the iterator J yields the items -/
def ItS (cf : Cf) (m : Mo) (J : It) (s : Src) : Prop := ∀ m' st (i : Nat), Stb m m' → SR cf.K cf.ct m' st → s.ok st →
  (s.l.length ≤ i → i ≤ s.l.length → J.stop i m'.hp) ∧
  (∀ d, s.l[i]? = some d → J.go i m'.hp ∧ ∀ x H', J.yld i m'.hp x H' → Same m'.hp H' ∧ Fz cf.K cf.ct (m'.to H') x d)
def Pi (cf : Cf) (E : XK) (m : Mo) (R : It → Hp → Prop) : Rt Src → Prop
  | .ok s st1 => ∀ J m1, Stp m m1 → SR cf.K cf.ct m1 st1 → ItS cf m1 J s → R J m1.hp
  | .ex c p st1 => Xe cf E m c p st1
  | .no => False
def Ei (cf : Cf) (E : XK) (t : TI) (d : En → Sto → Rt Src) : Prop := ∀ m σ en st (R : It → Hp → Prop), ER cf.K cf.ct m σ en → SR cf.K cf.ct m st → Pi cf E m R (d en st) → t σ m.hp R
open Classical in
/-- the turns of a for -/
noncomputable def forL (s : Src) (g : DnG) (b : DnS) : List D → En → Sto → Sx
  | [], en, st => if s.ok st then .go en st else .no
  | d :: ds, en, st => if s.ok st then match g (.fz d) en st with
    | .ok en1 st1 => match b en1 st1 with
      | .go en2 st2 => forL s g b ds en2 st2
      | .ct en2 st2 => forL s g b ds en2 st2
      | .bk en2 st2 => .go en2 st2
      | r => r
    | .ex c p st1 => .ex c p st1
    | .no => .no
    else .no
noncomputable def sFor (i : En → Sto → Rt Src) (g : DnG) (b : DnS) : DnS := fun en st => sBind (i en st) fun s st1 => forL s g b s.l en st1
theorem es_for {vs : List Nat} {wi : TI} {g : TG} {tb : TS} {i : En → Sto → Rt Src} {d : DnG} {b : DnS} (hi : Ei cf E wi i) (hg : Eg cf E vs g d) (hb : Es cf E tb b) : Es cf E (tFor wi g tb) (sFor i d b) := fun m σ en st D er S h => by
  refine hi m σ en st _ er S ?_
  unfold sFor at h
  cases e : i en st with
  | ex c p st1 => rw [e] at h; exact h
  | no => rw [e] at h; exact h
  | ok s st1 =>
    rw [e, sBind_ok] at h
    intro J m1 s1 S1 it
    refine ⟨fun k n σ' H => ∃ m' en' st', n = s.l.length - k ∧ k ≤ s.l.length ∧ H = m'.hp ∧ Stp m1 m' ∧ ER cf.K cf.ct m' σ' en' ∧ SR cf.K cf.ct m' st' ∧ Px cf E m' D (forL s d b (s.l.drop k) en' st'), ⟨s.l.length, m1, en, st1, by simp, Nat.zero_le _, rfl, Stp.refl, er.to s1, S1, Px.pre s1 h⟩, ?_⟩
    rintro k n σ' _ ⟨m', en', st', rfl, hk, rfl, sm, er', S', hp⟩
    by_cases c : k < s.l.length
    · have hd : s.l.drop k = s.l[k] :: s.l.drop (k + 1) := List.drop_eq_getElem_cons c
      rw [hd] at hp
      unfold forL at hp
      split at hp
      case isFalse => exact hp.elim
      case isTrue ok =>
        obtain ⟨_, go⟩ := it m' st' k sm.stb S' ok
        obtain ⟨g1, g2⟩ := go s.l[k] (List.getElem?_eq_getElem c)
        refine .inr ⟨g1, fun σ2 H2 => ∃ m2 en2 st2, H2 = m2.hp ∧ Stp m1 m2 ∧ ER cf.K cf.ct m2 σ2 en2 ∧ SR cf.K cf.ct m2 st2 ∧ Px cf E m2 D (forL s d b (s.l.drop (k + 1)) en2 st2),
          fun σ2 H2 ⟨m2, en2, st2, q1, q2, q3, q4, q5⟩ => ⟨s.l.length - (k + 1), by omega, m2, en2, st2, rfl, c, q1, q2, q3, q4, q5⟩, fun x H' y => ?_⟩
        obtain ⟨sH, fx⟩ := g2 x H' y
        have sx : Stp m' (m'.to H') := .same sH
        refine hg (m'.to H') σ' en' st' x (.fz s.l[k]) _ (er'.to sx) (S'.same sH) fx ?_
        cases e2 : d (.fz s.l[k]) en' st' with
        | ex c p st2 => rw [e2] at hp; exact Xe.pre sx hp
        | no => rw [e2] at hp; exact hp.elim
        | ok en1 st2 =>
          rw [e2] at hp
          dsimp only at hp
          intro σ2 m2 s2 er2 S2 _ _
          refine hb m2 σ2 en1 st2 _ er2 S2 ?_
          have sx2 := sx.trans s2
          cases e3 : b en1 st2 with
          | go en3 st3 =>
            rw [e3] at hp
            exact fun σ3 m3 s3 er3 S3 => ⟨m3, en3, st3, rfl, (sm.trans sx2).trans s3, er3, S3, Px.pre (sx2.trans s3) hp⟩
          | ct en3 st3 =>
            rw [e3] at hp
            exact fun σ3 m3 s3 er3 S3 => ⟨m3, en3, st3, rfl, (sm.trans sx2).trans s3, er3, S3, Px.pre (sx2.trans s3) hp⟩
          | bk en3 st3 =>
            rw [e3] at hp
            exact fun σ3 m3 s3 er3 S3 => hp σ3 m3 (sx2.trans s3) er3 S3
          | rt w st3 =>
            rw [e3] at hp
            exact fun v m3 r3 => hp v m3 (r3.pre sx2)
          | ex c p st3 =>
            rw [e3] at hp
            exact Xe.pre sx2 hp
          | no => rw [e3] at hp; exact hp.elim
    · have ek : k = s.l.length := by omega
      subst ek
      rw [List.drop_length] at hp
      unfold forL at hp
      split at hp
      case isFalse => exact hp.elim
      case isTrue ok => exact .inl ⟨(it m' st' _ sm.stb S' ok).1 (Nat.le_refl _) (Nat.le_refl _), hp σ' m' Stp.refl er' S'⟩
/-! ### while: at most so many turns -/
def whlL (c : DnT) (b : DnS) : Nat → En → Sto → Sx
  | 0, _, _ => .no
  | n + 1, en, st => sBind (c en st) fun x st1 => if x = true then match b en st1 with
      | .go en2 st2 => whlL c b n en2 st2
      | .ct en2 st2 => whlL c b n en2 st2
      | .bk en2 st2 => .go en2 st2
      | r => r
    else .go en st1
def sWhile (n : En → Sto → Nat) (c : DnT) (b : DnS) : DnS := fun en st => whlL c b (n en st) en st
theorem es_while {c : TT} {tb : TS} {n : En → Sto → Nat} {d : DnT} {b : DnS} (hc : Et cf E c d) (hb : Es cf E tb b) : Es cf E (tWhile c tb) (sWhile n d b) := fun m σ en st D er S h => by
  refine ⟨fun k σ' H => ∃ m' en' st', H = m'.hp ∧ Stp m m' ∧ ER cf.K cf.ct m' σ' en' ∧ SR cf.K cf.ct m' st' ∧ Px cf E m' D (whlL d b k en' st'), ⟨n en st, m, en, st, rfl, Stp.refl, er, S, h⟩, ?_⟩
  rintro k σ' _ ⟨m', en', st', rfl, sm, er', S', hp⟩
  refine hc m' σ' en' st' _ er' S' ?_
  cases k with
  | zero => exact hp.elim
  | succ k =>
    unfold whlL at hp
    cases e : d en' st' with
    | ex c p st1 => rw [e] at hp; exact hp
    | no => rw [e] at hp; exact hp.elim
    | ok x st1 =>
      rw [e, sBind_ok] at hp
      intro m1 s1 S1
      cases x with
      | false => exact hp σ' m1 s1 (er'.to s1) S1
      | true =>
        refine ⟨fun σ2 H2 => ∃ m2 en2 st2, H2 = m2.hp ∧ Stp m m2 ∧ ER cf.K cf.ct m2 σ2 en2 ∧ SR cf.K cf.ct m2 st2 ∧ Px cf E m2 D (whlL d b k en2 st2), fun σ2 H2 q => ⟨k, Nat.lt_succ_self _, q⟩, ?_⟩
        refine hb m1 σ' en' st1 _ (er'.to s1) S1 ?_
        rw [if_pos rfl] at hp
        cases e3 : b en' st1 with
        | go en3 st3 =>
          rw [e3] at hp
          exact fun σ3 m3 s3 er3 S3 => ⟨m3, en3, st3, rfl, (sm.trans s1).trans s3, er3, S3, Px.pre (s1.trans s3) hp⟩
        | ct en3 st3 =>
          rw [e3] at hp
          exact fun σ3 m3 s3 er3 S3 => ⟨m3, en3, st3, rfl, (sm.trans s1).trans s3, er3, S3, Px.pre (s1.trans s3) hp⟩
        | bk en3 st3 =>
          rw [e3] at hp
          exact fun σ3 m3 s3 er3 S3 => hp σ3 m3 (s1.trans s3) er3 S3
        | rt w st3 =>
          rw [e3] at hp
          exact fun v m3 r3 => hp v m3 (r3.pre s1)
        | ex c p st3 =>
          rw [e3] at hp
          exact Xe.pre s1 hp
        | no => rw [e3] at hp; exact hp.elim
end
end QD
/-! QF: comprehensions, a def's promise, calls. -/
namespace QD
open PySem PySem.Spec PyProof.Rows L2 MG
theorem wipe_get {σ : L2.St} {i : Nat} : ∀ {vs : List Nat}, (wipe σ vs)[i]? = if i ∈ vs ∧ i < σ.length then some none else σ[i]?
  | [] => by simp [wipe]
  | v :: vs => by
    have ih := wipe_get (σ := σ) (i := i) (vs := vs)
    unfold wipe
    by_cases c : v = i
    · subst c
      by_cases l : v < σ.length
      · rw [List.getElem?_set_self (by rw [wipe_length]; exact l), if_pos ⟨List.mem_cons_self .., l⟩]
      · rw [if_neg fun z => l z.2, List.getElem?_eq_none (by rw [List.length_set, wipe_length]; omega), List.getElem?_eq_none (by omega)]
    · rw [List.getElem?_set_ne c, ih]
      have : (i ∈ v :: vs ∧ i < σ.length) ↔ (i ∈ vs ∧ i < σ.length) := by simp [Ne.symm c]
      simp only [this]
theorem wipe_eq {σ σ2 : L2.St} {vs : List Nat} (hl : σ2.length = σ.length) (h : ∀ i, i ∉ vs → σ2[i]? = (wipe σ vs)[i]?) : wipe σ2 vs = wipe σ vs := by
  apply List.ext_getElem?
  intro i
  rw [wipe_get, wipe_get, hl]
  by_cases c : i ∈ vs ∧ i < σ.length
  · rw [if_pos c, if_pos c]
  · rw [if_neg c, if_neg c]
    by_cases d : i ∈ vs
    · have l : ¬ i < σ.length := fun z => c ⟨d, z⟩
      rw [List.getElem?_eq_none (by omega), List.getElem?_eq_none (by omega)]
    · rw [h i d, wipe_get, if_neg fun z => d z.1]
def wipeE (en : En) : List Nat → En
  | [] => en
  | v :: vs => (wipeE en vs).set v none
section
variable {cf : Cf} {E : XK} {m m1 : Mo} {st : Sto} {q : Addr}
theorem wipeE_len {en : En} : ∀ {vs : List Nat}, (wipeE en vs).length = en.length
  | [] => rfl
  | v :: vs => by unfold wipeE; rw [List.length_set, wipeE_len]
theorem ER.unset {σ : L2.St} {en : En} (er : ER cf.K cf.ct m σ en) (i : Nat) : ER cf.K cf.ct m (σ.set i none) (en.set i none) := by
  refine ⟨by rw [List.length_set, List.length_set]; exact er.len, fun j u h => ?_⟩
  by_cases c : i = j
  · subst c
    by_cases l : i < en.length
    · rw [List.getElem?_set_self l] at h
      cases h
    · rw [List.getElem?_eq_none (by rw [List.length_set]; omega)] at h
      cases h
  · rw [List.getElem?_set_ne c] at h
    rw [List.getElem?_set_ne c]
    exact er.at_ j u h
theorem ER.wipe {σ : L2.St} {en : En} (er : ER cf.K cf.ct m σ en) : ∀ vs : List Nat, ER cf.K cf.ct m (wipe σ vs) (wipeE en vs)
  | [] => er
  | v :: vs => (ER.wipe er vs).unset v
/-- the state behind an exception that must not be -/
def nox {α : Type} : Rt α → Rt α
  | .ok a st => .ok a st
  | _ => .no
@[simp] theorem nox_ok {α : Type} {a : α} {st : Sto} : nox (.ok a st) = .ok a st := rfl
abbrev noE : XK := fun _ _ _ => False
open Classical in
noncomputable def lcL (s : Src) (g : DnG) (t : DnT) (e : Dn) (en0 : En) : List D → List D → Sto → Rt W
  | [], acc, st => if s.ok st then .ok (.own acc) st else .no
  | d :: ds, acc, st => if s.ok st then (nox (g (.fz d) en0 st)).bind fun en2 st2 => (nox (t en2 st2)).bind fun b st3 =>
      if b = true then (nox (e en2 st3)).bind fun w st4 => match datW w with
        | some y => if acc.length < sizeLine then lcL s g t e en0 ds (acc ++ [y]) st4 else .no
        | none => .no
      else lcL s g t e en0 ds acc st3
    else .no
noncomputable def dLc (i : En → Sto → Rt Src) (g : DnG) (t : DnT) (e : Dn) (vs : List Nat) : Dn := fun en st => (i en st).bind fun s st1 => lcL s g t e (wipeE en vs) s.l [] st1
theorem Pe_nox {α : Type} {r : Rt α} {a : α} {st : Sto} (h : nox r = .ok a st) : r = .ok a st := by
  cases r with
  | ok b s => exact h
  | ex c p s => cases h
  | no => cases h
theorem ER.shNew {σ : L2.St} {en : En} (er : ER cf.K cf.ct m σ en) (n : m.hp q = none) : ER cf.K cf.ct (m.sh q) σ en :=
  ⟨er.len, fun i w h => by
    obtain ⟨v, h1, r, k⟩ := er.at_ i w h
    refine ⟨v, h1, ?_, k⟩
    cases w with
    | fz d => exact Fz.avo (shun_new n) rfl r
    | own l => exact k.elim
    | nst ks =>
      obtain ⟨q', xs, e, n', nb, hq, kk⟩ := r
      exact ⟨q', xs, e, n', fun z => z.elim nb fun y => some_ne hq (by rw [y]; exact n), hq, kk⟩
    | loc n => exact r⟩
theorem ER.chq {σ : L2.St} {en : En} {o : HO} (er : ER cf.K cf.ct m σ en) (hb : m.be q) : ER cf.K cf.ct (m.to (upd m.hp q o)) σ en :=
  ⟨er.len, fun i w h => by
    obtain ⟨v, h1, r, k⟩ := er.at_ i w h
    refine ⟨v, h1, ?_, k⟩
    cases w with
    | fz d => exact Fz.mv (mv_q hb) r
    | own l => exact k.elim
    | nst ks =>
      obtain ⟨q', xs, e, n', nb, hq, kk⟩ := r
      exact ⟨q', xs, e, n', nb, (upd_ne fun z => nb (by rw [z]; exact hb)).trans hq, kk⟩
    | loc n => exact r⟩
/-- a step that the shunned new thing q at m1 makes no matter of -/
theorem Stp.chq {m' : Mo} {o : HO} (s : Stp m1 m') (h : m1.hp q = none) (n : q ∉ m1.rh) : Stp m1 (m'.to (upd m'.hp q o)) :=
  ⟨s.bl, s.be, s.ext, fun b u nb e => by
    show upd m'.hp q o b = some u
    rw [upd_ne (fun z => by rw [z, h] at e; cases e)]; exact s.keep b u nb e⟩
theorem ev_lc {wi : TI} {g : TG} {tt : TT} {te : TE} {vs : List Nat} {i : En → Sto → Rt Src} {d : DnG} {t : DnT} {e : Dn} (hi : Ei cf E wi i) (hg : Eg cf noE vs g d) (ht : Et cf noE tt t) (he : Ev cf noE te e) : Ev cf E (tLc wi g tt te vs) (dLc i d t e vs) := fun m σ en st Q er S h => by
  refine hi m σ en st _ er S ?_
  unfold dLc at h
  cases e0 : i en st with
  | ex c p st1 => rw [e0] at h; exact h
  | no => rw [e0] at h; exact h
  | ok s st1 =>
    rw [e0, Rt.bind_ok] at h
    intro J m1 s1 S1 it q hq
    have nq : q ∉ m1.rh := S1.out hq
    have nb : ¬ m1.be q := fun z => S1.bl q z hq
    -- the moment behind the new list, q shunned
    have n0 := (Rs.new (Stp.refl (m := m1)) S1 hq (.nil : FzA cf.K cf.ct m1 [] []))
    obtain ⟨q', eq', _, S2⟩ := n0.nw [] rfl
    cases eq'
    have sM : Stp m1 ((m1.to (upd m1.hp q (.lst []))).sh q) := ⟨fun a h => .inl h, fun a h => h.imp id fun z => by subst z; exact ⟨nq, hq⟩, ⟨[], (List.append_nil _).symm, fun _ h => nomatch h⟩, (Stp.one hq).keep⟩
    refine ⟨fun k n H => ∃ (M : Mo) (xs : List V) (acc : List D) (st' : Sto), n = s.l.length - k ∧ k ≤ s.l.length ∧ H = M.hp ∧ Stp m1 M ∧ M.be q ∧ q ∉ M.rh ∧ M.hp q = some (.lst xs) ∧ FzA cf.K cf.ct M xs acc ∧ SR cf.K cf.ct M st' ∧
      Pe cf E m Q (lcL s d t e (wipeE en vs) (s.l.drop k) acc st'), ⟨s.l.length, _, [], [], st1, by simp, Nat.zero_le _, rfl, sM, .inr rfl, nq, upd_same, .nil, S2, h⟩, ?_⟩
    rintro k n _ ⟨M, xs, acc, st', rfl, hk, rfl, sm, bq, nqM, hqM, fa, S', hp⟩
    have er' : ER cf.K cf.ct M (wipe σ vs) (wipeE en vs) := ((er.to s1).to sm).wipe vs
    by_cases c : k < s.l.length
    · have hd : s.l.drop k = s.l[k] :: s.l.drop (k + 1) := List.drop_eq_getElem_cons c
      rw [hd] at hp
      unfold lcL at hp
      split at hp
      case isFalse => exact hp.elim
      case isTrue ok =>
        obtain ⟨_, go⟩ := it M st' k sm.stb S' ok
        obtain ⟨g1, g2⟩ := go s.l[k] (List.getElem?_eq_getElem c)
        refine .inr ⟨g1, fun H2 => ∃ (M2 : Mo) (xs2 : List V) (acc2 : List D) (st2 : Sto), H2 = M2.hp ∧ Stp m1 M2 ∧ M2.be q ∧ q ∉ M2.rh ∧ M2.hp q = some (.lst xs2) ∧ FzA cf.K cf.ct M2 xs2 acc2 ∧ SR cf.K cf.ct M2 st2 ∧
            Pe cf E m Q (lcL s d t e (wipeE en vs) (s.l.drop (k + 1)) acc2 st2),
          fun H2 ⟨M2, xs2, acc2, st2, q1, q2, q3, q4, q5, q6, q7, q8⟩ => ⟨s.l.length - (k + 1), by omega, M2, xs2, acc2, st2, rfl, c, q1, q2, q3, q4, q5, q6, q7, q8⟩, fun x H' y => ?_⟩
        obtain ⟨sH, fx⟩ := g2 x H' y
        have sx : Stp M (M.to H') := .same sH
        refine hg (M.to H') (wipe σ vs) (wipeE en vs) st' x (.fz s.l[k]) _ (er'.to sx) (S'.same sH) fx ?_
        cases e2 : nox (d (.fz s.l[k]) (wipeE en vs) st') with
        | ex c p st2 => rw [e2] at hp; cases hr : d (.fz s.l[k]) (wipeE en vs) st' <;> rw [hr] at e2 <;> cases e2
        | no => rw [e2] at hp; exact hp.elim
        | ok en2 st2 =>
          rw [e2, Rt.bind_ok] at hp
          rw [Pe_nox e2]
          intro σ2 M2 s2 er2 S2' k2 l2
          refine ⟨wipe_eq (by rw [l2, wipe_length]) k2, ?_⟩
          refine ht M2 σ2 en2 st2 _ er2 S2' ?_
          have sx2 := sx.trans s2
          cases e3 : nox (t en2 st2) with
          | ex c p st3 => rw [e3] at hp; cases hr : t en2 st2 <;> rw [hr] at e3 <;> cases e3
          | no => rw [e3] at hp; exact hp.elim
          | ok b st3 =>
            rw [e3, Rt.bind_ok] at hp
            rw [Pe_nox e3]
            intro M3 s3 S3
            have sx3 := sx2.trans s3
            have live : M.hp q ≠ none := some_ne hqM
            cases b with
            | false =>
              rw [if_neg Bool.false_ne_true] at hp ⊢
              exact ⟨M3, xs, acc, st3, rfl, sm.trans sx3, sx3.bl q bq, sx3.out nqM live, sx3.keep q _ nqM hqM, fa.to sx3, S3, hp⟩
            | true =>
              rw [if_pos rfl] at hp ⊢
              refine he M3 σ2 en2 st3 _ (er2.to s3) S3 ?_
              cases e4 : nox (e en2 st3) with
              | ex c p st4 => rw [e4] at hp; cases hr : e en2 st3 <;> rw [hr] at e4 <;> cases e4
              | no => rw [e4] at hp; exact hp.elim
              | ok w st4 =>
                rw [e4, Rt.bind_ok] at hp
                rw [Pe_nox e4]
                intro v M4 r4
                have sx4 := sx3.trans r4.stp
                cases e5 : datW w with
                | none => rw [e5] at hp; exact hp.elim
                | some y =>
                  rw [e5] at hp
                  dsimp only at hp
                  split at hp
                  case isFalse => exact hp.elim
                  case isTrue hl =>
                    have hq4 : M4.hp q = some (.lst xs) := sx4.keep q _ nqM hqM
                    have bq4 : M4.be q := sx4.bl q bq
                    have nq4 : q ∉ M4.rh := sx4.out nqM live
                    have fa4 : FzA cf.K cf.ct M4 (xs ++ [v]) (acc ++ [y]) := (fa.to sx4).append (.cons (dat_ok r4.wr e5) .nil)
                    refine ⟨xs, hq4, by rw [fa.length]; exact hl, M4.to (upd M4.hp q (.lst (xs ++ [v]))), xs ++ [v], acc ++ [y], st4, rfl, (sm.trans sx4).chq hq nq, bq4, nq4, upd_same, fa4.mv (mv_q bq4), r4.sr.chq bq4 nq4, hp⟩
    · have ek : k = s.l.length := by omega
      subst ek
      rw [List.drop_length] at hp
      unfold lcL at hp
      split at hp
      case isFalse => exact hp.elim
      case isTrue ok =>
        refine .inl ⟨(it M st' _ sm.stb S' ok).1 (Nat.le_refl _) (Nat.le_refl _), ?_⟩
        have hA : ∀ a u, Rdy M a u → ¬ ((⟨m1.be, M.rh, M.hp⟩ : Mo).sh q).be a ∧ a ∉ ((⟨m1.be, M.rh, M.hp⟩ : Mo).sh q).rh := fun a u h => ⟨fun z => h.2.1 (Or.elim z (sm.bl a) fun e => by rw [e]; exact bq), h.1⟩
        refine hp (.ref q) ⟨m1.be, M.rh, M.hp⟩ ⟨s1.trans ⟨fun _ h => h, fun _ h => .inl h, sm.ext, sm.keep⟩, ?_, ⟨q, xs, rfl, nqM, nb, hqM, fa.avo hA rfl⟩, fun _ _ => ⟨q, rfl, s1.new nq hq, ?_⟩⟩
        · exact SR.avo (m' := ⟨m1.be, M.rh, M.hp⟩) S' rfl (fun a u h => ⟨fun z => h.2.1 (sm.bl a z), h.1⟩) rfl (fun a h => S'.bl a (sm.bl a h)) fun a h => S'.dj a (sm.bl a h)
        · exact SR.avo (m' := (⟨m1.be, M.rh, M.hp⟩ : Mo).sh q) S' rfl hA rfl (fun a h => S'.bl a (Or.elim h (sm.bl a) fun e => by rw [e]; exact bq)) fun a h => S'.dj a (Or.elim h (sm.bl a) fun e => by rw [e]; exact bq)
end
end QD
/-! QG: a def's promise from its body, calls; what is walked. -/
namespace QD
open PySem PySem.Spec PyProof.Rows L2 MG
abbrev Fd := List W → Sto → Rt W
def exitD (n : Nat) : Sx → Rt W
  | .rt w st => match exitW n w st with
    | some (w', st') => .ok w' st'
    | none => .no
  | .go _ st => .ok (.fz .none) (st.take n)
  | .ex c p st => .ex c p (st.take n)
  | _ => .no
def fnD (n : Nat) (b : DnS) : Fd := fun ws st => exitD st.length (b (ws.map some ++ List.replicate (n - ws.length) none) st)
def spD (cf : Cf) (n : Nat) (F : Fd) : Sp := fun vs H Q E => ∃ m st ws, H = m.hp ∧ WRs cf m vs ws ∧ (∀ w ∈ ws, w.stays) ∧ SR cf.K cf.ct m st ∧ ws.length = n ∧ Pe cf E m Q (F ws st)
section
variable {cf : Cf} {E : XK} {m m1 : Mo} {st : Sto}
theorem WRs.length {vs : List V} {ws : List W} (h : WRs cf m vs ws) : vs.length = ws.length := by
  induction h with
  | nil => rfl
  | cons _ _ ih => exact congrArg Nat.succ ih
theorem WRs.append {vs us : List V} {ws xs : List W} (h : WRs cf m vs ws) (h' : WRs cf m us xs) : WRs cf m (vs ++ us) (ws ++ xs) := by
  induction h with
  | nil => exact h'
  | cons a _ ih => exact .cons a ih
theorem WRs.frz {vs : List V} {ws : List W} (h : WRs cf m vs ws) : WRs cf m vs (ws.map frz) ∧ ∀ w ∈ ws.map frz, w.stays := by
  induction h with
  | nil => exact ⟨.nil, fun _ h => nomatch h⟩
  | cons a _ ih =>
    obtain ⟨r, k⟩ := frz_ok a
    refine ⟨.cons r ih.1, fun w hw => ?_⟩
    rcases List.mem_cons.mp hw with e | hw
    · rw [e]; exact k
    · exact ih.2 w hw
theorem WRs.get {vs : List V} {ws : List W} (h : WRs cf m vs ws) : ∀ {i : Nat} {w : W}, ws[i]? = some w → ∃ v, vs[i]? = some v ∧ WR cf.K cf.ct m v w := by
  induction h with
  | nil => intro i w e; simp at e
  | cons a _ ih =>
    intro i w e
    cases i with
    | zero => simp at e; subst e; exact ⟨_, rfl, a⟩
    | succ i => simp at e; obtain ⟨v, e1, r⟩ := ih e; exact ⟨v, by simpa using e1, r⟩
theorem spD_len {n : Nat} {F : Fd} {vs : List V} {H : Hp} {Q : VK} {X : XK} (h : spD cf n F vs H Q X) : vs.length = n := by
  obtain ⟨m, st, ws, _, r, _, _, l, _⟩ := h
  rw [r.length]; exact l
/-- at the start of a body -/
theorem ER.start {vs : List V} {ws : List W} {N : List Str} {n : Nat} (r : WRs cf m vs ws) (k : ∀ w ∈ ws, w.stays) (hn : N.length = n) : ER cf.K cf.ct m (start N vs) (ws.map some ++ List.replicate (n - ws.length) none) := by
  subst hn
  refine ⟨by show (vs.map some ++ List.replicate (N.length - vs.length) none).length = _; simp [r.length], fun i w e => ?_⟩
  by_cases c : i < ws.length
  · rw [List.getElem?_append_left (by simpa using c), List.getElem?_map, List.getElem?_eq_getElem c] at e
    have e' : ws[i] = w := Option.some.inj (Option.some.inj e)
    obtain ⟨v, e1, r1⟩ := r.get (List.getElem?_eq_getElem c)
    refine ⟨v, ?_, by rw [← e']; exact r1, by rw [← e']; exact k _ (List.getElem_mem c)⟩
    show (vs.map some ++ List.replicate (N.length - vs.length) none)[i]? = _
    rw [List.getElem?_append_left (by rw [List.length_map, r.length]; exact c), List.getElem?_map, e1]
    rfl
  · rw [List.getElem?_append_right (by simpa using c), List.getElem?_replicate] at e
    split at e <;> cases e
theorem ExD.cut {m' : Mo} {p : Option (Str × D)} {dd : Option Addr} (s : Stp m m') (h : ExD cf m' p dd) : ExD cf (m'.cut m) p dd := by
  cases p with
  | none => trivial
  | some q =>
    obtain ⟨f, d⟩ := q
    obtain ⟨a, v, e, hx, fz⟩ := h
    exact ⟨a, v, e, hx, Fz.avo (cut_out s) rfl fz⟩
/-- the end of a body -/
theorem Px_exit {Q : VK} {r : Sx} (S : SR cf.K cf.ct m st) (h : Pe cf E m Q (exitD st.length r)) : Px cf E m { nx := fun _ H' => Q .non H', rt := Q } r := by
  have hn := S.len.symm
  cases r with
  | go en st' =>
    intro σ m' s er S'
    exact h .non (m'.cut m) (.fz s.cut (S'.cut s hn) .non)
  | rt w st' =>
    intro v m' r
    replace h : Pe cf E m Q (match exitW st.length w st' with | some (w', st') => .ok w' st' | none => .no) := h
    cases e : exitW st.length w st' with
    | none => rw [e] at h; exact h.elim
    | some p =>
      obtain ⟨w', st''⟩ := p
      rw [e] at h
      exact h v (m'.cut m) (r.exit hn e)
  | ex c p st' =>
    intro m' dd s S' x
    exact h (m'.cut m) dd s.cut (S'.cut s hn) (x.cut s)
  | bk _ _ => exact h.elim
  | ct _ _ => exact h.elim
  | no => exact h.elim
theorem Pe_noxE {Q : VK} {r : Rt W} {E' : XK} (h : Pe cf E m Q (nox r)) : Pe cf E' m Q r := by
  cases r with
  | ok w st => exact h
  | ex c p st => exact h.elim
  | no => exact h.elim
end
section
variable {P : Program} {w : World} {K : PySem.W.Frag} {mg : Str → Option Value} {base : Heap}
/-- a def that lets nothing out -/
theorem fnQ {cf : Cf} {x qual : Str} {st : Stmt} {f : Addr} {fd : FuncData} {N ps : List Str} {k n : Nat} {b : DnS} (F : Fun K x qual st f fd) (S : FnScope N ps (defScope st)) (hp : ps.length = n)
    (hbody : ∀ (cdv : Value) (A : Around) (outer : List Env) (s : Shared) (H : Hp) (E : XK), A.guards = some [] → Room k (A.deeper (envOfC qual (defScope st) s.heap.objs.size f cdv)) →
      ∃ t, PSs (cxOf CX0 P w K mg base N qual (defScope st) f cdv A outer s H E).nox (defBody st) t ∧ Es cf noE t b) :
    FnG P w K mg base CX0 (k + 1) f fd ps (spD cf n fun ws st => nox (fnD N.length b ws st)) := by
  refine okG F S (fun vs H Q E h => (spD_len h).trans hp.symm) fun cdv A outer s H vs Q E hg hr h => ?_
  obtain ⟨t, ht, he⟩ := hbody cdv A outer s H E hg hr
  obtain ⟨m, st', ws, rfl, r, kp, S', hl, q⟩ := h
  exact ⟨t, ht, he m _ _ st' _ (ER.start r kp rfl) S' (Px_exit S' (Pe_noxE q))⟩
end
section
variable {cf : Cf} {E : XK} {m m1 : Mo} {st : Sto}
def dCall (n : Nat) (F : Fd) (ds : List W) (a : DnA) : Dn := fun en st => (a en st).bind fun ws st1 => if (ws.map frz ++ ds).length = n then F (ws.map frz ++ ds) st1 else .no
theorem ev_call {n : Nat} {F : Fd} {dvs : List V} {ds : List W} {t : TA} {a : DnA} (hd : ∀ m, WRs cf m dvs ds ∧ ∀ w ∈ ds, w.stays) (ha : Ea cf E t a) : Ev cf E (tCall (spD cf n F) dvs E t) (dCall n F ds a) := fun m σ en st Q er S h => by
  refine ha m σ en st _ er S ?_
  unfold dCall at h
  cases e : a en st with
  | ex c p st1 => rw [e] at h; exact h
  | no => rw [e] at h; exact h
  | ok x st1 =>
    rw [e, Rt.bind_ok] at h
    intro vs m1 s1 S1 r1
    split at h
    case isFalse => exact h.elim
    case isTrue c =>
      obtain ⟨r, k⟩ := r1.frz
      obtain ⟨r', k'⟩ := hd m1
      exact ⟨m1, st1, x.map frz ++ ds, rfl, r.append r', fun w hw => (List.mem_append.mp hw).elim (k w) (k' w), S1, c, Pe.pre s1 h⟩
theorem no_ds : ∀ m : Mo, WRs cf m [] [] ∧ ∀ w ∈ ([] : List W), w.stays := fun _ => ⟨.nil, fun _ h => nomatch h⟩
/-! ### what is walked -/
theorem WRs.nil_of {vs : List V} (h : WRs cf m vs []) : vs = [] := by cases h; rfl
/-- a list -/
def srcW (st : Sto) : W → Option Src
  | .fz (.list l) => some ⟨l, none⟩
  | .own l => some ⟨l, none⟩
  | .loc n => match st[n]? with
    | some (.lst l) => some ⟨l, some n⟩
    | _ => none
  | _ => none
def iSeq (f : Sto → W → Option Src) (a : Dn) : En → Sto → Rt Src := fun en st => (a en st).bind fun x st1 => match f st1 x with
  | some s => .ok s st1
  | none => .no
theorem Same.rfl' {H : Hp} : Same H H := fun _ _ h => h
/-- the list at a, from m1 on: what stands there -/
theorem src_at {s : Src} {v : V} {w : W} (S : SR cf.K cf.ct m st) (r : WR cf.K cf.ct m v w) (e : srcW st w = some s) : ∃ a, v = .ref a ∧ ∀ m' st', Stb m m' → SR cf.K cf.ct m' st' → s.ok st' → ∃ xs, SqL cf.K m'.hp a xs ∧ FzA cf.K cf.ct m' xs s.l := by
  cases w with
  | fz d =>
    cases d with
    | list l =>
      cases e
      cases r with
      | lst h1 h2 h3 h4 => exact ⟨_, rfl, fun m' st' s1 _ _ => ⟨_, SqL.of (s1.keep _ _ h1 h2 h3), h4.tob s1⟩⟩
    | _ => cases e
  | nst _ => cases e
  | own l =>
    cases e
    obtain ⟨q, xs, rfl, n, nb, hq, f⟩ := r
    exact ⟨q, rfl, fun m' st' s1 _ _ => ⟨xs, SqL.of (s1.keep _ _ n nb hq), (f.avo shun_off rfl).tob s1⟩⟩
  | loc n =>
    obtain ⟨a, rfl, ha⟩ := r
    unfold srcW at e
    dsimp only at e
    obtain ⟨o, ho, hb⟩ := S.get ha
    rw [ho] at e
    cases o with
    | dk l => cases e
    | ins _ _ => cases e
    | lst l =>
      cases e
      refine ⟨a, rfl, fun m' st' s1 S' ok => ?_⟩
      obtain ⟨xs, e1, f⟩ := (S'.ob n a _ (s1.get ha) (show st'[n]? = some (.lst l) from ok)).lst_of
      exact ⟨xs, SqL.of e1, f⟩
theorem its_list {s : Src} {a : Addr} (h : ∀ m' st', Stb m m' → SR cf.K cf.ct m' st' → s.ok st' → ∃ xs, SqL cf.K m'.hp a xs ∧ FzA cf.K cf.ct m' xs s.l) : ItS cf m (Itl cf.K a) s := fun m' st' i s1 S' ok => by
  obtain ⟨xs, hs, f⟩ := h m' st' s1 S' ok
  refine ⟨fun h1 _ => ⟨xs, hs, by rw [f.length]; exact h1⟩, fun d hd => ?_⟩
  obtain ⟨v, hv, fv⟩ := f.get hd
  refine ⟨⟨xs, v, hs, hv⟩, fun x H' y => ?_⟩
  obtain ⟨rfl, y⟩ := y
  have := y xs hs
  rw [hv] at this
  cases this
  exact ⟨Same.rfl', fv⟩
theorem ei_list {t : TE} {a : Dn} (ha : Ev cf E t a) : Ei cf E (iList cf.K t) (iSeq srcW a) := fun m σ en st R er S h => by
  refine ha m σ en st _ er S ?_
  unfold iSeq at h
  cases e : a en st with
  | ex c p st1 => rw [e] at h; exact h
  | no => rw [e] at h; exact h
  | ok x st1 =>
    rw [e, Rt.bind_ok] at h
    intro v m1 r1
    cases e2 : srcW st1 x with
    | none => rw [e2] at h; exact h.elim
    | some s =>
      rw [e2] at h
      obtain ⟨b, rfl, hb⟩ := src_at r1.sr r1.wr e2
      have ok1 : s.ok st1 := by
        cases x with
        | fz d => cases d <;> first | (cases e2; trivial) | cases e2
        | own l => cases e2; trivial
        | nst _ => cases e2
        | loc n =>
          unfold srcW at e2
          dsimp only at e2
          split at e2
          case h_1 l hl => cases e2; exact hl
          case h_2 => cases e2
      obtain ⟨xs, hs, _⟩ := hb m1 st1 Stp.refl.stb r1.sr ok1
      exact ⟨b, rfl, ⟨xs, hs⟩, h _ m1 r1.stp r1.sr (its_list hb)⟩
/-- a tuple -/
def srcT (_ : Sto) : W → Option Src
  | .fz (.tuple l) => some ⟨l, none⟩
  | _ => none
theorem srcT_at {s : Src} {v : V} {w : W} (r : WR cf.K cf.ct m v w) (e : srcT st w = some s) : ∃ a xs, v = .ref a ∧ FT cf.K m a xs ∧ FzA cf.K cf.ct m xs s.l ∧ s.g = none := by
  cases w with
  | fz d =>
    cases d with
    | tuple l =>
      cases e
      cases r with
      | tup h1 h2 => exact ⟨_, _, rfl, h1, h2, rfl⟩
    | _ => cases e
  | own l => cases e
  | nst _ => cases e
  | loc n => cases e
theorem ei_tup {t : TE} {a : Dn} (ha : Ev cf E t a) : Ei cf E (iTup cf.K t) (iSeq srcT a) := fun m σ en st R er S h => by
  refine ha m σ en st _ er S ?_
  unfold iSeq at h
  cases e : a en st with
  | ex c p st1 => rw [e] at h; exact h
  | no => rw [e] at h; exact h
  | ok x st1 =>
    rw [e, Rt.bind_ok] at h
    intro v m1 r1
    cases e2 : srcT st1 x with
    | none => rw [e2] at h; exact h.elim
    | some s =>
      rw [e2] at h
      obtain ⟨b, xs, rfl, ft, f, hg⟩ := srcT_at r1.wr e2
      refine ⟨b, rfl, ⟨xs, ft.sq⟩, h _ m1 r1.stp r1.sr fun m' st' i s1 S' ok => ?_⟩
      have hs := (ft.tob s1).sq
      have f' := f.tob s1
      refine ⟨fun h1 _ => ⟨xs, hs, by rw [f.length]; exact h1⟩, fun d hd => ?_⟩
      obtain ⟨v, hv, fv⟩ := f'.get hd
      refine ⟨⟨xs, v, hs, hv⟩, fun x H' y => ?_⟩
      obtain ⟨rfl, y⟩ := y
      have := y xs hs
      rw [hv] at this
      cases this
      exact ⟨Same.rfl', fv⟩
/-- a text -/
def srcS (_ : Sto) : W → Option Src
  | .fz (.str x) => some ⟨x.cps.toList.map fun c => .str ⟨#[c]⟩, none⟩
  | _ => none
theorem ei_str {t : TE} {a : Dn} (ha : Ev cf E t a) : Ei cf E (iStr t) (iSeq srcS a) := fun m σ en st R er S h => by
  refine ha m σ en st _ er S ?_
  unfold iSeq at h
  cases e : a en st with
  | ex c p st1 => rw [e] at h; exact h
  | no => rw [e] at h; exact h
  | ok x st1 =>
    rw [e, Rt.bind_ok] at h
    intro v m1 r1
    cases e2 : srcS st1 x with
    | none => rw [e2] at h; exact h.elim
    | some s =>
      rw [e2] at h
      cases x with
      | own l => cases e2
      | nst _ => cases e2
      | loc n => cases e2
      | fz d =>
        cases d with
        | str z =>
          cases e2
          cases r1.wr
          refine ⟨z, rfl, h _ m1 r1.stp r1.sr fun m' st' i s1 S' ok => ⟨fun h1 _ => ?_, fun d hd => ?_⟩⟩
          · show z.cps.size ≤ i
            simpa using h1
          · have hd' : (z.cps.toList.map fun c => PyData.str ⟨#[c]⟩)[i]? = some d := hd
            rw [List.getElem?_map] at hd'
            cases q : z.cps.toList[i]? with
            | none => rw [q] at hd'; cases hd'
            | some c =>
              rw [q] at hd'
              cases hd'
              have q' : z.cps[i]? = some c := by rw [← Array.getElem?_toList]; exact q
              refine ⟨(Array.getElem?_eq_some_iff.mp q').1, fun x H' y => ?_⟩
              obtain ⟨rfl, c', hc', rfl⟩ := y
              rw [q'] at hc'
              cases hc'
              exact ⟨Same.rfl', .str _⟩
        | _ => cases e2
/-- ranges -/
def rngS (lo : Int) (n : Nat) : Src := ⟨(List.range n).map fun i => .int (lo + (i : Nat)), none⟩
theorem its_rng {lo : Int} {n : Nat} : ItS cf m (Itr lo n) (rngS lo n) := fun m' st' i s1 S' ok => by
  refine ⟨fun h1 _ => by show n ≤ i; simpa [rngS] using h1, fun d hd => ?_⟩
  have hd' : ((List.range n).map fun i => PyData.int (lo + (i : Nat)))[i]? = some d := hd
  rw [List.getElem?_map] at hd'
  cases q : (List.range n)[i]? with
  | none => rw [q] at hd'; cases hd'
  | some j =>
    rw [q] at hd'
    cases hd'
    obtain ⟨l, e⟩ := List.getElem?_eq_some_iff.mp q
    rw [List.getElem_range] at e
    subst e
    refine ⟨by show i < n; simpa using l, fun x H' y => ?_⟩
    obtain ⟨rfl, rfl⟩ := y
    exact ⟨Same.rfl', .int _⟩
/-- so many intsW -/
def intsW : List W → Option (List Int)
  | [] => some []
  | .fz (.int i) :: ws => (intsW ws).map fun l => i :: l
  | _ => none
theorem intsW_ok : ∀ {vs : List V} {ws : List W} {l : List Int}, WRs cf m vs ws → intsW ws = some l → vs = l.map V.int
  | _, _, _, .nil, e => by cases e; rfl
  | _, w :: ws, l, .cons a b, e => by
    cases w with
    | own _ => cases e
    | nst _ => cases e
    | loc _ => cases e
    | fz d =>
      cases d with
      | int i =>
        unfold intsW at e
        cases q : intsW ws with
        | none => rw [q] at e; cases e
        | some l' =>
          rw [q] at e
          cases e
          cases a
          rw [intsW_ok b q]
          rfl
      | _ => cases e
noncomputable def r1S : List Int → Option Src
  | [j] => @ite _ (-(2 ^ 62) ≤ j ∧ j < 2 ^ 62) (Classical.propDecidable _) (some (rngS 0 j.toNat)) none
  | _ => none
noncomputable def r2S : List Int → Option Src
  | [i, j] => @ite _ (-(2 ^ 62) ≤ i ∧ i < 2 ^ 62 ∧ -(2 ^ 62) ≤ j ∧ j < 2 ^ 62) (Classical.propDecidable _) (some (rngS i (j - i).toNat)) none
  | _ => none
def iR (f : List Int → Option Src) (a : DnA) : En → Sto → Rt Src := fun en st => (a en st).bind fun ws st1 => match (intsW ws).bind f with
  | some s => .ok s st1
  | none => .no
theorem ei_r1 {t : TA} {a : DnA} (ha : Ea cf E t a) : Ei cf E (iRng1 t) (iR r1S a) := fun m σ en st R er S h => by
  refine ha m σ en st _ er S ?_
  unfold iR at h
  cases e : a en st with
  | ex c p st1 => rw [e] at h; exact h
  | no => rw [e] at h; exact h
  | ok x st1 =>
    rw [e, Rt.bind_ok] at h
    intro vs m1 s1 S1 r1
    cases q : intsW x with
    | none => rw [q] at h; exact h.elim
    | some l =>
      rw [q, Option.bind_some] at h
      obtain rfl := intsW_ok r1 q
      match l, h with
      | [j], h =>
        rw [show r1S [j] = @ite _ (-(2 ^ 62) ≤ j ∧ j < 2 ^ 62) (Classical.propDecidable _) (some (rngS 0 j.toNat)) none from rfl] at h
        by_cases c : -(2 ^ 62) ≤ j ∧ j < 2 ^ 62
        · rw [if_pos c] at h
          exact ⟨j, rfl, c.1, c.2, h _ m1 s1 S1 its_rng⟩
        · rw [if_neg c] at h
          exact h.elim
      | [], h => exact h.elim
      | _ :: _ :: _, h => exact h.elim
theorem ei_r2 {t : TA} {a : DnA} (ha : Ea cf E t a) : Ei cf E (iRng2 t) (iR r2S a) := fun m σ en st R er S h => by
  refine ha m σ en st _ er S ?_
  unfold iR at h
  cases e : a en st with
  | ex c p st1 => rw [e] at h; exact h
  | no => rw [e] at h; exact h
  | ok x st1 =>
    rw [e, Rt.bind_ok] at h
    intro vs m1 s1 S1 r1
    cases q : intsW x with
    | none => rw [q] at h; exact h.elim
    | some l =>
      rw [q, Option.bind_some] at h
      obtain rfl := intsW_ok r1 q
      match l, h with
      | [i, j], h =>
        rw [show r2S [i, j] = @ite _ (-(2 ^ 62) ≤ i ∧ i < 2 ^ 62 ∧ -(2 ^ 62) ≤ j ∧ j < 2 ^ 62) (Classical.propDecidable _) (some (rngS i (j - i).toNat)) none from rfl] at h
        by_cases c : -(2 ^ 62) ≤ i ∧ i < 2 ^ 62 ∧ -(2 ^ 62) ≤ j ∧ j < 2 ^ 62
        · rw [if_pos c] at h
          exact ⟨i, j, rfl, c, h _ m1 s1 S1 its_rng⟩
        · rw [if_neg c] at h
          exact h.elim
      | [], h => exact h.elim
      | [_], h => exact h.elim
      | _ :: _ :: _ :: _, h => exact h.elim
end
end QD
/-! QH: operations by values. -/
namespace QD
open PySem PySem.Spec PyProof.Rows L2 MG
section
variable {cf : Cf} {E : XK} {m m1 : Mo} {st : Sto} {v u : V} {w x : W}
theorem Pe.fz {Q : VK} {d : D} (S : SR cf.K cf.ct m st) (f : Fz cf.K cf.ct m v d) (h : Pe cf E m Q (.ok (.fz d) st)) : Q v m.hp := h v m (.fz Stp.refl S f)
/-! ### ints -/
def intW : W → Option Int
  | .fz (.int i) => some i
  | _ => none
theorem intW_ok {i : Int} (r : WR cf.K cf.ct m v w) (e : intW w = some i) : v = .int i := by
  cases w with
  | fz d => cases d with
    | int j => cases e; cases r; rfl
    | _ => cases e
  | _ => cases e
def f2I (C : Int → Int → Bool) (g : Int → Int → D) (a b : W) (st : Sto) : Rt W := match intW a, intW b with
  | some i, some j => if C i j = true then .ok (.fz (g i j)) st else .no
  | _, _ => .no
theorem op_2I {C : Int → Int → Bool} {CC : Int → Int → Prop} {g : Int → Int → D} {gv : Int → Int → V} (hC : ∀ i j, C i j = true → CC i j) (hg : ∀ m i j, Fz cf.K cf.ct m (gv i j) (g i j)) : Op2 cf E (rI CC gv) (f2I C g) := fun m st v1 v2 w1 w2 Q S r1 r2 h => by
  unfold f2I at h
  cases e1 : intW w1 with
  | none => rw [e1] at h; exact h.elim
  | some i =>
    cases e2 : intW w2 with
    | none => rw [e1, e2] at h; exact h.elim
    | some j =>
      rw [e1, e2] at h
      dsimp only at h
      split at h
      case isTrue c => exact ⟨i, j, intW_ok r1 e1, intW_ok r2 e2, hC i j c, h.fz S (hg m i j)⟩
      case isFalse => exact h.elim
theorem op_2I0 {g : Int → Int → D} {gv : Int → Int → V} (hg : ∀ m i j, Fz cf.K cf.ct m (gv i j) (g i j)) : Op2 cf E (rI0 gv) (f2I (fun _ _ => true) g) := fun m st v1 v2 w1 w2 Q S r1 r2 h => by
  unfold f2I at h
  cases e1 : intW w1 with
  | none => rw [e1] at h; exact h.elim
  | some i =>
    cases e2 : intW w2 with
    | none => rw [e1, e2] at h; exact h.elim
    | some j =>
      rw [e1, e2] at h
      exact ⟨i, j, intW_ok r1 e1, intW_ok r2 e2, h.fz S (hg m i j)⟩
abbrev fAdd := f2I (fun _ _ => true) fun i j => .int (i + j)
abbrev fSub := f2I (fun _ _ => true) fun i j => .int (i - j)
/-- * of two factors of together less than 130 million bits -/
def CMulB (i j : Int) : Prop := i.natAbs.log2 + j.natAbs.log2 < 130000000
theorem CMulB.ok {i j : Int} (h : CMulB i j) : IntMulOk i j := by
  have b : ∀ x : Int, Builtin.Int.intBits x ≤ x.natAbs.log2 + 1 := fun x => by
    unfold Builtin.Int.intBits
    split <;> omega
  have h1 := b i
  have h2 := b j
  have h3 : i.natAbs.log2 + j.natAbs.log2 < 130000000 := h
  have e : bitsLine = 134217728 := by decide
  unfold IntMulOk
  intro z
  rw [Bool.and_eq_true] at z
  have z2 := z.2
  unfold Builtin.Int.intTooBig at z2
  have z3 := of_decide_eq_true z2
  rw [e] at z3
  omega
theorem op_mulB {X : Cx} : OpR X (binaryOp .Mult) (rI CMulB fun i j => .int (i * j)) := opI fun _ _ _ _ _ _ _ hc q => mul_int q hc.ok
def cMul (i j : Int) : Bool := decide (i.natAbs.log2 + j.natAbs.log2 < 130000000)
def cDiv (_ j : Int) : Bool := decide (0 < j ∧ j.natAbs.log2 < 9000)
def cMod (_ j : Int) : Bool := decide (0 < j)
def cPow (i j : Int) : Bool := decide (0 ≤ j ∧ j ≤ 1000000 ∧ i.natAbs < 2 ^ 64)
abbrev fMul := f2I cMul fun i j => .int (i * j)
abbrev fDiv := f2I cDiv fun i j => .int (i / j)
abbrev fMod := f2I cMod fun i j => .int (i % j)
abbrev fPow := f2I cPow fun i j => .int (i ^ j.toNat)
abbrev fLt := f2I (fun _ _ => true) fun i j => .bool (decide (i < j))
abbrev fLe := f2I (fun _ _ => true) fun i j => .bool (decide (i ≤ j))
abbrev fGt := f2I (fun _ _ => true) fun i j => .bool (decide (j < i))
abbrev fGe := f2I (fun _ _ => true) fun i j => .bool (decide (j ≤ i))
theorem q_add : Op2 cf E (rI0 fun i j => .int (i + j)) fAdd := op_2I0 fun _ _ _ => .int _
theorem q_sub : Op2 cf E (rI0 fun i j => .int (i - j)) fSub := op_2I0 fun _ _ _ => .int _
theorem q_mul : Op2 cf E (rI CMulB fun i j => .int (i * j)) fMul := op_2I (fun i j h => by unfold CMulB; exact of_decide_eq_true h) fun _ _ _ => .int _
theorem q_div : Op2 cf E (rI CDivW fun i j => .int (i / j)) fDiv := op_2I (fun i j h => (of_decide_eq_true h : 0 < j ∧ j.natAbs.log2 < 9000)) fun _ _ _ => .int _
theorem q_mod : Op2 cf E (rI (fun _ j => 0 < j) fun i j => .int (i % j)) fMod := op_2I (fun i j h => of_decide_eq_true h) fun _ _ _ => .int _
theorem q_pow : Op2 cf E (rI CPow fun i j => .int (i ^ j.toNat)) fPow := op_2I (fun i j h => (of_decide_eq_true h : 0 ≤ j ∧ j ≤ 1000000 ∧ i.natAbs < 2 ^ 64)) fun _ _ _ => .int _
theorem q_lt : Op2 cf E (rI0 fun i j => .bl (decide (i < j))) fLt := op_2I0 fun _ _ _ => .bl _
theorem q_le : Op2 cf E (rI0 fun i j => .bl (decide (i ≤ j))) fLe := op_2I0 fun _ _ _ => .bl _
theorem q_gt : Op2 cf E (rI0 fun i j => .bl (decide (j < i))) fGt := op_2I0 fun _ _ _ => .bl _
theorem q_ge : Op2 cf E (rI0 fun i j => .bl (decide (j ≤ i))) fGe := op_2I0 fun _ _ _ => .bl _
def f1I (g : Int → D) (a : W) (st : Sto) : Rt W := match intW a with
  | some i => .ok (.fz (g i)) st
  | none => .no
theorem q_neg : Op1 cf E (rU fun i => .int (-i)) (f1I fun i => .int (-i)) := fun m st v w Q S r h => by
  unfold f1I at h
  cases e : intW w with
  | none => rw [e] at h; exact h.elim
  | some i => rw [e] at h; exact ⟨i, intW_ok r e, h.fz S (.int _)⟩
/-! ### == and != of plain values -/
def scaD : D → D → Bool
  | .none, .none => true | .none, .int _ => true | .int _, .none => true | .none, .bool _ => true | .bool _, .none => true | .none, .str _ => true | .str _, .none => true
  | .int _, .int _ => true | .bool _, .bool _ => true | .str _, .str _ => true
  | .int _, .str _ => true | .str _, .int _ => true | .bool _, .str _ => true | .str _, .bool _ => true
  | _, _ => false
def eqS : D → D → Bool
  | .none, .none => true
  | .int i, .int j => decide (i = j)
  | .bool i, .bool j => decide (i = j)
  | .str i, .str j => decide (i = j)
  | _, _ => false
theorem sca_ok {d e : D} (f : Fz cf.K cf.ct m v d) (g : Fz cf.K cf.ct m u e) (h : scaD d e = true) : scal v u = true ∧ decide (v = u) = eqS d e := by
  cases d <;> cases e <;> first | (cases h; done) | (cases f; cases g; refine ⟨rfl, ?_⟩; simp [eqS])
def fEq (neg : Bool) (a b : W) (st : Sto) : Rt W := match a, b with
  | .fz d, .fz e => if scaD d e = true then .ok (.fz (.bool (if neg = true then !eqS d e else eqS d e))) st else .no
  | _, _ => .no
theorem q_eq : Op2 cf E rEq (fEq false) := fun m st v1 v2 w1 w2 Q S r1 r2 h => by
  cases w1 with
  | fz d =>
    cases w2 with
    | fz e =>
      unfold fEq at h
      dsimp only at h
      split at h
      case isTrue c =>
        obtain ⟨h1, h2⟩ := sca_ok r1 r2 c
        refine ⟨h1, ?_⟩
        rw [h2]
        exact h.fz S (.bl _)
      case isFalse => exact h.elim
    | _ => exact h.elim
  | _ => exact h.elim
theorem q_ne : Op2 cf E rNe (fEq true) := fun m st v1 v2 w1 w2 Q S r1 r2 h => by
  cases w1 with
  | fz d =>
    cases w2 with
    | fz e =>
      unfold fEq at h
      dsimp only at h
      split at h
      case isTrue c =>
        obtain ⟨h1, h2⟩ := sca_ok r1 r2 c
        refine ⟨h1, ?_⟩
        rw [h2]
        exact h.fz S (.bl _)
      case isFalse => exact h.elim
    | _ => exact h.elim
  | _ => exact h.elim
/-! ### of data at any depth -/
mutual
/-- None, bools, ints, texts, lists, tuples of such -/
def plain : D → Bool
  | .none => true
  | .bool _ => true
  | .int _ => true
  | .str _ => true
  | .list l => plainA l
  | .tuple l => plainA l
  | .dict _ => false
def plainA : List D → Bool
  | [] => true
  | d :: ds => plain d && plainA ds
end
mutual
theorem Fz.dp : ∀ {v : V} {d : D}, Fz cf.K cf.ct m v d → plain d = true → Dp cf.K m.hp v d
  | _, _, .non, _ => .non
  | _, _, .bl b, _ => .bl b
  | _, _, .int b, _ => .int b
  | _, _, .str b, _ => .str b
  | _, _, .tup h1 h2, p => .tup h1.sq (FzA.dp h2 (by unfold plain at p; exact p))
  | _, _, .lst h1 h2 h3 h4, p => .lst (SqL.of h3) (FzA.dp h4 (by unfold plain at p; exact p))
  | _, _, .ro h1 h2, p => by unfold plain at p; cases p
  | _, _, .emp h, p => by unfold plain at p; cases p
  | _, _, .ty h, p => by unfold plain at p; cases p
  | _, _, .cls h, p => by unfold plain at p; cases p
  | _, _, .ob h1 h2 h3 h4 h5 h6, p => by unfold plain at p; cases p
theorem FzA.dp : ∀ {vs : List V} {ds : List D}, FzA cf.K cf.ct m vs ds → plainA ds = true → DpAll cf.K m.hp vs ds
  | _, _, .nil, _ => .nil
  | _, _, .cons h1 h2, p => by
    unfold plainA at p
    rw [Bool.and_eq_true] at p
    exact .cons (Fz.dp h1 p.1) (FzA.dp h2 p.2)
end
/-- a value's data, to be looked at -/
def lookW (st : Sto) : W → Option D
  | .fz d => some d
  | .own l => some (.list l)
  | .loc n => match st[n]? with
    | some (.lst l) => some (.list l)
    | _ => none
  | .nst _ => none
theorem look_dp {d : D} (S : SR cf.K cf.ct m st) (r : WR cf.K cf.ct m v w) (e : lookW st w = some d) (p : plain d = true) : Dp cf.K m.hp v d := by
  cases w with
  | fz d' => cases e; exact Fz.dp r p
  | nst _ => cases e
  | own l =>
    cases e
    obtain ⟨a, xs, rfl, hs, f⟩ := seq_ok S r (l := l) rfl
    exact .lst (SqL.of hs) (f.dp (by unfold plain at p; exact p))
  | loc n =>
    unfold lookW at e
    dsimp only at e
    split at e
    case h_1 l hl =>
      cases e
      obtain ⟨a, xs, rfl, hs, f⟩ := seq_ok S r (l := l) (by unfold seqW; dsimp only; rw [hl])
      exact .lst (SqL.of hs) (f.dp (by unfold plain at p; exact p))
    case h_2 => cases e
def fEqD (neg : Bool) (a b : W) (st : Sto) : Rt W := match lookW st a, lookW st b with
  | some d, some e => if (plain d && plain e && SeqAt.shaped d && SeqAt.shaped e) = true then .ok (.fz (.bool (if neg = true then !PyData.eqv d e else PyData.eqv d e))) st else .no
  | _, _ => .no
theorem q_eqD : Op2 cf E (rEqD cf.K) (fEqD false) := fun m st v1 v2 w1 w2 Q S r1 r2 h => by
  unfold fEqD at h
  cases e1 : lookW st w1 with
  | none => rw [e1] at h; exact h.elim
  | some d =>
    cases e2 : lookW st w2 with
    | none => rw [e1, e2] at h; exact h.elim
    | some e =>
      rw [e1, e2] at h
      dsimp only at h
      split at h
      case isTrue c =>
        simp only [Bool.and_eq_true] at c
        exact ⟨d, e, look_dp S r1 e1 c.1.1.1, look_dp S r2 e2 c.1.1.2, c.1.2, c.2, h.fz S (.bl _)⟩
      case isFalse => exact h.elim
theorem q_neD : Op2 cf E (rNeD cf.K) (fEqD true) := fun m st v1 v2 w1 w2 Q S r1 r2 h => by
  unfold fEqD at h
  cases e1 : lookW st w1 with
  | none => rw [e1] at h; exact h.elim
  | some d =>
    cases e2 : lookW st w2 with
    | none => rw [e1, e2] at h; exact h.elim
    | some e =>
      rw [e1, e2] at h
      dsimp only at h
      split at h
      case isTrue c =>
        simp only [Bool.and_eq_true] at c
        exact ⟨d, e, look_dp S r1 e1 c.1.1.1, look_dp S r2 e2 c.1.1.2, c.1.2, c.2, h.fz S (.bl _)⟩
      case isFalse => exact h.elim
/-! ### is None -/
def noneW : W → Bool
  | .fz .none => true
  | _ => false
theorem noneW_ok (r : WR cf.K cf.ct m v w) : decide (v = .non) = noneW w := by
  cases w with
  | fz d => cases r <;> simp [noneW]
  | own l => obtain ⟨q, xs, rfl, _⟩ := r; simp [noneW]
  | nst l => obtain ⟨q, xs, rfl, _⟩ := r; simp [noneW]
  | loc n => obtain ⟨a, rfl, _⟩ := r; simp [noneW]
def fIs (neg : Bool) (a b : W) (st : Sto) : Rt W := if noneW b = true then .ok (.fz (.bool (if neg = true then !noneW a else noneW a))) st else .no
theorem q_isN : Op2 cf E (fun x y H Q => y = .non ∧ Q (.bl (decide (x = .non))) H) (fIs false) := fun m st v1 v2 w1 w2 Q S r1 r2 h => by
  unfold fIs at h
  split at h
  case isTrue c =>
    refine ⟨of_decide_eq_true ((noneW_ok r2).trans c), ?_⟩
    rw [noneW_ok r1]
    exact h.fz S (.bl _)
  case isFalse => exact h.elim
theorem q_notN : Op2 cf E (fun x y H Q => y = .non ∧ Q (.bl (!decide (x = .non))) H) (fIs true) := fun m st v1 v2 w1 w2 Q S r1 r2 h => by
  unfold fIs at h
  split at h
  case isTrue c =>
    refine ⟨of_decide_eq_true ((noneW_ok r2).trans c), ?_⟩
    rw [noneW_ok r1]
    exact h.fz S (.bl _)
  case isFalse => exact h.elim
/-! ### texts -/
def strW : W → Option Str
  | .fz (.str x) => some x
  | _ => none
theorem strW_ok {z : Str} (r : WR cf.K cf.ct m v w) (e : strW w = some z) : v = .str z := by
  cases w with
  | fz d => cases d with
    | str j => cases e; cases r; rfl
    | _ => cases e
  | _ => cases e
def fAddS (a b : W) (st : Sto) : Rt W := match strW a, strW b with
  | some i, some j => if i.length + j.length ≤ sizeLine then .ok (.fz (.str (i ++ j))) st else .no
  | _, _ => .no
theorem q_addS : Op2 cf E (fun x y H Q => ∃ i j, x = .str i ∧ y = .str j ∧ i.length + j.length ≤ sizeLine ∧ Q (.str (i ++ j)) H) fAddS := fun m st v1 v2 w1 w2 Q S r1 r2 h => by
  unfold fAddS at h
  cases e1 : strW w1 with
  | none => rw [e1] at h; exact h.elim
  | some i =>
    cases e2 : strW w2 with
    | none => rw [e1, e2] at h; exact h.elim
    | some j =>
      rw [e1, e2] at h
      dsimp only at h
      split at h
      case isTrue c => exact ⟨i, j, strW_ok r1 e1, strW_ok r2 e2, c, h.fz S (.str _)⟩
      case isFalse => exact h.elim
/-! ### lists and tuples -/
def fCat (a b : W) (st : Sto) : Rt W := match seqW st a, seqW st b with
  | some i, some j => if i.length + j.length ≤ sizeLine then .ok (.own (i ++ j)) st else .no
  | _, _ => .no
theorem q_cat : Op2 cf E rCat fCat := fun m st v1 v2 w1 w2 Q S r1 r2 h => by
  unfold fCat at h
  cases e1 : seqW st w1 with
  | none => rw [e1] at h; exact h.elim
  | some i =>
    cases e2 : seqW st w2 with
    | none => rw [e1, e2] at h; exact h.elim
    | some j =>
      rw [e1, e2] at h
      dsimp only at h
      split at h
      case isTrue c =>
        obtain ⟨a, xs, rfl, ha, fa⟩ := seq_ok S r1 e1
        obtain ⟨b, ys, rfl, hb, fb⟩ := seq_ok S r2 e2
        exact ⟨a, b, xs, ys, rfl, rfl, ha, hb, by rw [fa.length, fb.length]; exact c, fun p hp => h _ _ (Rs.new Stp.refl S hp (fa.append fb))⟩
      case isFalse => exact h.elim
def tupW : W → Option (List D)
  | .fz (.tuple l) => some l
  | _ => none
theorem tupW_ok {l : List D} (r : WR cf.K cf.ct m v w) (e : tupW w = some l) : ∃ a xs, v = .ref a ∧ FT cf.K m a xs ∧ FzA cf.K cf.ct m xs l := by
  cases w with
  | fz d => cases d with
    | tuple j =>
      cases e
      cases r with
      | tup h1 h2 => exact ⟨_, _, rfl, h1, h2⟩
    | _ => cases e
  | _ => cases e
def fCatT (a b : W) (st : Sto) : Rt W := match tupW a, tupW b with
  | some i, some j => if i.length + j.length ≤ sizeLine then .ok (.fz (.tuple (i ++ j))) st else .no
  | _, _ => .no
theorem q_catT : Op2 cf E (rCatA cf.K) fCatT := fun m st v1 v2 w1 w2 Q S r1 r2 h => by
  unfold fCatT at h
  cases e1 : tupW w1 with
  | none => rw [e1] at h; exact h.elim
  | some i =>
    cases e2 : tupW w2 with
    | none => rw [e1, e2] at h; exact h.elim
    | some j =>
      rw [e1, e2] at h
      dsimp only at h
      split at h
      case isTrue c =>
        obtain ⟨a, xs, rfl, ha, fa⟩ := tupW_ok r1 e1
        obtain ⟨b, ys, rfl, hb, fb⟩ := tupW_ok r2 e2
        refine ⟨a, b, xs, ys, rfl, rfl, ha.sq, hb.sq, by rw [fa.length, fb.length]; exact c, fun e => ?_, fun _ e => ?_, fun _ _ p hp => ?_⟩
        · subst e
          cases fa
          exact h.fz S (.tup hb fb)
        · subst e
          cases fb
          rw [List.append_nil] at h
          exact h.fz S (.tup ha fa)
        · exact h _ _ (Rs.newTup S hp (fa.append fb))
      case isFalse => exact h.elim
/-- x in xs, of plain values -/
def flatD : D → Bool
  | .none => true | .bool _ => true | .int _ => true | .str _ => true | _ => false
def toV : D → V
  | .none => .non | .bool b => .bl b | .int i => .int i | .str z => .str z | _ => .non
theorem flat_ok {d : D} (f : Fz cf.K cf.ct m v d) (h : flatD d = true) : v = toV d := by
  cases f <;> first | rfl | (cases h; done)
theorem flats_ok : ∀ {vs : List V} {ds : List D}, FzA cf.K cf.ct m vs ds → ds.all flatD = true → vs = ds.map toV
  | _, _, .nil, _ => rfl
  | _, _, .cons a b, h => by
    rw [List.all_cons, Bool.and_eq_true] at h
    rw [flat_ok a h.1, flats_ok b h.2]
    rfl
theorem flatV_of {d : D} (h : flatD d = true) : flatV (toV d) = true := by
  cases d <;> first | rfl | (cases h; done)
def inD (d : D) (l : List D) : Bool := inV (toV d) (l.map toV)
/-- a list's or a tuple's items -/
def anyW (st : Sto) (w : W) : Option (List D) := match tupW w with
  | some l => some l
  | none => seqR st w
theorem anyW_ok {l : List D} (S : SR cf.K cf.ct m st) (r : WR cf.K cf.ct m v w) (e : anyW st w = some l) : ∃ a xs, v = .ref a ∧ (SqL cf.K m.hp a xs ∨ SqT cf.K m.hp a xs) ∧ FzA cf.K cf.ct m xs l := by
  unfold anyW at e
  cases q : tupW w with
  | some l' =>
    rw [q] at e
    cases e
    obtain ⟨a, xs, rfl, h, f⟩ := tupW_ok r q
    exact ⟨a, xs, rfl, .inr h.sq, f⟩
  | none =>
    rw [q] at e
    obtain ⟨a, xs, rfl, h, f⟩ := seqR_ok S r e
    exact ⟨a, xs, rfl, .inl h, f⟩
def fIn (neg : Bool) (a b : W) (st : Sto) : Rt W := match a, anyW st b with
  | .fz d, some l => if (flatD d && l.all flatD) = true then .ok (.fz (.bool (if neg = true then !inD d l else inD d l))) st else .no
  | _, _ => .no
theorem q_in {neg : Bool} : Op2 cf E (rIn cf.K neg) (fIn neg) := fun m st v1 v2 w1 w2 Q S r1 r2 h => by
  cases w1 with
  | own _ => exact h.elim
  | nst _ => exact h.elim
  | loc _ => exact h.elim
  | fz d =>
    unfold fIn at h
    cases e2 : anyW st w2 with
    | none => rw [e2] at h; exact h.elim
    | some l =>
      rw [e2] at h
      dsimp only at h
      split at h
      case isTrue c =>
        rw [Bool.and_eq_true] at c
        obtain ⟨a, xs, rfl, hs, f⟩ := anyW_ok S r2 e2
        have e1 := flat_ok r1 c.1
        have e3 := flats_ok f c.2
        subst e1 e3
        refine ⟨a, _, rfl, hs, flatV_of c.1, ?_, h.fz S (.bl _)⟩
        rw [List.all_map]
        exact List.all_eq_true.mpr fun y hy => flatV_of (List.all_eq_true.mp c.2 y hy)
      case isFalse => exact h.elim
/-- a sign in a text -/
def sgnW : W → Option Nat
  | .fz (.str x) => match x.cps.toList with
    | [c] => some c
    | _ => none
  | _ => none
theorem sgnW_ok {c : Nat} (r : WR cf.K cf.ct m v w) (e : sgnW w = some c) : v = .str ⟨#[c]⟩ := by
  cases w with
  | fz d => cases d with
    | str x =>
      cases r
      obtain ⟨⟨l⟩⟩ := x
      unfold sgnW at e
      dsimp only at e
      match l, e with
      | [c'], e => cases e; rfl
    | _ => cases e
  | _ => cases e
def fInS (neg : Bool) (a b : W) (st : Sto) : Rt W := match sgnW a, strW b with
  | some c, some z => .ok (.fz (.bool (if neg = true then !decide (c ∈ z.cps.toList) else decide (c ∈ z.cps.toList)))) st
  | _, _ => .no
theorem q_inS : Op2 cf E (fun x y H Q => ∃ (c : Nat) (z : Str), x = .str ⟨#[c]⟩ ∧ y = .str z ∧ Q (.bl (decide (c ∈ z.cps.toList))) H) (fInS false) := fun m st v1 v2 w1 w2 Q S r1 r2 h => by
  unfold fInS at h
  cases e1 : sgnW w1 with
  | none => rw [e1] at h; exact h.elim
  | some c =>
    cases e2 : strW w2 with
    | none => rw [e1, e2] at h; exact h.elim
    | some z =>
      rw [e1, e2] at h
      exact ⟨c, z, sgnW_ok r1 e1, strW_ok r2 e2, h.fz S (.bl _)⟩
theorem q_notInS : Op2 cf E (fun x y H Q => ∃ (c : Nat) (z : Str), x = .str ⟨#[c]⟩ ∧ y = .str z ∧ Q (.bl (!decide (c ∈ z.cps.toList))) H) (fInS true) := fun m st v1 v2 w1 w2 Q S r1 r2 h => by
  unfold fInS at h
  cases e1 : sgnW w1 with
  | none => rw [e1] at h; exact h.elim
  | some c =>
    cases e2 : strW w2 with
    | none => rw [e1, e2] at h; exact h.elim
    | some z =>
      rw [e1, e2] at h
      exact ⟨c, z, sgnW_ok r1 e1, strW_ok r2 e2, h.fz S (.bl _)⟩
/-! ### items -/
theorem atI_map {α β : Type} {f : α → β} {l : List α} {i : Int} : atI (l.map f) i = (atI l i).map f := by
  unfold atI
  rw [List.length_map]
  cases ixN l.length i with
  | none => rfl
  | some j => show (l.map f)[j]? = (l[j]?).map f; rw [List.getElem?_map]
theorem atI_rel {l : List D} {xs : List V} {i : Int} {d : D} (f : FzA cf.K cf.ct m xs l) (e : atI l i = some d) : ∃ v, atI xs i = some v ∧ Fz cf.K cf.ct m v d := by
  unfold atI at e ⊢
  rw [f.length]
  cases q : ixN l.length i with
  | none => rw [q] at e; cases e
  | some j => rw [q] at e; exact f.get e
def fIxL (a b : W) (st : Sto) : Rt W := match seqR st a, intW b with
  | some l, some i => match atI l i with
    | some d => .ok (.fz d) st
    | none => .no
  | _, _ => .no
def fIxT (a b : W) (st : Sto) : Rt W := match tupW a, intW b with
  | some l, some i => match atI l i with
    | some d => .ok (.fz d) st
    | none => .no
  | _, _ => .no
def fIxS (a b : W) (st : Sto) : Rt W := match strW a, intW b with
  | some z, some i => if z.length ≤ sizeLine then match atI z.cps.toList i with
    | some c => .ok (.fz (.str ⟨#[c]⟩)) st
    | none => .no
    else .no
  | _, _ => .no
theorem q_ixL : Op2 cf E (rIxL cf.K) fIxL := fun m st v1 v2 w1 w2 Q S r1 r2 h => by
  unfold fIxL at h
  cases e1 : seqR st w1 with
  | none => rw [e1] at h; exact h.elim
  | some l =>
    cases e2 : intW w2 with
    | none => rw [e1, e2] at h; exact h.elim
    | some i =>
      rw [e1, e2] at h
      dsimp only at h
      cases e3 : atI l i with
      | none => rw [e3] at h; exact h.elim
      | some d =>
        rw [e3] at h
        obtain ⟨a, xs, rfl, hs, f⟩ := seqR_ok S r1 e1
        obtain ⟨v, hv, fv⟩ := atI_rel f e3
        exact ⟨a, xs, i, v, rfl, intW_ok r2 e2, hs, hv, h.fz S fv⟩
theorem q_ixT : Op2 cf E (rIxT cf.K) fIxT := fun m st v1 v2 w1 w2 Q S r1 r2 h => by
  unfold fIxT at h
  cases e1 : tupW w1 with
  | none => rw [e1] at h; exact h.elim
  | some l =>
    cases e2 : intW w2 with
    | none => rw [e1, e2] at h; exact h.elim
    | some i =>
      rw [e1, e2] at h
      dsimp only at h
      cases e3 : atI l i with
      | none => rw [e3] at h; exact h.elim
      | some d =>
        rw [e3] at h
        obtain ⟨a, xs, rfl, hs, f⟩ := tupW_ok r1 e1
        obtain ⟨v, hv, fv⟩ := atI_rel f e3
        exact ⟨a, xs, i, v, rfl, intW_ok r2 e2, hs.sq, hv, h.fz S fv⟩
theorem q_ixS : Op2 cf E rIxS fIxS := fun m st v1 v2 w1 w2 Q S r1 r2 h => by
  unfold fIxS at h
  cases e1 : strW w1 with
  | none => rw [e1] at h; exact h.elim
  | some z =>
    cases e2 : intW w2 with
    | none => rw [e1, e2] at h; exact h.elim
    | some i =>
      rw [e1, e2] at h
      dsimp only at h
      split at h
      case isFalse => exact h.elim
      case isTrue c =>
        cases e3 : atI z.cps.toList i with
        | none => rw [e3] at h; exact h.elim
        | some k =>
          rw [e3] at h
          exact ⟨z, i, k, strW_ok r1 e1, intW_ok r2 e2, c, e3, h.fz S (.str _)⟩
/-- xs[i] = v -/
def fSetL (a b c : W) (st : Sto) : Option Sto := match a, intW b, datW c with
  | .loc n, some k, some d => match st[n]? with
    | some (.lst l) => match ixN l.length k with
      | some j => some (st.set n (.lst (l.set j d)))
      | none => none
    | _ => none
  | _, _, _ => none
theorem q_setL : OpS cf E rSetL fSetL := fun m st v1 v2 v3 w1 w2 w3 Q S r1 r2 r3 st' h k => by
  cases w1 with
  | fz _ => cases h
  | own _ => cases h
  | nst _ => cases h
  | loc n =>
    unfold fSetL at h
    cases e2 : intW w2 with
    | none => rw [e2] at h; cases h
    | some i =>
      cases e3 : datW w3 with
      | none => rw [e2, e3] at h; cases h
      | some d =>
        rw [e2, e3] at h
        dsimp only at h
        obtain ⟨a, rfl, ha⟩ := r1
        obtain ⟨o, ho, hb⟩ := S.get ha
        rw [ho] at h
        cases o with
        | dk _ => cases h
        | ins _ _ => cases h
        | lst l =>
          dsimp only at h
          obtain ⟨xs, e1, f⟩ := hb.lst_of
          cases e4 : ixN l.length i with
          | none => rw [e4] at h; cases h
          | some j =>
            rw [e4] at h
            cases h
            refine ⟨a, xs, i, j, rfl, intW_ok r2 e2, e1, by rw [f.length]; exact e4, ?_⟩
            have s := Stp.chg (m := m) (u := .lst (xs.set j v3)) ha
            exact k _ s (S.set ha ⟨_, upd_same, ((f.set j (dat_ok r3 e3)).to s : FzA cf.K cf.ct _ _ _)⟩)
end
end QD
/-! zip over the items of a tuple of tuples, one to four of them, and the results kept under one name -/
namespace ZN
open PySem
open PySem.Sem (wp)
abbrev IsZipF (h : Heap) (z TI TO : Addr) (f0 f1 : Value) : Prop :=
  h.get? z = some { cls := .type "zip", dict := none, data := .fields #[f0, f1, .bool false, .ref TI, .ref TO], slots := #[] }
abbrev IsTupV (h : Heap) (T : Addr) (vs : List Value) : Prop := h.get? T = some { cls := .type "tuple", data := .seq vs.toArray }
/-- the iterators (and their tuples) stand apart from the zip and its own -/
structure Apart (z TI TO : Addr) (l : List (Addr × Addr)) : Prop where
  TIz : TI ≠ z
  TOz : TO ≠ z
  TITO : TI ≠ TO
  iz : ∀ p ∈ l, p.1 ≠ z
  iTI : ∀ p ∈ l, p.1 ≠ TI
  iTO : ∀ p ∈ l, p.1 ≠ TO
  tz : ∀ p ∈ l, p.2 ≠ z
  tTO : ∀ p ∈ l, p.2 ≠ TO
  ti : ∀ p ∈ l, ∀ q ∈ l, p.2 ≠ q.1
  nd : (l.map (·.1)).Nodup
def Rows (h : Heap) (k : Nat) (l : List (Addr × Addr)) (xs : List Value) : Prop := l.length = xs.length ∧ ∀ (n : Nat) (p : Addr × Addr), l[n]? = some p → ∃ x items, xs[n]? = some x ∧ h.IsTuple p.2 items ∧ items[k]? = some x
abbrev refs (l : List (Addr × Addr)) : List Value := l.map fun p => Value.ref p.1
section
variable {prog : Program} {w : World} {A : Around} {E : Value → Shared → Prop} {s : Shared}
theorem wpAny_loadIfAlive {M : Model} {a : Addr} {Q : Option Obj → Shared → Prop} (h : Q (s.heap.get? a) s) : wpAny M A (loadIfAlive a) Q E s := fun Γ p hΓ => h
theorem wpAny_updateSeq_tup {T : Addr} {vs : List Value} {x : Value} {k : Nat} {Q : Unit → Shared → Prop} (hT : IsTupV s.heap T vs) (hl : vs.length ≤ 4)
    (h : ∀ h', IsTupV h' T (vs.set k x) → Heap.SameBut T s.heap h' → Q () { s with heap := h' }) :
    wpAny (model prog w) A (updateSeq T (·.setIfInBounds k x)) Q E s := by
  refine wpAny_updateSeq hT rfl (h _ ?_ (Heap.SameBut.update ..)) (by rw [List.size_toArray]; exact Nat.le_trans hl (by decide)) (by rw [Array.size_setIfInBounds, List.size_toArray]; exact Nat.le_trans hl (by decide))
  show Heap.get? _ _ = _
  rw [Heap.get?_update_self _ hT rfl]
  simp [Obj.mapSeq]
/-- how far a round of draws has come -/
structure St (z TI TO : Addr) (f0 f1 : Value) (l dn td : List (Addr × Addr)) (k : Nat) (ys : List Value) (h0 h : Heap) (d : Nat) : Prop where
  hz : IsZipF h z TI TO f0 f1
  hTI : IsTupV h TI (refs l)
  hTO : IsTupV h TO ys
  ly : ys.length = l.length
  hd : ∀ p ∈ dn, h.IsTupleIter p.1 p.2 (k + 1)
  ht : ∀ p ∈ td, h.IsTupleIter p.1 p.2 k
  sz : h.objs.size = h0.objs.size + d
  kp : ∀ c o, c ≠ z → c ≠ TO → (∀ p ∈ l, c ≠ p.1) → h0.get? c = some o → h.get? c = some o
/-- one draw -/
theorem St.draw {z TI TO : Addr} {f0 f1 : Value} {l dn td : List (Addr × Addr)} {p : Addr × Addr} {k : Nat} {ys : List Value} {h0 : Heap} {x : Value} {items : Array Value} {Q : Value → Shared → Prop} (D : Apart z TI TO l) (e : l = dn ++ p :: td)
    (S : St z TI TO f0 f1 l dn (p :: td) k ys h0 s.heap 0) (ht : h0.IsTuple p.2 items) (hx : items[k]? = some x)
    (hQ : ∀ h', St z TI TO f0 f1 l (dn ++ [p]) td k ys h0 h' 0 → Q x { s with heap := h' }) : wpAny (model prog w) A (Builtin.SmallTypes.nextOf (.ref p.1)) Q E s := by
  have mp : p ∈ l := by rw [e]; simp
  have nd := D.nd
  rw [e, List.map_append, List.map_cons] at nd
  have nd2 := List.nodup_append.mp nd
  have nd3 := List.nodup_cons.mp nd2.2.1
  obtain ⟨o, ho, r⟩ := ht
  have ht' : s.heap.IsTuple p.2 items := ⟨o, S.kp _ _ (D.tz p mp) (D.tTO p mp) (fun q hq => D.ti p mp q hq) ho, r⟩
  refine RZ.nextOf_tuple_item (S.ht p (List.mem_cons_self ..)) ht' hx fun h' hi hs => hQ h' ?_
  refine ⟨hs.extBut _ _ (D.iz p mp).symm S.hz, hs.extBut _ _ (D.iTI p mp).symm S.hTI, hs.extBut _ _ (D.iTO p mp).symm S.hTO, S.ly, fun q hq => ?_, fun q hq => ?_, by rw [hs.1, S.sz], fun c o c1 c2 c3 hc => hs.extBut _ _ (c3 p mp) (S.kp c o c1 c2 c3 hc)⟩
  · rcases List.mem_append.mp hq with hq | hq
    · refine (S.hd q hq).extBut hs.extBut fun x => ?_
      exact nd2.2.2 q.1 (List.mem_map_of_mem hq) p.1 (List.mem_cons_self ..) x
    · have : q = p := by simpa using hq
      subst this
      exact hi
  · refine (S.ht q (List.mem_cons_of_mem _ hq)).extBut hs.extBut fun x => ?_
    exact nd3.1 (x ▸ List.mem_map_of_mem hq)
/-- the zip's own field set -/
theorem St.set {z TI TO : Addr} {f0 f1 g0 g1 : Value} {l dn td : List (Addr × Addr)} {k d : Nat} {ys : List Value} {h0 h h' : Heap} (D : Apart z TI TO l) (hl : l = dn ++ td) (S : St z TI TO f0 f1 l dn td k ys h0 h d)
    (hz : IsZipF h' z TI TO g0 g1) (hs : Heap.SameBut z h h') : St z TI TO g0 g1 l dn td k ys h0 h' d := by
  refine ⟨hz, hs.extBut _ _ D.TIz S.hTI, hs.extBut _ _ D.TOz S.hTO, S.ly, fun q hq => (S.hd q hq).extBut hs.extBut (D.iz q (by rw [hl]; simp [hq])), fun q hq => (S.ht q hq).extBut hs.extBut (D.iz q (by rw [hl]; simp [hq])), by rw [hs.1, S.sz], fun c o c1 c2 c3 hc => hs.extBut _ _ c1 (S.kp c o c1 c2 c3 hc)⟩
theorem St.tup {z TI TO : Addr} {f0 f1 : Value} {l dn td : List (Addr × Addr)} {k d : Nat} {ys zs : List Value} {h0 h h' : Heap} (D : Apart z TI TO l) (hl : l = dn ++ td) (S : St z TI TO f0 f1 l dn td k ys h0 h d)
    (hT : IsTupV h' TO zs) (lz : zs.length = ys.length) (hs : Heap.SameBut TO h h') : St z TI TO f0 f1 l dn td k zs h0 h' d := by
  refine ⟨hs.extBut _ _ D.TOz.symm S.hz, hs.extBut _ _ D.TITO S.hTI, hT, by rw [lz, S.ly], fun q hq => (S.hd q hq).extBut hs.extBut (D.iTO q (by rw [hl]; simp [hq])), fun q hq => (S.ht q hq).extBut hs.extBut (D.iTO q (by rw [hl]; simp [hq])), by rw [hs.1, S.sz], fun c o c1 c2 c3 hc => hs.extBut _ _ c2 (S.kp c o c1 c2 c3 hc)⟩
theorem free_any {z TI TO : Addr} {f0 : Value} {b1 : Bool} {l : List (Addr × Addr)} {k : Nat} {ys : List Value} {h0 : Heap} (D : Apart z TI TO l) (hf : f0 = .none ∨ ∃ a : Nat, f0 = rawInt a)
    (S : St z TI TO f0 (.bool b1) l [] l k ys h0 s.heap 0) :
    wpAny (model prog w) A (Builtin.SmallTypes.ownedTupleIsFree (.ref z)) (fun _ s' => ∃ h' b2, s' = { s with heap := h' } ∧ St z TI TO f0 (.bool b2) l [] l k ys h0 h' 0) E s := by
  unfold Builtin.SmallTypes.ownedTupleIsFree
  rcases hf with rfl | ⟨a, rfl⟩
  · exact wpAny_bind (wpAny_field S.hz rfl (x := .none) rfl (wpAny_pure ⟨s.heap, b1, rfl, S⟩))
  · refine wpAny_bind (wpAny_field S.hz rfl (x := rawInt a) rfl ?_)
    show wpAny _ _ (loadIfAlive _ >>= _) _ _ _
    refine wpAny_bind (wpAny_loadIfAlive ?_)
    cases h : (s.heap.get? (Int.toNat a)) with
    | none => exact wpAny_pure ⟨s.heap, b1, rfl, S⟩
    | some o =>
      show wpAny _ _ (field (.ref z) 1 >>= _) _ _ _
      refine wpAny_bind (wpAny_field S.hz rfl (x := .bool b1) rfl ?_)
      cases b1 with
      | true => exact wpAny_pure ⟨s.heap, true, rfl, S⟩
      | false =>
        show wpAny _ _ (setField (.ref z) 1 (.bool true) >>= _) _ _ _
        exact wpAny_bind (wpAny_setField_rec S.hz (by simp) fun h' hz' hs' => wpAny_pure ⟨h', true, rfl, S.set D rfl hz' hs'⟩)
theorem St.push {z TI TO : Addr} {f0 f1 : Value} {l dn td : List (Addr × Addr)} {k : Nat} {ys : List Value} {h0 h : Heap} (o : Obj) (S : St z TI TO f0 f1 l dn td k ys h0 h 0) : St z TI TO f0 f1 l dn td k ys h0 (h.push o) 1 :=
  ⟨Heap.get?_push_of_some _ S.hz, Heap.get?_push_of_some _ S.hTI, Heap.get?_push_of_some _ S.hTO, S.ly, fun q hq => (S.hd q hq).at fun o e => Heap.get?_push_of_some _ e, fun q hq => (S.ht q hq).at fun o e => Heap.get?_push_of_some _ e,
    by rw [Heap.size_push, S.sz], fun c o c1 c2 c3 hc => Heap.get?_push_of_some _ (S.kp c o c1 c2 c3 hc)⟩
theorem set_take {α : Type} {xs ys : List α} {n : Nat} {x : α} (hx : xs[n]? = some x) (hy : n < ys.length) : (xs.take n ++ ys.drop n).set n x = xs.take (n + 1) ++ ys.drop (n + 1) := by
  have hn : n < xs.length := (List.getElem?_eq_some_iff.mp hx).1
  have l1 : (xs.take n).length = n := by rw [List.length_take]; omega
  rw [List.take_add_one, hx, List.drop_eq_getElem_cons hy]
  have : ∀ (as bs : List α) (b : α), as.length = n → (as ++ b :: bs).set n x = as ++ [x] ++ bs := by
    intro as bs b h
    rw [← h, List.set_append_right _ _ (Nat.le_refl _), Nat.sub_self, List.set_cons_zero, List.append_assoc]
    rfl
  exact this _ _ _ l1
theorem zipN_item {z TI TO : Addr} {f0 : Value} {b1 : Bool} {l : List (Addr × Addr)} {k : Nat} {ys xs : List Value} {Q : Value → Shared → Prop} (D : Apart z TI TO l) (l4 : l.length ≤ 4) (ne : l ≠ []) (hf : f0 = .none ∨ ∃ a : Nat, f0 = rawInt a)
    (S : St z TI TO f0 (.bool b1) l [] l k ys s.heap s.heap 0) (R : Rows s.heap k l xs)
    (hQ : ∀ h' f0' b2 zs, (f0' = .none ∨ ∃ a : Nat, f0' = rawInt a) → St z TI TO f0' (.bool b2) l l [] k zs s.heap h' 1 → IsTupV h' s.heap.objs.size xs → Q (.ref s.heap.objs.size) { s with heap := h' }) :
    wpAny (model prog w) A (Builtin.«zip.__next__» ⟨[.ref z], []⟩) (fun fin s' => ∃ v, fin = .done (.ret v) ∧ Q v s') E s := by
  show wpAny _ _ (field (.ref z) 2 >>= _) _ _ _
  refine wpAny_bind (wpAny_field S.hz rfl (x := .bool false) rfl ?_)
  show wpAny _ _ (field (.ref z) 3 >>= _) _ _ _
  refine wpAny_bind (wpAny_field S.hz rfl (x := .ref TI) rfl ?_)
  refine wpAny_bind (wpAny_seqItems S.hTI rfl ?_)
  have hne : (refs l).toArray.isEmpty = false := by
    cases l with
    | nil => exact absurd rfl ne
    | cons p l => rfl
  dsimp only
  rw [if_neg (by rw [hne]; exact Bool.false_ne_true)]
  refine wpAny_bind (wpAny_mono (free_any D hf S) (fun b s' hb => ?_) fun _ _ x => x)
  obtain ⟨h1, b2, rfl, S1⟩ := hb
  cases b with
  | true =>
    rw [if_pos rfl]
    refine wpAny_bind (wpAny_rule ?_)
    refine wpAny_bind (wpAny_field S1.hz rfl (x := .ref TO) rfl ?_)
    dsimp only
    refine wpAny_bind (wpAny_setField_rec S1.hz (by simp) fun h2 hz2 hs2 => ?_)
    have S2 : St z TI TO .ellipsis (.bool b2) l [] l k ys s.heap h2 0 := S1.set D rfl hz2 hs2
    refine wpAny_bind (wpAny_forIn_list _ (fun rest b s' => b = (none, ()) ∧ ∃ h' dn td, s' = { s with heap := h' } ∧ l = dn ++ td ∧ rest = (refs td).zipIdx dn.length ∧ St z TI TO .ellipsis (.bool b2) l dn td k (xs.take dn.length ++ ys.drop dn.length) s.heap h' 0) _ ?turn ?fin _ _ ⟨rfl, h2, [], l, rfl, rfl, rfl, S2⟩)
    case turn =>
      rintro x rest b s' ⟨rfl, h', dn, td, rfl, el, er, S'⟩
      cases td with
      | nil => cases er
      | cons p td =>
        obtain ⟨rfl, rfl⟩ : x = (.ref p.1, dn.length) ∧ rest = (refs td).zipIdx (dn.length + 1) := by
          simp only [refs, List.map_cons, List.zipIdx_cons] at er
          exact List.cons.inj er
        obtain ⟨x, items, hx, ht, hi⟩ := R.2 dn.length p (by rw [el]; simp)
        have hn : dn.length < ys.length := by rw [S.ly, el, List.length_append, List.length_cons]; omega
        have ed : dn ++ p :: td = (dn ++ [p]) ++ td := by simp
        refine wpAny_bind (wpAny_onRaise ?_)
        show wpAny _ _ (Builtin.SmallTypes.nextOf (.ref p.1) >>= _) _ _ _
        refine wpAny_bind (St.draw D el S' ht hi fun h3 S3 => wpAny_pure ?_)
        dsimp only
        refine wpAny_bind (wpAny_seqItems S3.hTO rfl ?_)
        dsimp only
        refine wpAny_bind (wpAny_updateSeq_tup S3.hTO (by rw [S3.ly]; exact l4) fun h4 hT4 hs4 => ?_)
        rw [set_take hx hn] at hT4
        refine wpAny_bind (wpAny_letGo (wpAny_pure ?_))
        have l5 := (List.getElem?_eq_some_iff.mp hx).1
        refine ⟨rfl, h4, dn ++ [p], td, rfl, by rw [el, ed], by rw [List.length_append]; rfl, ?_⟩
        have e1 : (dn ++ [p]).length = dn.length + 1 := by simp
        rw [e1]
        exact S3.tup D (by rw [el, ed]) hT4 (by simp only [List.length_append, List.length_take, List.length_drop]; omega) hs4
    case fin =>
      rintro b s' ⟨rfl, h', dn, td, rfl, el, er, S'⟩
      have e0 : td = [] := by
        cases td with
        | nil => rfl
        | cons p td => cases er
      subst e0
      rw [List.append_nil] at el
      subst el
      have ex : xs.take l.length ++ ys.drop l.length = xs := by
        rw [R.1, List.take_length, ← R.1, ← S.ly, List.drop_length, List.append_nil]
      rw [ex] at S'
      show wpAny _ _ (seqItems? (.ref TO) >>= _) _ _ _
      refine wpAny_bind (wpAny_seqItems S'.hTO rfl ?_)
      dsimp only
      refine wpAny_bind (wpAny_newTuple ?_ (Nat.le_trans (Nat.le_of_eq R.1.symm) (Nat.le_trans l4 (by decide))))
      have S5 := S'.push { cls := .type "tuple", data := .seq xs.toArray }
      have hzl : z < h'.objs.size := Heap.lt_size S'.hz
      show wpAny _ _ (Builtin.SmallTypes.ownedTupleHandOut (.ref z) (.ref h'.objs.size) >>= _) _ _ _
      refine wpAny_bind ?_
      unfold Builtin.SmallTypes.ownedTupleHandOut
      refine wpAny_bind (wpAny_setField_rec S5.hz (by simp) fun h6 hz6 hs6 => ?_)
      have S6 := S5.set D (by simp) hz6 hs6
      refine wpAny_setField_rec S6.hz (by simp) fun h7 hz7 hs7 => ?_
      have S7 := S6.set D (by simp) hz7 hs7
      refine wpAny_pure ⟨_, rfl, ?_⟩
      have esz : h'.objs.size = s.heap.objs.size := by rw [S'.sz]; rfl
      rw [esz]
      refine hQ h7 _ false xs (.inr ⟨_, rfl⟩) S7 ?_
      have nz : s.heap.objs.size ≠ z := by rw [← esz]; exact Nat.ne_of_gt hzl
      refine hs7.extBut _ _ nz (hs6.extBut _ _ nz ?_)
      rw [← esz]
      exact Heap.get?_push_size _ rfl
  | false =>
    rw [if_neg Bool.false_ne_true]
    refine wpAny_bind (PySem.MeetsSeq2.wpAny_forIn_array _ (fun rest b s' => ∃ h' dn td, b = (none, (xs.take dn.length).toArray) ∧ s' = { s with heap := h' } ∧ l = dn ++ td ∧ rest = refs td ∧ St z TI TO f0 (.bool b2) l dn td k ys s.heap h' 0) _ ?turn2 ?fin2 _ _ ⟨h1, [], l, rfl, rfl, rfl, rfl, S1⟩)
    case turn2 =>
      rintro x rest b s' ⟨h', dn, td, rfl, rfl, el, er, S'⟩
      cases td with
      | nil => cases er
      | cons p td =>
        obtain ⟨rfl, rfl⟩ : x = .ref p.1 ∧ rest = refs td := by
          simp only [refs, List.map_cons] at er
          exact List.cons.inj er
        obtain ⟨x, items, hx, ht, hi⟩ := R.2 dn.length p (by rw [el]; simp)
        have ed : dn ++ p :: td = (dn ++ [p]) ++ td := by simp
        refine wpAny_bind (wpAny_holding ?_)
        show wpAny _ _ (Builtin.SmallTypes.nextOf (.ref p.1) >>= _) _ _ _
        refine wpAny_bind (St.draw D el S' ht hi fun h3 S3 => wpAny_pure ?_)
        refine wpAny_pure ⟨h3, dn ++ [p], td, ?_, rfl, by rw [el, ed], rfl, S3⟩
        have e1 : (dn ++ [p]).length = dn.length + 1 := by simp
        rw [e1, List.take_add_one, hx]
        simp
    case fin2 =>
      rintro b s' ⟨h', dn, td, rfl, rfl, el, er, S'⟩
      have e0 : td = [] := by
        cases td with
        | nil => rfl
        | cons p td => cases er
      subst e0
      rw [List.append_nil] at el
      subst el
      have ex : xs.take l.length = xs := by rw [R.1, List.take_length]
      rw [ex]
      show wpAny _ _ (newTuple xs >>= _) _ _ _
      refine wpAny_bind (wpAny_newTuple ?_ (Nat.le_trans (Nat.le_of_eq R.1.symm) (Nat.le_trans l4 (by decide))))
      have S5 := S'.push { cls := .type "tuple", data := .seq xs.toArray }
      have esz : h'.objs.size = s.heap.objs.size := by rw [S'.sz]; rfl
      refine wpAny_pure ⟨_, rfl, ?_⟩
      show Q (.ref h'.objs.size) _
      rw [esz]
      refine hQ _ _ b2 ys hf S5 ?_
      rw [← esz]
      exact Heap.get?_push_size _ rfl
theorem zipN_end {z TI TO : Addr} {f0 : Value} {b1 : Bool} {p : Addr × Addr} {l : List (Addr × Addr)} {k : Nat} {ys : List Value} {items : Array Value} {Q : PySem.Fin → Shared → Prop} (hh : A.handled = none) (D : Apart z TI TO (p :: l)) (hf : f0 = .none ∨ ∃ a : Nat, f0 = rawInt a)
    (S : St z TI TO f0 (.bool b1) (p :: l) [] (p :: l) k ys s.heap s.heap 0) (ht : s.heap.IsTuple p.2 items) (hx : items[k]? = none)
    (hE : ∀ h' e, (∀ c o, c ≠ z → c ≠ TO → (∀ q ∈ p :: l, c ≠ q.1) → s.heap.get? c = some o → h'.get? c = some o) → (∃ o, h'.get? e = some o ∧ o.cls = .type "StopIteration") → E (.ref e) { s with heap := h' }) :
    wpAny (model prog w) A (Builtin.«zip.__next__» ⟨[.ref z], []⟩) Q E s := by
  show wpAny _ _ (field (.ref z) 2 >>= _) _ _ _
  refine wpAny_bind (wpAny_field S.hz rfl (x := .bool false) rfl ?_)
  show wpAny _ _ (field (.ref z) 3 >>= _) _ _ _
  refine wpAny_bind (wpAny_field S.hz rfl (x := .ref TI) rfl ?_)
  refine wpAny_bind (wpAny_seqItems S.hTI rfl ?_)
  have hne : (refs (p :: l)).toArray.isEmpty = false := rfl
  dsimp only
  rw [if_neg (by rw [hne]; exact Bool.false_ne_true)]
  refine wpAny_bind (wpAny_mono (free_any D hf S) (fun b s' hb => ?_) fun _ _ x => x)
  obtain ⟨h1, b2, rfl, S1⟩ := hb
  have mp : p ∈ p :: l := List.mem_cons_self ..
  obtain ⟨o, ho, r⟩ := ht
  have tup : ∀ {f0 f1 h' d}, St z TI TO f0 f1 (p :: l) [] (p :: l) k ys s.heap h' d → h'.IsTuple p.2 items := fun S' => ⟨o, S'.kp _ _ (D.tz p mp) (D.tTO p mp) (fun q hq => D.ti p mp q hq) ho, r⟩
  cases b with
  | true =>
    rw [if_pos rfl]
    refine wpAny_bind (wpAny_rule ?_)
    refine wpAny_bind (wpAny_field S1.hz rfl (x := .ref TO) rfl ?_)
    dsimp only
    refine wpAny_bind (wpAny_setField_rec S1.hz (by simp) fun h2 hz2 hs2 => ?_)
    have S2 : St z TI TO .ellipsis (.bool b2) (p :: l) [] (p :: l) k ys s.heap h2 0 := S1.set D rfl hz2 hs2
    refine wpAny_bind (wpAny_forIn_list _ (fun rest b s' => s' = { s with heap := h2 } ∧ rest = (refs (p :: l)).zipIdx 0) _ ?turn ?fin _ _ ⟨rfl, rfl⟩)
    case fin =>
      rintro b s' ⟨rfl, er⟩
      cases er
    case turn =>
      rintro x rest b s' ⟨rfl, er⟩
      obtain ⟨rfl, rfl⟩ : x = (.ref p.1, 0) ∧ rest = (refs l).zipIdx 1 := by
        simp only [refs, List.map_cons, List.zipIdx_cons] at er
        exact List.cons.inj er
      refine wpAny_bind (wpAny_onRaise ?_)
      show wpAny _ _ (Builtin.SmallTypes.nextOf (.ref p.1) >>= _) _ _ _
      refine wpAny_bind (RZ.nextOf_tuple_end hh (S2.ht p mp) (tup S2) hx fun h3 e hs3 he => ?_)
      obtain ⟨oe, hoe, hce⟩ := he
      have hz3 := hs3 _ _ (D.iz p mp).symm S2.hz
      have hez : e ≠ z := fun x => by subst x; rw [hz3] at hoe; cases hoe; simp at hce
      refine wpAny_setField_rec hz3 (by simp) fun h4 _ hs4 => hE h4 e (fun c o c1 c2 c3 x => hs4.extBut _ _ c1 (hs3 _ _ (c3 p mp) (S2.kp c o c1 c2 c3 x))) ⟨oe, hs4.extBut _ _ hez hoe, hce⟩
  | false =>
    rw [if_neg Bool.false_ne_true]
    refine wpAny_bind (PySem.MeetsSeq2.wpAny_forIn_array _ (fun rest b s' => s' = { s with heap := h1 } ∧ rest = refs (p :: l)) _ ?turn2 ?fin2 _ _ ⟨rfl, rfl⟩)
    case fin2 =>
      rintro b s' ⟨rfl, er⟩
      cases er
    case turn2 =>
      rintro x rest b s' ⟨rfl, er⟩
      obtain ⟨rfl, rfl⟩ : x = .ref p.1 ∧ rest = refs l := by
        simp only [refs, List.map_cons] at er
        exact List.cons.inj er
      refine wpAny_bind (wpAny_holding ?_)
      show wpAny _ _ (Builtin.SmallTypes.nextOf (.ref p.1) >>= _) _ _ _
      exact wpAny_bind (RZ.nextOf_tuple_end hh (S1.ht p mp) (tup S1) hx fun h3 e hs3 he => hE h3 e (fun c o c1 c2 c3 x => hs3 _ _ (c3 p mp) (S1.kp c o c1 c2 c3 x)) he)
theorem pyNext_zipN_item {z TI TO : Addr} {f0 : Value} {b1 : Bool} {l : List (Addr × Addr)} {k : Nat} {ys xs : List Value} {Q : Option Value → Shared → Prop} (D : Apart z TI TO l) (l4 : l.length ≤ 4) (ne : l ≠ []) (hf : f0 = .none ∨ ∃ a : Nat, f0 = rawInt a)
    (S : St z TI TO f0 (.bool b1) l [] l k ys s.heap s.heap 0) (R : Rows s.heap k l xs)
    (hQ : ∀ h' f0' b2 zs, (f0' = .none ∨ ∃ a : Nat, f0' = rawInt a) → St z TI TO f0' (.bool b2) l l [] k zs s.heap h' 1 → IsTupV h' s.heap.objs.size xs → Q (some (.ref s.heap.objs.size)) { s with heap := h' }) :
    wpAny (model prog w) A (pyNext (.ref z)) Q E s := by
  have hT : s.TypeIs (.ref z) "zip" := ⟨_, S.hz, rfl⟩
  unfold pyNext
  exact wpAny_bind (wpAny_attempt (wpAny_callSpecial?_slot (name := Str.ofString "__next__") hT F.slot_zip_next
    (wpAny_call_entry F.slot_zip_next hT F.entry_zip_next
      (zipN_item D l4 ne hf S R fun h' a1 a2 a3 a4 a5 a6 => wpAny_pure (hQ h' a1 a2 a3 a4 a5 a6)) (F.args_zip_next_1 _))))
theorem pyNext_zipN_end {z TI TO : Addr} {f0 : Value} {b1 : Bool} {p : Addr × Addr} {l : List (Addr × Addr)} {k : Nat} {ys : List Value} {items : Array Value} {Q : Option Value → Shared → Prop} (hh : A.handled = none) (D : Apart z TI TO (p :: l)) (hf : f0 = .none ∨ ∃ a : Nat, f0 = rawInt a)
    (S : St z TI TO f0 (.bool b1) (p :: l) [] (p :: l) k ys s.heap s.heap 0) (ht : s.heap.IsTuple p.2 items) (hx : items[k]? = none)
    (hQ : ∀ h', (∀ c o, c ≠ z → c ≠ TO → (∀ q ∈ p :: l, c ≠ q.1) → s.heap.get? c = some o → h'.get? c = some o) → Q none { s with heap := h' }) : wpAny (model prog w) A (pyNext (.ref z)) Q E s := by
  have hT : s.TypeIs (.ref z) "zip" := ⟨_, S.hz, rfl⟩
  unfold pyNext
  refine wpAny_bind (wpAny_attempt (wpAny_callSpecial?_slot (name := Str.ofString "__next__") hT F.slot_zip_next
    (wpAny_call_entry F.slot_zip_next hT F.entry_zip_next (zipN_end hh D hf S ht hx fun h' e hk he => ?_) (F.args_zip_next_1 _))))
  obtain ⟨o, ho, hc⟩ := he
  refine wpAny_bind (wpAny_isInstance (T := "StopIteration") (b := true) ⟨o, ho, hc⟩ isSubtype_stop ?_)
  exact wpAny_pure (hQ _ hk)
theorem wpAny_pyIter_zipN {z TI TO : Addr} {f0 f1 : Value} {Q : Value → Shared → Prop} (hz : IsZipF s.heap z TI TO f0 f1) (h : Q (.ref z) s) : wpAny (model prog w) A (pyIter (.ref z)) Q E s := by
  have hT : s.TypeIs (.ref z) "zip" := ⟨_, hz, rfl⟩
  refine wpAny_pyIter_slot hT F.slot_zip_iter (wpAny_call_entry F.slot_zip_iter hT F.entry_zip_iter ?_ (F.args_zip_iter_1 _))
  show wpAny _ _ (ret (.ref z)) _ _ s
  exact wpAny_pure ⟨_, rfl, "zip", _, hT, F.slot_zip_next.lookup, h⟩
end
/-! ### the call -/
def mk : Nat → List Addr → List (Addr × Addr)
  | _, [] => []
  | n, a :: as => (n, a) :: mk (n + 1) as
theorem mk_append (b : Addr) : ∀ (n : Nat) (as : List Addr), mk n (as ++ [b]) = mk n as ++ [(n + as.length, b)]
  | n, [] => rfl
  | n, a :: as => by
    show (n, a) :: mk (n + 1) (as ++ [b]) = (n, a) :: (mk (n + 1) as ++ [_])
    rw [mk_append b (n + 1) as, List.length_cons]
    have : n + 1 + as.length = n + (as.length + 1) := by omega
    rw [this]
theorem mk_length : ∀ (n : Nat) (as : List Addr), (mk n as).length = as.length
  | _, [] => rfl
  | n, a :: as => congrArg Nat.succ (mk_length (n + 1) as)
theorem mk_mem : ∀ {n : Nat} {as : List Addr} {p : Addr × Addr}, p ∈ mk n as → n ≤ p.1 ∧ p.1 < n + as.length ∧ p.2 ∈ as
  | _, [], _, h => by cases h
  | n, a :: as, p, h => by
    rcases List.mem_cons.mp h with rfl | h
    · exact ⟨Nat.le_refl _, by rw [List.length_cons]; exact Nat.lt_add_of_pos_right (Nat.succ_pos _), List.mem_cons_self ..⟩
    · obtain ⟨h1, h2, h3⟩ := mk_mem h
      refine ⟨Nat.le_of_succ_le h1, ?_, List.mem_cons_of_mem _ h3⟩
      rw [List.length_cons]
      exact Nat.lt_of_lt_of_eq h2 (by omega)
theorem mk_nodup : ∀ (n : Nat) (as : List Addr), ((mk n as).map (·.1)).Nodup
  | _, [] => List.nodup_nil
  | n, a :: as => by
    refine List.nodup_cons.mpr ⟨fun h => ?_, mk_nodup (n + 1) as⟩
    obtain ⟨p, hp, e⟩ := List.mem_map.mp h
    have := (mk_mem hp).1
    rw [e] at this
    exact absurd this (Nat.not_succ_le_self _)
theorem mk_apart {n : Nat} {as : List Addr} (h : ∀ a ∈ as, a < n) : Apart (n + as.length + 2) (n + as.length) (n + as.length + 1) (mk n as) := by
  have m : ∀ p ∈ mk n as, n ≤ p.1 ∧ p.1 < n + as.length ∧ p.2 < n := fun p hp => ⟨(mk_mem hp).1, (mk_mem hp).2.1, h _ (mk_mem hp).2.2⟩
  refine ⟨by show ¬ (n + as.length = n + as.length + 2); omega, by show ¬ (n + as.length + 1 = n + as.length + 2); omega, by show ¬ (n + as.length = n + as.length + 1); omega, fun p hp => ?_, fun p hp => ?_, fun p hp => ?_, fun p hp => ?_, fun p hp => ?_, fun p hp q hq => ?_, mk_nodup n as⟩
  · exact Nat.ne_of_lt (Nat.lt_of_lt_of_le (m p hp).2.1 (by omega))
  · exact Nat.ne_of_lt (m p hp).2.1
  · exact Nat.ne_of_lt (Nat.lt_of_lt_of_le (m p hp).2.1 (by omega))
  · exact Nat.ne_of_lt (Nat.lt_of_lt_of_le (m p hp).2.2 (by omega))
  · exact Nat.ne_of_lt (Nat.lt_of_lt_of_le (m p hp).2.2 (by omega))
  · exact Nat.ne_of_lt (Nat.lt_of_lt_of_le (m p hp).2.2 (m q hq).1)
theorem newClass_zip (vs : List Value) : Builtin.SmallTypes.newClass "zip" ⟨.type "zip" :: vs, []⟩ = pure (.type "zip", vs) := by
  have hs := sub_zip
  unfold Builtin.SmallTypes.newClass
  dsimp only
  simp only [show isType (Value.type "zip") = (pure true) from rfl, hs]
  rfl
/-- what stands after a call of zip -/
structure Made (n : Nat) (as : List Addr) (h0 h : Heap) : Prop where
  st : St (n + as.length + 2) (n + as.length) (n + as.length + 1) .none (.bool false) (mk n as) [] (mk n as) 0 ((mk n as).map fun _ => Value.none) h h 0
  kp : ∀ c o, h0.get? c = some o → h.get? c = some o
  sz : h.objs.size = n + as.length + 3
theorem meets_zipN_new (as : List Addr) (l4 : as.length ≤ 4) :
    Meets (Builtin.«zip.__new__» ⟨.type "zip" :: as.map .ref, []⟩) (fun _ R s => (∀ a ∈ as, ∃ items, s.heap.IsTuple a items) ∧ ∀ h', Made s.heap.objs.size as s.heap h' →
      R (.ok (.ret (.ref (s.heap.objs.size + as.length + 2)))) { s with heap := h' }) :=
  .of_wp fun prog w A R s h => by
    obtain ⟨ht, h⟩ := h
    have l5 : ∀ n ≤ 4, n ≤ sizeLine := fun n hn => Nat.le_trans hn (by decide)
    show wpAny _ _ (Builtin.SmallTypes.newClass "zip" _ >>= _) _ _ _
    rw [newClass_zip]
    refine wpAny_bind (wpAny_pure ?_)
    dsimp only
    rw [if_neg (by decide)]
    show wpAny _ _ (Builtin.SmallTypes.iterAll _ >>= _) _ _ _
    refine wpAny_bind ?_
    unfold Builtin.SmallTypes.iterAll
    refine wpAny_bind (wpAny_forIn_list _ (fun rest b s' => ∃ h' dn td, as = dn ++ td ∧ rest = td.map .ref ∧ b = (refs (mk s.heap.objs.size dn)).toArray ∧ s' = { s with heap := h' } ∧ h'.objs.size = s.heap.objs.size + dn.length ∧
      (∀ c o, s.heap.get? c = some o → h'.get? c = some o) ∧ ∀ p ∈ mk s.heap.objs.size dn, h'.IsTupleIter p.1 p.2 0) _ ?turn ?fin _ _ ⟨s.heap, [], as, rfl, rfl, rfl, rfl, rfl, fun _ _ e => e, fun _ h => nomatch h⟩)
    case turn =>
      rintro x rest b s' ⟨h', dn, td, el, er, rfl, rfl, hz, kp, it⟩
      cases td with
      | nil => cases er
      | cons a td =>
        obtain ⟨rfl, rfl⟩ : x = .ref a ∧ rest = td.map .ref := List.cons.inj er
        obtain ⟨items, o, ho, r⟩ := ht a (by rw [el]; simp)
        refine wpAny_bind (wpAny_holding (wpAny_pyIter_tuple ⟨o, kp _ _ ho, r⟩ (wpAny_pure ?_)))
        refine ⟨_, dn ++ [a], td, by rw [el]; simp, rfl, ?_, rfl, ?_, fun c o e => Heap.get?_push_of_some _ (kp c o e), fun p hp => ?_⟩
        · rw [mk_append]
          show Array.push _ (Value.ref h'.objs.size) = _
          rw [hz]
          simp [refs]
        · rw [Heap.size_push, hz, List.length_append]
          rfl
        · rw [mk_append] at hp
          rcases List.mem_append.mp hp with hp | hp
          · exact (it p hp).at fun o e => Heap.get?_push_of_some _ e
          · have : p = (s.heap.objs.size + dn.length, a) := by simpa using hp
            subst this
            rw [← hz]
            exact ⟨_, Heap.get?_push_size _ rfl, rfl, rfl⟩
    case fin =>
      rintro b s' ⟨h', dn, td, el, er, rfl, rfl, hz, kp, it⟩
      have e0 : td = [] := by
        cases td with
        | nil => rfl
        | cons p td => cases er
      subst e0
      rw [List.append_nil] at el
      subst el
      have ll : (mk s.heap.objs.size as).length = as.length := mk_length _ _
      refine wpAny_pure ?_
      show wpAny _ _ (newTuple (refs (mk s.heap.objs.size as)) >>= _) _ _ _
      refine wpAny_bind (wpAny_newTuple ?_ (by rw [List.length_map, ll]; exact l5 _ l4))
      show wpAny _ _ (newTuple ((refs (mk s.heap.objs.size as)).map fun _ => Value.none) >>= _) _ _ _
      refine wpAny_bind (wpAny_newTuple ?_ (by rw [List.length_map, List.length_map, ll]; exact l5 _ l4))
      show wpAny _ _ (Builtin.SmallTypes.newRecord (.type "zip") _ >>= _) _ _ _
      refine wpAny_bind ?_
      unfold Builtin.SmallTypes.newRecord
      dsimp only
      refine wpAny_newObj_type (wpAny_pure ⟨_, rfl, ?_⟩) (show 5 ≤ sizeLine + 2 from Nat.le_trans (show 5 ≤ sizeLine by decide) (Nat.le_add_right _ _))
      obtain ⟨hA, eA⟩ : ∃ x, x = h'.push { cls := .type "tuple", data := .seq (refs (mk s.heap.objs.size as)).toArray } := ⟨_, rfl⟩
      obtain ⟨hB, eB⟩ : ∃ x, x = hA.push { cls := .type "tuple", data := .seq (List.map (fun _ => Value.none) (refs (mk s.heap.objs.size as))).toArray } := ⟨_, rfl⟩
      have sA : hA.objs.size = s.heap.objs.size + as.length + 1 := by rw [eA, Heap.size_push, hz]
      have sB : hB.objs.size = s.heap.objs.size + as.length + 2 := by rw [eB, Heap.size_push, sA]
      rw [← eA, ← eB, sB, sA, hz]
      have gA : hA.get? (s.heap.objs.size + as.length) = some { cls := .type "tuple", data := .seq (refs (mk s.heap.objs.size as)).toArray } := by rw [eA, ← hz]; exact Heap.get?_push_size _ rfl
      have gB : hB.get? (s.heap.objs.size + as.length + 1) = some { cls := .type "tuple", data := .seq (List.map (fun _ => Value.none) (refs (mk s.heap.objs.size as))).toArray } := by rw [eB, ← sA]; exact Heap.get?_push_size _ rfl
      refine h _ ⟨⟨?_, Heap.get?_push_of_some _ (by rw [eB]; exact Heap.get?_push_of_some _ gA), Heap.get?_push_of_some _ ?_, by rw [List.length_map], (fun _ h => nomatch h), fun p hp => ?_, rfl, fun _ _ _ _ _ e => e⟩, fun c o e => ?_, ?_⟩
      · show Heap.get? _ _ = _
        rw [← sB]
        exact Heap.get?_push_size _ rfl
      · refine gB.trans ?_
        rw [List.map_map]
        rfl
      · refine (it p hp).at fun o e => ?_
        refine Heap.get?_push_of_some _ ?_
        rw [eB, eA]
        exact Heap.get?_push_of_some _ (Heap.get?_push_of_some _ e)
      · refine Heap.get?_push_of_some _ ?_
        rw [eB, eA]
        exact Heap.get?_push_of_some _ (Heap.get?_push_of_some _ (kp c o e))
      · rw [Heap.size_push, sB]
section
variable {prog : Program} {w : World} {A : Around} {E : Value → Shared → Prop} {s : Shared}
theorem typeCall_zipN : ∀ vs : List Value, vs ≠ [] → vs.length ≤ 4 → checkTypeCall "zip" ⟨vs, []⟩ = pure ()
  | [], h, _ => absurd rfl h
  | [_], _, _ => by kernel_rfl
  | [_, _], _, _ => by kernel_rfl
  | [_, _, _], _, _ => by kernel_rfl
  | [_, _, _, _], _, _ => by kernel_rfl
  | _ :: _ :: _ :: _ :: _ :: _, _, h => absurd h (by simp)
theorem newCall_zipN : ∀ vs : List Value, vs ≠ [] → vs.length ≤ 4 → checkBuiltinCall "zip.__new__" ⟨.type "zip" :: vs, []⟩ = pure ()
  | [], h, _ => absurd rfl h
  | [_], _, _ => by kernel_rfl
  | [_, _], _, _ => by kernel_rfl
  | [_, _, _], _, _ => by kernel_rfl
  | [_, _, _, _], _, _ => by kernel_rfl
  | _ :: _ :: _ :: _ :: _ :: _, _, h => absurd h (by simp)
theorem args_initN (obj : Value) : ∀ vs : List Value, vs ≠ [] → vs.length ≤ 4 → argsOk "object.__init__" ⟨obj :: vs, []⟩
  | [], h, _ => absurd rfl h
  | [_], _, _ => by unfold argsOk; rw [signature?_of (id := "object.__init__") (n := ['_', '_', 't', 'i', 'n', 'i', '_', '_']) (o := ['t', 'c', 'e', 'j', 'b', 'o']) (by kernel_rfl) F.owner_object]; kernel_rfl
  | [_, _], _, _ => by unfold argsOk; rw [signature?_of (id := "object.__init__") (n := ['_', '_', 't', 'i', 'n', 'i', '_', '_']) (o := ['t', 'c', 'e', 'j', 'b', 'o']) (by kernel_rfl) F.owner_object]; kernel_rfl
  | [_, _, _], _, _ => by unfold argsOk; rw [signature?_of (id := "object.__init__") (n := ['_', '_', 't', 'i', 'n', 'i', '_', '_']) (o := ['t', 'c', 'e', 'j', 'b', 'o']) (by kernel_rfl) F.owner_object]; kernel_rfl
  | [_, _, _, _], _, _ => by unfold argsOk; rw [signature?_of (id := "object.__init__") (n := ['_', '_', 't', 'i', 'n', 'i', '_', '_']) (o := ['t', 'c', 'e', 'j', 'b', 'o']) (by kernel_rfl) F.owner_object]; kernel_rfl
  | _ :: _ :: _ :: _ :: _ :: _, _, h => absurd h (by simp)
theorem call_zipN {as : List Addr} {Q : Value → Shared → Prop} (ne : as ≠ []) (l4 : as.length ≤ 4) (ht : ∀ a ∈ as, ∃ items, s.heap.IsTuple a items)
    (h : ∀ h', Made s.heap.objs.size as s.heap h' → Q (.ref (s.heap.objs.size + as.length + 2)) { s with heap := h' }) :
    wpAny (model prog w) A (call (.type "zip") (as.map .ref)) Q E s := by
  have ne' : as.map Value.ref ≠ [] := fun e => ne (List.map_eq_nil_iff.mp e)
  have l4' : (as.map Value.ref).length ≤ 4 := by rw [List.length_map]; exact l4
  refine callType_new F.called_zip (by decide) (typeCall_zipN _ ne' l4') (newCall_zipN _ ne' l4') (fun obj => args_initN obj _ ne' l4') F.entry_zip_new (meets_zipN_new as l4) ⟨ht, fun h' M => ?_⟩
  exact ⟨⟨_, M.st.hz, rfl⟩, h h' M⟩
end
end ZN
/-! x in zip(*rows), the results under one name, at the hand layer -/
namespace ZS
open PySem PySem.Spec PyProof.Rows L2 ZN
/-- the column at i of the tuples at these addresses -/
def ColAt (K : PySem.W.Frag) (H : Hp) (i : Nat) : List Addr → List V → Prop
  | [], [] => True
  | a :: as, x :: col => (∃ xs, SqT K H a xs ∧ xs[i]? = some x) ∧ ColAt K H i as col
  | _, _ => False
def ItN (K : PySem.W.Frag) (as : List Addr) : It :=
  ⟨fun i H => ∃ col, ColAt K H i as col, fun i H v H' => ∃ T col, v = .ref T ∧ H T = none ∧ H' = upd H T (.tup col) ∧ ∀ c, ColAt K H i as c → c = col,
    fun i H => ∃ a rest xs, as = a :: rest ∧ SqT K H a xs ∧ xs.length ≤ i⟩
/-- a column of tuples is one of their items -/
theorem col_inj {X : Cx} {pins : List (Addr × Obj)} {σ : L2.St} {H : Hp} {s : Shared} (I : Inv X pins σ H s) {j : Nat} : ∀ {as : List Addr} {c d : List V}, ColAt X.K H j as c → ColAt X.K H j as d → c = d
  | [], [], [], _, _ => rfl
  | a :: as, x :: c, y :: d, h1, h2 => by
    obtain ⟨⟨xs, hx, ex⟩, h1⟩ := h1
    obtain ⟨⟨ys, hy, ey⟩, h2⟩ := h2
    have e := I.tuple_inj hx hy
    subst e
    rw [ex] at ey
    cases ey
    rw [col_inj I h1 h2]
  | [], _ :: _, _, h, _ => h.elim
  | [], [], _ :: _, _, h => h.elim
  | _ :: _, [], _, h, _ => h.elim
  | _ :: _, _ :: _, [], _, h => h.elim
theorem Rows.nil {h : Heap} {k : Nat} : Rows h k [] [] := ⟨rfl, fun n p e => by simp at e⟩
theorem Rows.cons {h : Heap} {k : Nat} {p : Addr × Addr} {x : Value} {l : List (Addr × Addr)} {xs : List Value} (h1 : ∃ items, h.IsTuple p.2 items ∧ items[k]? = some x) (r : Rows h k l xs) : Rows h k (p :: l) (x :: xs) := by
  refine ⟨congrArg Nat.succ r.1, fun n q e => ?_⟩
  cases n with
  | zero =>
    simp at e
    subst e
    obtain ⟨items, h2, h3⟩ := h1
    exact ⟨x, items, by simp, h2, h3⟩
  | succ n =>
    obtain ⟨y, items, h2, h3, h4⟩ := r.2 n q (by simpa using e)
    exact ⟨y, items, by simpa using h2, h3, h4⟩
theorem rows_of {X : Cx} {pins : List (Addr × Obj)} {σ : L2.St} {H : Hp} {s : Shared} (I : Inv X pins σ H s) {i : Nat} : ∀ {n : Nat} {as : List Addr} {col : List V}, ColAt X.K H i as col → ∃ us, Rows s.heap i (mk n as) us ∧ Vals col us
  | _, [], [], _ => ⟨[], Rows.nil, .nil⟩
  | n, a :: as, x :: col, h => by
    obtain ⟨⟨xs, hq, hx⟩, h2⟩ := h
    obtain ⟨us, r, v⟩ := rows_of (n := n + 1) I h2
    obtain ⟨its, rv, p, _⟩ := I.tuple hq
    obtain ⟨u, hu, ru⟩ := rv.get hx
    exact ⟨u :: us, Rows.cons ⟨its.toArray, p, by simpa using hu⟩ r, .cons ru v⟩
  | _, [], _ :: _, h => h.elim
  | _, _ :: _, [], h => h.elim
abbrev fpN (n : Nat) (as : List Addr) : List Addr := (n + as.length + 2) :: (n + as.length) :: (n + as.length + 1) :: (mk n as).map (·.1)
def tnN (n : Nat) (as : List Addr) (i : Nat) (h : Heap) : Prop := ∃ (f0 : Value) (b : Bool) (ys : List Value), (f0 = .none ∨ ∃ a : Nat, f0 = rawInt a) ∧ St (n + as.length + 2) (n + as.length) (n + as.length + 1) f0 (.bool b) (mk n as) [] (mk n as) i ys h h 0
theorem turnN {P : Program} {w : World} {K : PySem.W.Frag} {x : Str} {tpos : Pos} {n : Nat} {as : List Addr} (ne : as ≠ []) (l4 : as.length ≤ 4) (lt : ∀ a ∈ as, a < n) :
    Turn P w K (.Name x tpos) (ItN K as) (fpN n as) (n + as.length + 2) (tnN n as) where
  mem := List.mem_cons_self ..
  obj := fun i h st c hc => by
    obtain ⟨f0, b, ys, _, S⟩ := st
    rcases List.mem_cons.mp hc with rfl | hc
    · exact ⟨_, S.hz, fun v q => nomatch q⟩
    rcases List.mem_cons.mp hc with rfl | hc
    · exact ⟨_, S.hTI, fun v q => nomatch q⟩
    rcases List.mem_cons.mp hc with rfl | hc
    · exact ⟨_, S.hTO, fun v q => nomatch q⟩
    obtain ⟨p, hp, rfl⟩ := List.mem_map.mp hc
    obtain ⟨o, e, _, d⟩ := S.ht p hp
    exact ⟨o, e, fun v q => by rw [d] at q; cases q⟩
  keep := fun i h h' st k => by
    obtain ⟨f0, b, ys, hf, S⟩ := st
    refine ⟨f0, b, ys, hf, k _ (by simp) _ S.hz, k _ (by simp) _ S.hTI, k _ (by simp) _ S.hTO, S.ly, (fun _ h => nomatch h), fun q hq => (S.ht q hq).at fun o e => k q.1 ?_ o e, rfl, fun _ _ _ _ _ e => e⟩
    exact List.mem_cons_of_mem _ (List.mem_cons_of_mem _ (List.mem_cons_of_mem _ (List.mem_map_of_mem hq)))
  item := by
    intro X hP hw hK hc i pins s σ H E I hf st hg
    subst hP hw hK
    obtain ⟨f0, b, ys, hf0, S⟩ := st
    obtain ⟨col, hcol⟩ := hg
    obtain ⟨us, R, ru⟩ := rows_of (n := n) I hcol
    have ll : (mk n as).length = as.length := mk_length n as
    have lu : us.length ≤ 4 := by rw [← R.1, ll]; exact l4
    refine pyNext_zipN_item (mk_apart lt) (by rw [ll]; exact l4) (fun e => ne (by rw [← List.length_eq_zero_iff, ← ll, e]; rfl)) hf0 S R fun h' f0' b2 zs hf' S' hT => ?_
    refine ⟨_, rfl, wpAny_pure ?_⟩
    have new : ObjOk X.prog X.w (upd H s.heap.objs.size (.tup col)) h' s.heap.objs.size (.tup col) :=
      ⟨by show col.length ≤ sizeLine; rw [ru.length]; exact Nat.le_trans lu (by decide), us, ru, ⟨_, hT, rfl, _, rfl⟩⟩
    have I1 : Inv X pins σ (upd H s.heap.objs.size (.tup col)) { s with heap := h' } :=
      I.turnedNew (t' := s.toks) (ch := fpN n as) (fun c o hb q => S'.kp c o (fun q' => hb (by simp [q'])) (fun q' => hb (by simp [q'])) (fun p hp q' => hb (q' ▸ List.mem_cons_of_mem _ (List.mem_cons_of_mem _ (List.mem_cons_of_mem _ (List.mem_map_of_mem hp))))) q) hf (Nat.le_refl _) new
    refine ⟨.ref s.heap.objs.size, _, I1, rfl, ⟨_, col, rfl, I.hok.fresh (Nat.le_refl _), rfl, fun c h => col_inj I h hcol⟩, ⟨f0', b2, zs, hf', S'.hz, S'.hTI, S'.hTO, S'.ly, (fun _ h => nomatch h), S'.hd, rfl, fun _ _ _ _ _ e => e⟩, fun c hcm => ?_⟩
    have hlt : c < s.heap.objs.size := by
      rcases List.mem_cons.mp hcm with rfl | hc
      · exact Heap.lt_size S.hz
      rcases List.mem_cons.mp hc with rfl | hc
      · exact Heap.lt_size S.hTI
      rcases List.mem_cons.mp hc with rfl | hc
      · exact Heap.lt_size S.hTO
      obtain ⟨p, hp, rfl⟩ := List.mem_map.mp hc
      obtain ⟨o, e, _, d⟩ := S.ht p hp
      exact Heap.lt_size e
    rw [upd_ne (Nat.ne_of_lt hlt)]
    exact (hf c hcm).1
  done := by
    intro X hP hw hK hc i pins s σ H E I hf st hg
    subst hP hw hK
    obtain ⟨f0, b, ys, hf0, S⟩ := st
    obtain ⟨a, rest, xs, rfl, hq, hl⟩ := hg
    obtain ⟨its, rv, p, _⟩ := I.tuple hq
    have l1 := rv.length
    refine pyNext_zipN_end (p := (n, a)) (l := mk (n + 1) rest) (I.ok.hd hc) (mk_apart lt) hf0 S p (by simp; omega) fun h' hk => ⟨rfl, ?_⟩
    exact I.turnedL (t' := s.toks) (ch := fpN n (a :: rest)) (fun c o hb q => hk c o (fun q' => hb (by rw [q']; simp)) (fun q' => hb (by rw [q']; simp))
      (fun p hp q' => hb (q' ▸ List.mem_cons_of_mem _ (List.mem_cons_of_mem _ (List.mem_cons_of_mem _ (List.mem_map_of_mem hp))))) q) hf
  self := fun A i s Q E st h => by
    obtain ⟨f0, b, ys, _, S⟩ := st
    exact wpAny_pyIter_zipN S.hz h
def iZipS (K : PySem.W.Frag) (te : TE) : TI := fun σ H R => te σ H fun x H1 => ∃ (a : Addr) (as : List Addr), x = .ref a ∧ SqT K H1 a (as.map V.ref) ∧ as ≠ [] ∧ as.length ≤ 4 ∧ (∀ b ∈ as, ∃ xs, SqT K H1 b xs) ∧ R (ItN K as) H1
theorem vals_refs : ∀ {as : List Addr} {us : List Value}, Vals (as.map V.ref) us → us = as.map Value.ref
  | [], _, .nil => rfl
  | a :: as, _, .cons h r => by
    obtain rfl := vals_refs r
    have h' : _ = Value.ref a := h
    subst h'
    rfl
theorem pi_zipS {X : Cx} {e : Expr} {te : TE} {p pos tpos sp_ : Pos} {x : Str} (hg : Gl X "zip") (hm : X.mg "zip" = none) (he : PE X e te)
    (hst : starEach [.Starred e sp_] X.env = [(true, eval e X.env)] := by rfl) :
    PI X (.Name x tpos) (.Call (.Name "zip" p) [.Starred e sp_] [] pos) (iZipS X.K te) := by
  refine ⟨fun pins s σ H R I h => ?_⟩
  refine Call_ (ld_blt I hg hm PyProof.Rows.boot_zip ?_)
  rw [hst]
  refine PySem.W.ks_call (P := fun _ => True) rfl (fun h _ => ⟨.machine, .inr (.inl rfl), PySem.W.Looks.of_pure rfl⟩) (PySem.W.ks_lone (thn (he.run pins s σ H _ I h) fun v s1 ⟨y, H1, I1, ry, a, as, ey, hq, ne, l4, hr, q⟩ => ?_))
  subst ey
  obtain rfl : v = Value.ref a := ry
  refine StX.star_any I1 (.inl hq) fun us s2 I2 rv => ⟨trivial, ?_⟩
  obtain rfl := vals_refs rv
  have ht : ∀ b ∈ as, ∃ items, s2.heap.IsTuple b items := fun b hb => by
    obtain ⟨xs, h1⟩ := hr b hb
    obtain ⟨its, _, pl, _⟩ := I2.tuple h1
    exact ⟨its.toArray, pl⟩
  have lt : ∀ b ∈ as, b < s2.heap.objs.size := fun b hb => by
    obtain ⟨items, o, ho, _⟩ := ht b hb
    exact Heap.lt_size ho
  refine call_zipN ne l4 ht fun h' M => wpAny_pyIter_zipN M.st.hz ?_
  have I3 : Inv X pins σ H1 { s2 with heap := h' } := I2.kept (t' := s2.toks) M.kp
  refine ⟨_, fpN s2.heap.objs.size as, tnN s2.heap.objs.size as, ItN X.K as, H1, rfl, I3, turnN ne l4 lt, ⟨_, _, _, .inl rfl, M.st⟩, fun b hb => ?_, q⟩
  have hle : s2.heap.objs.size ≤ b := by
    rcases List.mem_cons.mp hb with rfl | hb
    · exact Nat.le_trans (Nat.le_add_right _ _) (Nat.le_add_right _ _)
    rcases List.mem_cons.mp hb with rfl | hb
    · exact Nat.le_add_right _ _
    rcases List.mem_cons.mp hb with rfl | hb
    · exact Nat.le_trans (Nat.le_add_right _ _) (Nat.le_add_right _ _)
    obtain ⟨p, hp, rfl⟩ := List.mem_map.mp hb
    exact (mk_mem hp).1
  exact I2.fpOk hle (I2.hok.fresh hle)
end ZS
/-! sum of a tuple of ints; a walk over zip of rows -/
namespace LT
open PySem PySem.Spec PyProof.Rows L2
section
variable {prog : Program} {w : World} {A : Around} {E : Value → Shared → Prop} {s : Shared}
theorem sumT_raw {t : Addr} {vs : List Value} {ns : List Int} {Q : Value → Shared → Prop} (hh : A.handled = none) (hl : s.heap.IsTuple t vs.toArray) (hi : IntsAre vs ns)
    (h : ∀ h' tk t', (∀ b o, s.heap.get? b = some o → h'.get? b = some o) → Q (.int ns.sum t') { s with heap := h', toks := tk }) :
    wpAny (model prog w) A (call (.builtin "sum") [.ref t]) Q E s := by
  obtain ⟨xs, hx⟩ := hi.allInts.items
  have hn : numsOf vs.toArray.toList = ns := by rw [show vs.toArray.toList = vs from rfl, hi.numsOf]
  rw [hx] at hl hn
  rw [nums_intItems] at hn
  refine PySem.W.ktm_sumG hh hl fun h' tk t' hk => ?_
  have := h h' tk t' hk
  rw [preSum_eq, List.take_of_length_le (by simp), hn]
  exact this
end
section
variable {X : Cx}
def rSumT (K : PySem.W.Frag) : List V → Hp → VK → Prop := fun vs H Q => ∃ (a : Addr) (ns : List Int), vs = [V.ref a] ∧ SqT K H a (ns.map V.int) ∧ Q (.int ns.sum) H
theorem cr_sumT (hc : X.calm = true) : CallR X (.builtin "sum") (rSumT X.K) := by
  intro pins s σ H vs us Q I r h
  obtain ⟨a, ns, rfl, hs, q⟩ := h
  obtain ⟨its, rv, hl, _⟩ := I.tuple hs
  rw [Vals.ref1 r]
  exact sumT_raw (I.ok.hd hc) hl rv.ints fun h' tk t' hk => ⟨.int _, H, I.kept hk, ⟨_, rfl⟩, q⟩
end
end LT
/-! QI: calls of builtins, methods, slices, texts put together. -/
namespace QD
open PySem PySem.Spec PyProof.Rows L2 MG LT
section
variable {cf : Cf} {E : XK} {m m1 : Mo} {st : Sto} {v u : V} {w x : W}
/-- a builtin of one argument -/
def f1 (f : W → Sto → Rt W) (ws : List W) (st : Sto) : Rt W := match ws with
  | [w] => f w st
  | _ => .no
theorem opN1 {r : List V → Hp → VK → Prop} {f : W → Sto → Rt W} (h : ∀ m st v w Q, SR cf.K cf.ct m st → WR cf.K cf.ct m v w → Pe cf E m Q (f w st) → r [v] m.hp Q) : OpN cf E r (f1 f) := fun m st vs ws Q S r1 q => by
  match ws, r1, q with
  | [w], r1, q =>
    obtain ⟨v, rfl, r2⟩ := r1.one
    exact h m st v w Q S r2 q
  | [], _, q => exact q.elim
  | _ :: _ :: _, _, q => exact q.elim
def f2 (f : W → W → Sto → Rt W) (ws : List W) (st : Sto) : Rt W := match ws with
  | [w, x] => f w x st
  | _ => .no
theorem opN2 {r : List V → Hp → VK → Prop} {f : W → W → Sto → Rt W} (h : ∀ m st v u w x Q, SR cf.K cf.ct m st → WR cf.K cf.ct m v w → WR cf.K cf.ct m u x → Pe cf E m Q (f w x st) → r [v, u] m.hp Q) : OpN cf E r (f2 f) := fun m st vs ws Q S r1 q => by
  match ws, r1, q with
  | [w, x], r1, q =>
    obtain ⟨v, u, rfl, r2, r3⟩ := r1.two
    exact h m st v u w x Q S r2 r3 q
  | [], _, q => exact q.elim
  | [_], _, q => exact q.elim
  | _ :: _ :: _ :: _, _, q => exact q.elim
/-! ### len -/
def fLen (w : W) (st : Sto) : Rt W := match anyW st w with
  | some l => .ok (.fz (.int l.length)) st
  | none => .no
theorem q_len : OpN cf E (fun xs H Q => ∃ p ys, xs = [.ref p] ∧ (SqL cf.K H p ys ∨ SqT cf.K H p ys) ∧ Q (.int ys.length) H) (f1 fLen) := opN1 fun m st v w Q S r h => by
  unfold fLen at h
  cases e : anyW st w with
  | none => rw [e] at h; exact h.elim
  | some l =>
    rw [e] at h
    obtain ⟨a, xs, rfl, hs, f⟩ := anyW_ok S r e
    refine ⟨a, xs, rfl, hs, ?_⟩
    rw [f.length]
    exact h.fz S (.int _)
def fLenS (w : W) (st : Sto) : Rt W := match strW w with
  | some z => if z.length ≤ sizeLine then .ok (.fz (.int z.length)) st else .no
  | none => .no
theorem q_lenS : OpN cf E (fun xs H Q => ∃ x n, xs = [x] ∧ LenV cf.K x H n ∧ Q (.int n) H) (f1 fLenS) := opN1 fun m st v w Q S r h => by
  unfold fLenS at h
  cases e : strW w with
  | none => rw [e] at h; exact h.elim
  | some z =>
    rw [e] at h
    dsimp only at h
    split at h
    case isTrue c =>
      obtain rfl := strW_ok r e
      exact ⟨_, z.length, rfl, ⟨c, rfl⟩, h.fz S (.int _)⟩
    case isFalse => exact h.elim
/-! ### of ints -/
theorem q_abs : OpN cf E (fun xs H Q => ∃ i, xs = [.int i] ∧ Q (.int (if i < 0 then -i else i)) H) (f1 (f1I fun i => .int (if i < 0 then -i else i))) := opN1 fun m st v w Q S r h => by
  unfold f1I at h
  cases e : intW w with
  | none => rw [e] at h; exact h.elim
  | some i => rw [e] at h; obtain rfl := intW_ok r e; exact ⟨i, rfl, h.fz S (.int _)⟩
theorem q_int : OpN cf E (fun xs H Q => (∃ i, xs = [.int i] ∧ Q (.int i) H) ∨ ∃ k, xs = [.bl k] ∧ Q (.int (if k then 1 else 0)) H) (f1 (f1I fun i => .int i)) := opN1 fun m st v w Q S r h => by
  unfold f1I at h
  cases e : intW w with
  | none => rw [e] at h; exact h.elim
  | some i => rw [e] at h; obtain rfl := intW_ok r e; exact .inl ⟨i, rfl, h.fz S (.int _)⟩
def fStrI (w : W) (st : Sto) : Rt W := match intW w with
  | some i => if i.natAbs.log2 < 1920 then .ok (.fz (.str (toString i : String))) st else .no
  | none => .no
theorem q_strI : OpN cf E (fun xs H Q => ∃ i, xs = [.int i] ∧ i.natAbs.log2 < 1920 ∧ Q (.str (toString i)) H) (f1 fStrI) := opN1 fun m st v w Q S r h => by
  unfold fStrI at h
  cases e : intW w with
  | none => rw [e] at h; exact h.elim
  | some i =>
    rw [e] at h
    dsimp only at h
    split at h
    case isTrue c => obtain rfl := intW_ok r e; exact ⟨i, rfl, c, h.fz S (.str _)⟩
    case isFalse => exact h.elim
def fStrS (w : W) (st : Sto) : Rt W := match strW w with
  | some z => .ok (.fz (.str z)) st
  | none => .no
theorem q_strS : OpN cf E (fun xs H Q => ∃ a, xs = [.str a] ∧ Q (.str a) H) (f1 fStrS) := opN1 fun m st v w Q S r h => by
  unfold fStrS at h
  cases e : strW w with
  | none => rw [e] at h; exact h.elim
  | some z => rw [e] at h; obtain rfl := strW_ok r e; exact ⟨z, rfl, h.fz S (.str _)⟩
def fDivm (a b : W) (st : Sto) : Rt W := match intW a, intW b with
  | some i, some j => if 0 < j ∧ j.natAbs.log2 < 9000 then .ok (.fz (.tuple [.int (i / j), .int (i % j)])) st else .no
  | _, _ => .no
theorem q_divm : OpN cf E (fun xs H Q => ∃ i j, xs = [.int i, .int j] ∧ CDivP i j ∧ ∀ p, H p = none → Q (.ref p) (upd H p (.tup [.int (i / j), .int (i % j)]))) (f2 fDivm) := opN2 fun m st v u w x Q S r r' h => by
  unfold fDivm at h
  cases e : intW w with
  | none => rw [e] at h; exact h.elim
  | some i =>
    cases e' : intW x with
    | none => rw [e, e'] at h; exact h.elim
    | some j =>
      rw [e, e'] at h
      dsimp only at h
      split at h
      case isTrue c =>
        obtain rfl := intW_ok r e
        obtain rfl := intW_ok r' e'
        exact ⟨i, j, rfl, ⟨c.1, PyProof.noPylong_of_log2 c.2⟩, fun p hp => h _ _ (Rs.newTup S hp (.cons (.int _) (.cons (.int _) .nil)))⟩
      case isFalse => exact h.elim
theorem q_max2 : OpN cf E (fun xs H Q => ∃ i j, xs = [.int i, .int j] ∧ Q (.int (if j > i then j else i)) H) (f2 (f2I (fun _ _ => true) fun i j => .int (if j > i then j else i))) := opN2 fun m st v u w x Q S r r' h => by
  unfold f2I at h
  cases e : intW w with
  | none => rw [e] at h; exact h.elim
  | some i =>
    cases e' : intW x with
    | none => rw [e, e'] at h; exact h.elim
    | some j =>
      rw [e, e'] at h
      obtain rfl := intW_ok r e
      obtain rfl := intW_ok r' e'
      exact ⟨i, j, rfl, h.fz S (.int _)⟩
theorem q_min2 : OpN cf E (fun xs H Q => ∃ i j, xs = [.int i, .int j] ∧ Q (.int (if j < i then j else i)) H) (f2 (f2I (fun _ _ => true) fun i j => .int (if j < i then j else i))) := opN2 fun m st v u w x Q S r r' h => by
  unfold f2I at h
  cases e : intW w with
  | none => rw [e] at h; exact h.elim
  | some i =>
    cases e' : intW x with
    | none => rw [e, e'] at h; exact h.elim
    | some j =>
      rw [e, e'] at h
      obtain rfl := intW_ok r e
      obtain rfl := intW_ok r' e'
      exact ⟨i, j, rfl, h.fz S (.int _)⟩
/-! ### of lists -/
/-- a list's ints -/
def intL : List D → Option (List Int)
  | [] => some []
  | .int i :: l => (intL l).map fun r => i :: r
  | _ => none
theorem intL_eq : ∀ {l : List D} {ns : List Int}, intL l = some ns → l = ns.map PyData.int
  | [], ns, e => by cases e; rfl
  | d :: l, ns, e => by
    cases d with
    | int i =>
      unfold intL at e
      cases q : intL l with
      | none => rw [q] at e; cases e
      | some r => rw [q] at e; cases e; rw [intL_eq q]; rfl
    | _ => cases e
@[simp] theorem intL_map (ns : List Int) : intL (ns.map PyData.int) = some ns := by
  induction ns with
  | nil => rfl
  | cons n ns ih => show (intL (ns.map PyData.int)).map _ = _; rw [ih]; rfl
def fInts (s : Sto → W → Option (List D)) (g : List Int → Option D) (w : W) (st : Sto) : Rt W := match ((s st w).bind intL).bind g with
  | some d => .ok (.fz d) st
  | none => .no
theorem fInts_ok {s : Sto → W → Option (List D)} {g : List Int → Option D} {Q : VK} {st : Sto} {w : W} (h : Pe cf E m Q (fInts s g w st)) : ∃ ns d, s st w = some (ns.map PyData.int) ∧ g ns = some d ∧ Pe cf E m Q (.ok (.fz d) st) := by
  unfold fInts at h
  cases e : s st w with
  | none => rw [e] at h; exact h.elim
  | some l =>
    rw [e, Option.bind_some] at h
    cases e2 : intL l with
    | none => rw [e2] at h; exact h.elim
    | some ns =>
      rw [e2, Option.bind_some] at h
      cases e3 : g ns with
      | none => rw [e3] at h; exact h.elim
      | some d => rw [e3] at h; exact ⟨ns, d, by rw [intL_eq e2], e3, h⟩
def fSum := fInts seqR fun ns => some (.int ns.sum)
theorem q_sum : OpN cf E (rSum cf.K) (f1 fSum) := opN1 fun m st v w Q S r h => by
  obtain ⟨ns, d, e1, e2, h⟩ := fInts_ok h
  cases e2
  obtain ⟨a, xs, rfl, hs, f⟩ := seqR_ok S r e1
  rw [f.ints] at hs
  exact ⟨a, ns, rfl, hs, h.fz S (.int _)⟩
def fSumT := fInts (fun _ => tupW) fun ns => some (.int ns.sum)
theorem q_sumT : OpN cf E (rSumT cf.K) (f1 fSumT) := opN1 fun m st v w Q S r h => by
  obtain ⟨ns, d, e1, e2, h⟩ := fInts_ok h
  cases e2
  obtain ⟨a, xs, rfl, hs, f⟩ := tupW_ok r e1
  have hs := hs.sq
  rw [f.ints] at hs
  exact ⟨a, ns, rfl, hs, h.fz S (.int _)⟩
/-- the greatest, the least of ints -/
def maxL : List Int → Option Int
  | [] => none
  | n :: ns => some (ns.foldl max n)
def minL : List Int → Option Int
  | [] => none
  | n :: ns => some (ns.foldl min n)
theorem foldl_max_mem : ∀ (ns : List Int) (n : Int), ns.foldl max n ∈ n :: ns
  | [], n => by simp
  | a :: ns, n => by
    rw [List.foldl_cons]
    have := foldl_max_mem ns (max n a)
    rcases List.mem_cons.mp this with e | e
    · rw [e]
      rcases Int.max_def n a with h
      by_cases c : n ≤ a
      · rw [h, if_pos c]; simp
      · rw [h, if_neg c]; simp
    · exact List.mem_cons_of_mem _ (List.mem_cons_of_mem _ e)
theorem foldl_max_le : ∀ (ns : List Int) (n : Int), ∀ y ∈ n :: ns, y ≤ ns.foldl max n
  | [], n, y, h => by simp at h; simp [h]
  | a :: ns, n, y, h => by
    rw [List.foldl_cons]
    have ih := foldl_max_le ns (max n a)
    rcases List.mem_cons.mp h with e | h
    · exact Int.le_trans (by rw [e]; exact Int.le_max_left _ _) (ih _ (List.mem_cons_self ..))
    · rcases List.mem_cons.mp h with e | h
      · exact Int.le_trans (by rw [e]; exact Int.le_max_right _ _) (ih _ (List.mem_cons_self ..))
      · exact ih y (List.mem_cons_of_mem _ h)
theorem foldl_min_mem : ∀ (ns : List Int) (n : Int), ns.foldl min n ∈ n :: ns
  | [], n => by simp
  | a :: ns, n => by
    rw [List.foldl_cons]
    have := foldl_min_mem ns (min n a)
    rcases List.mem_cons.mp this with e | e
    · rw [e]
      rcases Int.min_def n a with h
      by_cases c : n ≤ a
      · rw [h, if_pos c]; simp
      · rw [h, if_neg c]; simp
    · exact List.mem_cons_of_mem _ (List.mem_cons_of_mem _ e)
theorem foldl_min_le : ∀ (ns : List Int) (n : Int), ∀ y ∈ n :: ns, ns.foldl min n ≤ y
  | [], n, y, h => by simp at h; simp [h]
  | a :: ns, n, y, h => by
    rw [List.foldl_cons]
    have ih := foldl_min_le ns (min n a)
    rcases List.mem_cons.mp h with e | h
    · exact Int.le_trans (ih _ (List.mem_cons_self ..)) (by rw [e]; exact Int.min_le_left _ _)
    · rcases List.mem_cons.mp h with e | h
      · exact Int.le_trans (ih _ (List.mem_cons_self ..)) (by rw [e]; exact Int.min_le_right _ _)
      · exact ih y (List.mem_cons_of_mem _ h)
def fMax := fInts seqR fun ns => (maxL ns).map PyData.int
def fMin := fInts seqR fun ns => (minL ns).map PyData.int
theorem q_max : OpN cf E (rMax cf.K) (f1 fMax) := opN1 fun m st v w Q S r h => by
  obtain ⟨ns, d, e1, e2, h⟩ := fInts_ok h
  obtain ⟨a, xs, rfl, hs, f⟩ := seqR_ok S r e1
  rw [f.ints] at hs
  cases ns with
  | nil => cases e2
  | cons n ns =>
    cases e2
    refine ⟨a, n :: ns, rfl, hs, Nat.succ_pos _, fun k hk hm => ?_⟩
    obtain rfl : k = ns.foldl max n := Int.le_antisymm (foldl_max_le ns n k hk) (hm _ (foldl_max_mem ns n))
    exact h.fz S (.int _)
theorem q_min : OpN cf E (rMin cf.K) (f1 fMin) := opN1 fun m st v w Q S r h => by
  obtain ⟨ns, d, e1, e2, h⟩ := fInts_ok h
  obtain ⟨a, xs, rfl, hs, f⟩ := seqR_ok S r e1
  rw [f.ints] at hs
  cases ns with
  | nil => cases e2
  | cons n ns =>
    cases e2
    refine ⟨a, n :: ns, rfl, hs, Nat.succ_pos _, fun k hk hm => ?_⟩
    obtain rfl : k = ns.foldl min n := Int.le_antisymm (hm _ (foldl_min_mem ns n)) (foldl_min_le ns n k hk)
    exact h.fz S (.int _)
def blL : List D → Option (List Bool)
  | [] => some []
  | .bool i :: l => (blL l).map fun r => i :: r
  | _ => none
theorem blL_eq : ∀ {l : List D} {ns : List Bool}, blL l = some ns → l = ns.map PyData.bool
  | [], ns, e => by cases e; rfl
  | d :: l, ns, e => by
    cases d with
    | bool i =>
      unfold blL at e
      cases q : blL l with
      | none => rw [q] at e; cases e
      | some r => rw [q] at e; cases e; rw [blL_eq q]; rfl
    | _ => cases e
@[simp] theorem blL_map (ns : List Bool) : blL (ns.map PyData.bool) = some ns := by
  induction ns with
  | nil => rfl
  | cons n ns ih => show (blL (ns.map PyData.bool)).map _ = _; rw [ih]; rfl
def fBls (g : List Bool → Bool) (w : W) (st : Sto) : Rt W := match (seqR st w).bind blL with
  | some bs => .ok (.fz (.bool (g bs))) st
  | none => .no
theorem q_all : OpN cf E (rAll cf.K) (f1 (fBls fun bs => bs.all id)) := opN1 fun m st v w Q S r h => by
  unfold fBls at h
  cases e : seqR st w with
  | none => rw [e] at h; exact h.elim
  | some l =>
    rw [e, Option.bind_some] at h
    cases e2 : blL l with
    | none => rw [e2] at h; exact h.elim
    | some bs =>
      rw [e2] at h
      rw [blL_eq e2] at e
      obtain ⟨a, xs, rfl, hs, f⟩ := seqR_ok S r e
      rw [f.bls] at hs
      exact ⟨a, bs, rfl, hs, h.fz S (.bl _)⟩
theorem q_any : OpN cf E (rAny cf.K) (f1 (fBls fun bs => bs.any id)) := opN1 fun m st v w Q S r h => by
  unfold fBls at h
  cases e : seqR st w with
  | none => rw [e] at h; exact h.elim
  | some l =>
    rw [e, Option.bind_some] at h
    cases e2 : blL l with
    | none => rw [e2] at h; exact h.elim
    | some bs =>
      rw [e2] at h
      rw [blL_eq e2] at e
      obtain ⟨a, xs, rfl, hs, f⟩ := seqR_ok S r e
      rw [f.bls] at hs
      exact ⟨a, bs, rfl, hs, h.fz S (.bl _)⟩
/-- tuple(xs), list(xs) -/
def fTupOf (w : W) (st : Sto) : Rt W := match anyW st w with
  | some l => .ok (.fz (.tuple l)) st
  | none => .no
theorem q_tupOf : OpN cf E (fun xs H Q => ∃ p ys, xs = [.ref p] ∧ ((SqL cf.K H p ys ∧ ∀ l, H l = none → Q (.ref l) (upd H l (.tup ys))) ∨ (SqT cf.K H p ys ∧ Q (.ref p) H))) (f1 fTupOf) := opN1 fun m st v w Q S r h => by
  unfold fTupOf anyW at h
  cases e : tupW w with
  | some l =>
    rw [e] at h
    obtain ⟨a, xs, rfl, hs, f⟩ := tupW_ok r e
    exact ⟨a, xs, rfl, .inr ⟨hs.sq, h.fz S (.tup hs f)⟩⟩
  | none =>
    rw [e] at h
    dsimp only at h
    cases e2 : seqR st w with
    | none => rw [e2] at h; exact h.elim
    | some l =>
      rw [e2] at h
      obtain ⟨a, xs, rfl, hs, f⟩ := seqR_ok S r e2
      exact ⟨a, xs, rfl, .inl ⟨hs, fun p hp => h _ _ (Rs.newTup S hp f)⟩⟩
def fLstOf (w : W) (st : Sto) : Rt W := match anyW st w with
  | some l => .ok (.own l) st
  | none => .no
theorem q_lstOf : OpN cf E (fun xs H Q => ∃ p ys, xs = [.ref p] ∧ (SqL cf.K H p ys ∨ SqT cf.K H p ys) ∧ ∀ l, H l = none → Q (.ref l) (upd H l (.lst ys))) (f1 fLstOf) := opN1 fun m st v w Q S r h => by
  unfold fLstOf at h
  cases e : anyW st w with
  | none => rw [e] at h; exact h.elim
  | some l =>
    rw [e] at h
    obtain ⟨a, xs, rfl, hs, f⟩ := anyW_ok S r e
    exact ⟨a, xs, rfl, hs, fun p hp => h _ _ (Rs.new Stp.refl S hp f)⟩
/-! ### repr -/
def shOk (d : D) : Bool := plain d && d.showable && !d.hasDict && decide (d.depth ≤ 60) && decide (d.shown.length ≤ 16777216)
def fRepr (w : W) (st : Sto) : Rt W := match lookW st w with
  | some d => if shOk d = true then .ok (.fz (.str d.shown)) st else .no
  | none => .no
theorem q_repr : OpN cf E (rRepr cf.K) (f1 fRepr) := opN1 fun m st v w Q S r h => by
  unfold fRepr at h
  cases e : lookW st w with
  | none => rw [e] at h; exact h.elim
  | some d =>
    rw [e] at h
    dsimp only at h
    split at h
    case isTrue c =>
      unfold shOk at c
      simp only [Bool.and_eq_true, decide_eq_true_eq, Bool.not_eq_true'] at c
      exact ⟨v, d, rfl, look_dp S r e c.1.1.1.1, c.1.1.1.2, c.1.1.2, c.1.2, c.2, h.fz S (.str _)⟩
    case isFalse => exact h.elim
/-! ### methods -/
def dM (ty : Sto → W → Bool) (f : W → List W → Sto → Rt W) (a : Dn) (b : DnA) : Dn := fun en st => (a en st).bind fun x st1 => if ty st1 x = true then (b en st1).bind fun xs st2 => f x xs st2 else .no
def OpM' (cf : Cf) (E : XK) (T : String) (r : V → List V → Hp → VK → Prop) (ty : Sto → W → Bool) (f : W → List W → Sto → Rt W) : Prop :=
  (∀ m st v w, SR cf.K cf.ct m st → WR cf.K cf.ct m v w → ty st w = true → tyV cf.K T v m.hp) ∧
  ∀ m st v w vs ws Q, SR cf.K cf.ct m st → WR cf.K cf.ct m v w → WRs cf m vs ws → Pe cf E m Q (f w ws st) → r v vs m.hp Q
theorem ev_bm {T : String} {r : V → List V → Hp → VK → Prop} {ty : Sto → W → Bool} {f : W → List W → Sto → Rt W} {to : TE} {t : TA} {a : Dn} {b : DnA} (o : OpM' cf E T r ty f) (ha : Ev cf E to a) (hb : Ea cf E t b) : Ev cf E (tBM cf.K T r to t) (dM ty f a b) := fun m σ en st Q er S h => by
  refine ha m σ en st _ er S ?_
  unfold dM at h
  cases e : a en st with
  | ex c p st1 => rw [e] at h; exact h
  | no => rw [e] at h; exact h
  | ok x st1 =>
    rw [e, Rt.bind_ok] at h
    intro v m1 r1
    split at h
    case isFalse => exact h.elim
    case isTrue c =>
      refine ⟨o.1 m1 st1 v x r1.sr r1.wr c, hb m1 σ en st1 _ (er.to r1.stp) r1.sr ?_⟩
      cases e2 : b en st1 with
      | ex c p st2 => rw [e2] at h; exact Xe.pre r1.stp h
      | no => rw [e2] at h; exact h
      | ok xs st2 =>
        rw [e2, Rt.bind_ok] at h
        intro vs m2 s2 S2 r2
        exact o.2 m2 st2 v x vs xs Q S2 (r1.wr.to s2) r2 (Pe.pre (r1.stp.trans s2) h)
theorem ev_bm0 {T : String} {r : V → List V → Hp → VK → Prop} {ty : Sto → W → Bool} {f : W → List W → Sto → Rt W} {to : TE} {a : Dn} (o : OpM' cf E T r ty f) (ha : Ev cf E to a) : Ev cf E (tBM0 cf.K T r to) (dM ty f a aNil) := fun m σ en st Q er S h => by
  refine ha m σ en st _ er S ?_
  unfold dM at h
  cases e : a en st with
  | ex c p st1 => rw [e] at h; exact h
  | no => rw [e] at h; exact h
  | ok x st1 =>
    rw [e, Rt.bind_ok] at h
    intro v m1 r1
    split at h
    case isFalse => exact h.elim
    case isTrue c => exact ⟨o.1 m1 st1 v x r1.sr r1.wr c, o.2 m1 st1 v x [] [] Q r1.sr r1.wr .nil (Pe.pre r1.stp h)⟩
def isLst (st : Sto) (w : W) : Bool := (seqW st w).isSome
theorem isLst_ok (S : SR cf.K cf.ct m st) (r : WR cf.K cf.ct m v w) (h : isLst st w = true) : tyV cf.K "list" v m.hp := by
  unfold isLst at h
  cases e : seqW st w with
  | none => rw [e] at h; cases h
  | some l =>
    obtain ⟨a, xs, rfl, hs, _⟩ := seq_ok S r e
    exact .inl ⟨rfl, _, SqL.of hs⟩
/-- a change of a list: what it gives back, what it holds then -/
def fChg (g : List D → List W → Option (D × List D)) (w : W) (ws : List W) (st : Sto) : Rt W := match w with
  | .loc n => match st[n]? with
    | some (.lst l) => match g l ws with
      | some (d, l') => .ok (.fz d) (st.set n (.lst l'))
      | none => .no
    | _ => .no
  | _ => .no
theorem fChg_ok {g : List D → List W → Option (D × List D)} {ws : List W} {Q : VK} (S : SR cf.K cf.ct m st) (r : WR cf.K cf.ct m v w) (h : Pe cf E m Q (fChg g w ws st)) :
    ∃ a xs l d l', v = .ref a ∧ m.hp a = some (.lst xs) ∧ FzA cf.K cf.ct m xs l ∧ g l ws = some (d, l') ∧
      ∀ u ys, FzA cf.K cf.ct m ys l' → Fz cf.K cf.ct m u d → Q u (upd m.hp a (.lst ys)) := by
  cases w with
  | fz _ => exact h.elim
  | own _ => exact h.elim
  | nst _ => exact h.elim
  | loc n =>
    unfold fChg at h
    dsimp only at h
    obtain ⟨a, rfl, ha⟩ := r
    obtain ⟨o, ho, hb⟩ := S.get ha
    rw [ho] at h
    cases o with
    | dk _ => exact h.elim
    | ins _ _ => exact h.elim
    | lst l =>
      dsimp only at h
      obtain ⟨xs, e1, f⟩ := hb.lst_of
      cases e : g l ws with
      | none => rw [e] at h; exact h.elim
      | some p =>
        obtain ⟨d, l'⟩ := p
        rw [e] at h
        refine ⟨a, xs, l, d, l', rfl, e1, f, e, fun u ys f2 fu => ?_⟩
        have s := Stp.chg (m := m) (u := .lst ys) ha
        exact h u (m.to (upd m.hp a (.lst ys))) (.fz s (S.set ha ⟨_, upd_same, (f2.to s : FzA cf.K cf.ct _ _ _)⟩) (fu.to s))
def gApp (l : List D) (ws : List W) : Option (D × List D) := match ws with
  | [w] => match datW w with
    | some d => if l.length < sizeLine then some (.none, l ++ [d]) else none
    | none => none
  | _ => none
theorem q_app : OpM' cf E "list" rAppend isLst (fChg gApp) := by
  refine ⟨fun m st v w S r h => isLst_ok S r h, fun m st v w vs ws Q S r rs h => ?_⟩
  obtain ⟨a, xs, l, d, l', rfl, e1, f, e, k⟩ := fChg_ok S r h
  match ws, rs, e with
  | [w1], rs, e =>
    obtain ⟨v1, rfl, r1⟩ := rs.one
    unfold gApp at e
    dsimp only at e
    cases e2 : datW w1 with
    | none => rw [e2] at e; cases e
    | some d1 =>
      rw [e2] at e
      dsimp only at e
      split at e
      case isTrue c =>
        cases e
        exact ⟨a, xs, v1, rfl, rfl, e1, by rw [f.length]; exact c, k _ _ (f.append (.cons (dat_ok r1 e2) .nil)) .non⟩
      case isFalse => cases e
  | [], _, e => cases e
  | _ :: _ :: _, _, e => cases e
noncomputable def gIns (l : List D) (ws : List W) : Option (D × List D) := match ws with
  | [i, w] => match intW i, datW w with
    | some i, some d => @ite _ (l.length < sizeLine ∧ 0 ≤ i ∧ i < 2 ^ 63) (Classical.propDecidable _) (some (.none, l.take i.toNat ++ [d] ++ l.drop i.toNat)) none
    | _, _ => none
  | _ => none
theorem q_ins : OpM' cf E "list" (fun x vs H Q => ∃ (l : Addr) (xs : List V) (i : Int) (y : V), x = .ref l ∧ vs = [.int i, y] ∧ H l = some (.lst xs) ∧ xs.length < sizeLine ∧ 0 ≤ i ∧ i < 2 ^ 63 ∧
    Q .non (upd H l (.lst (xs.take i.toNat ++ [y] ++ xs.drop i.toNat)))) isLst (fChg gIns) := by
  refine ⟨fun m st v w S r h => isLst_ok S r h, fun m st v w vs ws Q S r rs h => ?_⟩
  obtain ⟨a, xs, l, d, l', rfl, e1, f, e, k⟩ := fChg_ok S r h
  match ws, rs, e with
  | [w0, w1], rs, e =>
    obtain ⟨v0, v1, rfl, r0, r1⟩ := rs.two
    unfold gIns at e
    dsimp only at e
    cases e3 : intW w0 with
    | none => rw [e3] at e; cases e
    | some i =>
      cases e2 : datW w1 with
      | none => rw [e2, e3] at e; cases e
      | some d1 =>
        rw [e2, e3] at e
        dsimp only at e
        split at e
        case isTrue c =>
          cases e
          obtain rfl := intW_ok r0 e3
          exact ⟨a, xs, i, v1, rfl, rfl, e1, by rw [f.length]; exact c.1, c.2.1, c.2.2, k _ _ (((f.take _).append (.cons (dat_ok r1 e2) .nil)).append (f.drop _)) .non⟩
        case isFalse => cases e
  | [], _, e => cases e
  | [_], _, e => cases e
  | _ :: _ :: _ :: _, _, e => cases e
def gExt (st : Sto) (l : List D) (ws : List W) : Option (D × List D) := match ws with
  | [w] => match seqW st w with
    | some z => if l.length + z.length ≤ sizeLine then some (.none, l ++ z) else none
    | none => none
  | _ => none
theorem q_ext : OpM' cf E "list" rExtend isLst (fun w ws st => fChg (gExt st) w ws st) := by
  refine ⟨fun m st v w S r h => isLst_ok S r h, fun m st v w vs ws Q S r rs h => ?_⟩
  obtain ⟨a, xs, l, d, l', rfl, e1, f, e, k⟩ := fChg_ok S r h
  match ws, rs, e with
  | [w1], rs, e =>
    obtain ⟨v1, rfl, r1⟩ := rs.one
    unfold gExt at e
    dsimp only at e
    cases e2 : seqW st w1 with
    | none => rw [e2] at e; cases e
    | some z =>
      rw [e2] at e
      dsimp only at e
      split at e
      case isTrue c =>
        cases e
        obtain ⟨b, ys, rfl, hb, fb⟩ := seq_ok S r1 e2
        exact ⟨a, b, xs, ys, rfl, rfl, e1, hb, by rw [f.length, fb.length]; exact c, k _ _ (f.append fb) .non⟩
      case isFalse => cases e
  | [], _, e => cases e
  | _ :: _ :: _, _, e => cases e
def gPop (l : List D) (ws : List W) : Option (D × List D) := match ws with
  | [] => match l[l.length - 1]? with
    | some d => some (d, l.dropLast)
    | none => none
  | _ => none
theorem q_pop : OpM' cf E "list" rPop isLst (fChg gPop) := by
  refine ⟨fun m st v w S r h => isLst_ok S r h, fun m st v w vs ws Q S r rs h => ?_⟩
  obtain ⟨a, xs, l, d, l', rfl, e1, f, e, k⟩ := fChg_ok S r h
  match ws, rs, e with
  | [], rs, e =>
    cases rs
    unfold gPop at e
    dsimp only at e
    cases e2 : l[l.length - 1]? with
    | none => rw [e2] at e; cases e
    | some z =>
      rw [e2] at e
      cases e
      obtain ⟨y, hy, fy⟩ := f.get e2
      exact ⟨a, xs, y, rfl, rfl, e1, by rw [f.length]; exact hy, k _ _ f.dropLast fy⟩
  | _ :: _, _, e => cases e
/-! ### slices -/
def OpSl (cf : Cf) (E : XK) (r : V → Option Int → Option Int → Hp → VK → Prop) (f : W → Option Int → Option Int → Sto → Rt W) : Prop := ∀ m st v w lo hi Q, SR cf.K cf.ct m st → WR cf.K cf.ct m v w → Pe cf E m Q (f w lo hi st) → r v lo hi m.hp Q
abbrev DnO := En → Sto → Rt (Option Int)
def Po (cf : Cf) (E : XK) (m : Mo) (Q : Option Int → Hp → Prop) : Rt (Option Int) → Prop
  | .ok o st => ∀ m', Stp m m' → SR cf.K cf.ct m' st → Q o m'.hp
  | .ex c p st => Xe cf E m c p st
  | .no => False
def Eo (cf : Cf) (E : XK) (t : TO) (d : DnO) : Prop := ∀ m σ en st Q, ER cf.K cf.ct m σ en → SR cf.K cf.ct m st → Po cf E m Q (d en st) → t σ m.hp Q
def oNone : DnO := fun _ st => .ok none st
def oSome (a : Dn) : DnO := fun en st => (a en st).bind fun x st1 => match intW x with
  | some i => .ok (some i) st1
  | none => .no
theorem eo_none : Eo cf E tNoPart oNone := fun m σ en st Q er S h => h m Stp.refl S
theorem eo_some {t : TE} {a : Dn} (ha : Ev cf E t a) : Eo cf E (tPart t) (oSome a) := fun m σ en st Q er S h => by
  refine ha m σ en st _ er S ?_
  unfold oSome at h
  cases e : a en st with
  | ex c p st1 => rw [e] at h; exact h
  | no => rw [e] at h; exact h
  | ok x st1 =>
    rw [e, Rt.bind_ok] at h
    intro v m1 r1
    cases e2 : intW x with
    | none => rw [e2] at h; exact h.elim
    | some i =>
      rw [e2] at h
      exact ⟨i, intW_ok r1.wr e2, h m1 r1.stp r1.sr⟩
def dSl (f : W → Option Int → Option Int → Sto → Rt W) (a : Dn) (lo hi : DnO) : Dn := fun en st => (a en st).bind fun x st1 => (lo en st1).bind fun l st2 => (hi en st2).bind fun u st3 => f x l u st3
theorem ev_sl {r : V → Option Int → Option Int → Hp → VK → Prop} {f : W → Option Int → Option Int → Sto → Rt W} {te : TE} {tl th : TO} {a : Dn} {lo hi : DnO} (o : OpSl cf E r f) (ha : Ev cf E te a) (hl : Eo cf E tl lo) (hh : Eo cf E th hi) : Ev cf E (tSl r te tl th) (dSl f a lo hi) := fun m σ en st Q er S h => by
  refine ha m σ en st _ er S ?_
  unfold dSl at h
  cases e : a en st with
  | ex c p st1 => rw [e] at h; exact h
  | no => rw [e] at h; exact h
  | ok x st1 =>
    rw [e, Rt.bind_ok] at h
    intro v m1 r1
    refine hl m1 σ en st1 _ (er.to r1.stp) r1.sr ?_
    cases e2 : lo en st1 with
    | ex c p st2 => rw [e2] at h; exact Xe.pre r1.stp h
    | no => rw [e2] at h; exact h
    | ok l st2 =>
      rw [e2, Rt.bind_ok] at h
      intro m2 s2 S2
      have s12 := r1.stp.trans s2
      refine hh m2 σ en st2 _ (er.to s12) S2 ?_
      cases e3 : hi en st2 with
      | ex c p st3 => rw [e3] at h; exact Xe.pre s12 h
      | no => rw [e3] at h; exact h
      | ok u st3 =>
        rw [e3, Rt.bind_ok] at h
        intro m3 s3 S3
        exact o m3 st3 v x l u Q S3 (r1.wr.to (s2.trans s3)) (Pe.pre (s12.trans s3) h)
def cutD (l : List D) (lo hi : Option Int) : List D := (l.drop (HT.sIx l.length 0 lo)).take (HT.sIx l.length l.length hi - HT.sIx l.length 0 lo)
theorem cut_rel {xs : List V} {l : List D} {lo hi : Option Int} (f : FzA cf.K cf.ct m xs l) : FzA cf.K cf.ct m (cutV xs lo hi) (cutD l lo hi) := by
  unfold cutV cutD
  rw [f.length]
  exact (f.drop _).take _
def fSlL (w : W) (lo hi : Option Int) (st : Sto) : Rt W := match seqR st w with
  | some l => .ok (.own (cutD l lo hi)) st
  | none => .no
theorem q_slL : OpSl cf E (rSlL cf.K) fSlL := fun m st v w lo hi Q S r h => by
  unfold fSlL at h
  cases e : seqR st w with
  | none => rw [e] at h; exact h.elim
  | some l =>
    rw [e] at h
    obtain ⟨a, xs, rfl, hs, f⟩ := seqR_ok S r e
    exact ⟨a, xs, rfl, hs, fun p hp => h _ _ (Rs.new Stp.refl S hp (cut_rel f))⟩
def fSlS (w : W) (lo hi : Option Int) (st : Sto) : Rt W := match strW w with
  | some z => if z.length ≤ sizeLine then .ok (.fz (.str (cutS z lo hi))) st else .no
  | none => .no
theorem q_slS : OpSl cf E rSlS fSlS := fun m st v w lo hi Q S r h => by
  unfold fSlS at h
  cases e : strW w with
  | none => rw [e] at h; exact h.elim
  | some z =>
    rw [e] at h
    dsimp only at h
    split at h
    case isTrue c => exact ⟨z, strW_ok r e, c, h.fz S (.str _)⟩
    case isFalse => exact h.elim
end
end QD
/-! QK: the hand layer's rules with the written part named, so that they serve within comprehensions. -/
namespace QD
open PySem PySem.Spec PyProof.Rows L2 MG LT
abbrev rLenQ (K : PySem.W.Frag) : List V → Hp → VK → Prop := fun xs H Q => ∃ p ys, xs = [.ref p] ∧ (SqL K H p ys ∨ SqT K H p ys) ∧ Q (.int ys.length) H
abbrev rLenV (K : PySem.W.Frag) : List V → Hp → VK → Prop := fun xs H Q => ∃ x n, xs = [x] ∧ LenV K x H n ∧ Q (.int n) H
abbrev rLstOf (K : PySem.W.Frag) : List V → Hp → VK → Prop := fun xs H Q => ∃ p ys, xs = [.ref p] ∧ (SqL K H p ys ∨ SqT K H p ys) ∧ ∀ l, H l = none → Q (.ref l) (upd H l (.lst ys))
abbrev rTupOf (K : PySem.W.Frag) : List V → Hp → VK → Prop := fun xs H Q => ∃ p ys, xs = [.ref p] ∧ ((SqL K H p ys ∧ ∀ l, H l = none → Q (.ref l) (upd H l (.tup ys))) ∨ (SqT K H p ys ∧ Q (.ref p) H))
section
variable {X : Cx} {a b c o e : Expr} {es : List Expr} {ta te to : TE} {t : TA} {tg l : Expr} {pos : Pos}
theorem op_inK (K : PySem.W.Frag) (h : X.K = K := by rfl) : OpR X (compareOp .In) (rIn K false) := by subst h; exact op_in_seq
theorem op_notInK (K : PySem.W.Frag) (h : X.K = K := by rfl) : OpR X (compareOp .NotIn) (rIn K true) := by subst h; exact op_notIn_seq
theorem op_eqDK (K : PySem.W.Frag) (hu : X.A.units + 64 < cLine) (h : X.K = K := by rfl) : OpR X (compareOp .Eq) (rEqD K) := by subst h; exact op_eqD hu
theorem op_neDK (K : PySem.W.Frag) (hu : X.A.units + 64 < cLine) (h : X.K = K := by rfl) : OpR X (compareOp .NotEq) (rNeD K) := by subst h; exact op_neD hu
theorem op_catAK (K : PySem.W.Frag) (h : X.K = K := by rfl) : OpR X (binaryOp .Add) (rCatA K) := by subst h; exact op_catA
theorem ix_listK (K : PySem.W.Frag) (h : X.K = K := by rfl) : IxR X (rIxL K) := by subst h; exact ix_list
theorem ix_tupK (K : PySem.W.Frag) (h : X.K = K := by rfl) : IxR X (rIxT K) := by subst h; exact ix_tup
theorem ix_seqK (K : PySem.W.Frag) (h : X.K = K := by rfl) : IxR X (rIx K) := by subst h; exact ix_seq
theorem sl_listK (K : PySem.W.Frag) (h : X.K = K := by rfl) : SlR X (rSlL K) := by subst h; exact sl_list
theorem sl_tupK (K : PySem.W.Frag) (h : X.K = K := by rfl) : SlR X (rSlA K) := by subst h; exact sl_tupA
theorem call_lenQ (K : PySem.W.Frag) (h : X.K = K := by rfl) : CallR X (.builtin "len") (rLenQ K) := by subst h; exact call_len_seq
theorem call_lenVK (K : PySem.W.Frag) (h : X.K = K := by rfl) : CallR X (.builtin "len") (rLenV K) := by subst h; exact call_len
theorem call_lstOf (K : PySem.W.Frag) (h : X.K = K := by rfl) : CallR X (.type "list") (rLstOf K) := by subst h; exact call_list_of
theorem call_tupOf (K : PySem.W.Frag) (h : X.K = K := by rfl) : CallR X (.type "tuple") (rTupOf K) := by subst h; exact call_tuple_of
theorem cr_sumK (K : PySem.W.Frag) (hc : X.calm = true) (h : X.K = K := by rfl) : CallR X (.builtin "sum") (rSum K) := by subst h; exact cr_sum hc
theorem cr_sumTK (K : PySem.W.Frag) (hc : X.calm = true) (h : X.K = K := by rfl) : CallR X (.builtin "sum") (rSumT K) := by subst h; exact cr_sumT hc
theorem cr_maxK (K : PySem.W.Frag) (hc : X.calm = true) (h : X.K = K := by rfl) : CallR X (.builtin "max") (rMax K) := by subst h; exact cr_max hc
theorem cr_minK (K : PySem.W.Frag) (hc : X.calm = true) (h : X.K = K := by rfl) : CallR X (.builtin "min") (rMin K) := by subst h; exact cr_min hc
theorem cr_allK (K : PySem.W.Frag) (hc : X.calm = true) (h : X.K = K := by rfl) : CallR X (.builtin "all") (rAll K) := by subst h; exact cr_all hc
theorem cr_anyK (K : PySem.W.Frag) (hc : X.calm = true) (h : X.K = K := by rfl) : CallR X (.builtin "any") (rAny K) := by subst h; exact cr_any hc
theorem call_isiK (K : PySem.W.Frag) (h : X.K = K := by rfl) : CallR X (.builtin "isinstance") (rIsi K) := by subst h; exact call_isi
theorem call_reprK {k : Nat} (K : PySem.W.Frag) (hgd : X.A.guards = some []) (hr : Room k X.A) (h : X.K = K := by rfl) : CallR X (.builtin "repr") (rRepr K) := by subst h; exact call_repr hgd hr
def tTru (K : PySem.W.Frag) (t : TE) : TT := fun σ H Q => t σ H fun x H' => ∃ k, TruV K x H' k ∧ Q k H'
theorem pt_truK (K : PySem.W.Frag) (ha : PE X a ta) (he : ∀ whole, isTrue a X.env whole = (do let v ← whole; standAt a.pos; holding [v] (truthy v))) (h : X.K = K := by rfl) : PT X a (tTru K ta) := by subst h; exact pt_truth ha he
theorem pi_listK (K : PySem.W.Frag) {tl : TE} (hl : PE X l tl) (h : X.K = K := by rfl) : PI X tg l (iList K tl) := by subst h; exact pi_list hl
theorem pi_tupK (K : PySem.W.Frag) {tl : TE} (hl : PE X l tl) (h : X.K = K := by rfl) : PI X tg l (iTup K tl) := by subst h; exact pi_tup hl
theorem pg_tupK (K : PySem.W.Frag) {es : List Expr} {k : Nat} {t : TGs} {n : Nat} (hc : X.calm = true) (h : PGs X es t) (hn : (assignEach es X.env).length = n := by rfl) (hst : (assignEach es X.env).findIdx? (·.1) = none := by rfl)
    (hk : X.K = K := by rfl) : PG X (.Tuple es k pos) (gTup K n t) := by subst hk; exact pg_tup hc h hn hst
end
section
variable {cf : Cf} {E : XK}
theorem et_truK {t : TE} {a : Dn} (ha : Ev cf E t a) : Et cf E (tTru cf.K t) (bTru a) := et_tru ha
end
/-! ### methods of lists -/
section
variable {X : Cx} {T : String} {name : Str} {id : String} {r : V → List V → Hp → VK → Prop} {o e : Expr} {es : List Expr} {to : TE} {t : TA} {apos pos : Pos}
end
end QD
/-! QS: how denotations are reckoned out. -/
namespace QD
open PySem PySem.Spec PyProof.Rows L2 MG
section
variable {en en1 : En} {st st1 : Sto} {a b c : Dn} {α β : Type}
@[simp] theorem dVar_eq {i : Nat} : dVar i en st = match en[i]? with
  | some (some w) => .ok w st
  | _ => .no := (rfl)
@[simp] theorem dC_eq {d : D} : dC d en st = .ok (.fz d) st := (rfl)
@[simp] theorem dOp_eq {f : W → W → Sto → Rt W} : dOp f a b en st = (a en st).bind fun x st1 => (b en st1).bind fun y st2 => f x y st2 := (rfl)
@[simp] theorem dUn_eq {f : W → Sto → Rt W} : dUn f a en st = (a en st).bind fun x st1 => f x st1 := (rfl)
@[simp] theorem aNil_eq : aNil en st = .ok [] st := (rfl)
@[simp] theorem aCons_eq {x : DnA} : aCons a x en st = (a en st).bind fun y st1 => (x en st1).bind fun xs st2 => .ok (y :: xs) st2 := (rfl)
@[simp] theorem dN_eq {f : List W → Sto → Rt W} {x : DnA} : dN f x en st = (x en st).bind fun xs st1 => f xs st1 := (rfl)
@[simp] theorem f1_eq {f : W → Sto → Rt W} {w : W} : f1 f [w] st = f w st := (rfl)
@[simp] theorem f2_eq {f : W → W → Sto → Rt W} {w x : W} : f2 f [w, x] st = f w x st := (rfl)
@[simp] theorem dLoc_eq : dLoc a en st = (a en st).bind fun x st1 => match x with
  | .own l => .ok (.loc st1.length) (st1 ++ [.lst l])
  | _ => .no := (rfl)
@[simp] theorem bT_eq : bT a en st = (a en st).bind fun x st1 => match tst x with
  | some b => .ok b st1
  | none => .no := (rfl)
@[simp] theorem tst_b {x : Bool} : tst (.fz (.bool x)) = some x := (rfl)
@[simp] theorem bAnd_eq {x y : DnT} : bAnd x y en st = (x en st).bind fun z st1 => if z = true then y en st1 else .ok false st1 := (rfl)
@[simp] theorem bOr_eq {x y : DnT} : bOr x y en st = (x en st).bind fun z st1 => if z = true then .ok true st1 else y en st1 := (rfl)
@[simp] theorem bNot_eq {x : DnT} : bNot x en st = (x en st).bind fun z st1 => .ok (!z) st1 := (rfl)
@[simp] theorem bTru_eq : bTru a en st = (a en st).bind fun x st1 => match truW st1 x with
  | some b => .ok b st1
  | none => .no := (rfl)
@[simp] theorem dAnd_eq : dAnd a b en st = (a en st).bind fun x st1 => match tst x with
  | some true => b en st1
  | some false => .ok (.fz (.bool false)) st1
  | none => .no := (rfl)
@[simp] theorem dOr_eq : dOr a b en st = (a en st).bind fun x st1 => match tst x with
  | some true => .ok (.fz (.bool true)) st1
  | some false => b en st1
  | none => .no := (rfl)
@[simp] theorem dNot_eq : dNot a en st = (a en st).bind fun x st1 => match tst x with
  | some b => .ok (.fz (.bool (!b))) st1
  | none => .no := (rfl)
@[simp] theorem dIf_eq {x : DnT} : dIf x a b en st = (x en st).bind fun z st1 => if z = true then a en st1 else b en st1 := (rfl)
@[simp] theorem dChain_eq {f g : W → W → Sto → Rt W} : dChain f g a b c en st = (a en st).bind fun x st1 => (b en st1).bind fun y st2 => (f x y st2).bind fun z st3 => match tst z with
  | some true => (c en st3).bind fun u st4 => g y u st4
  | some false => .ok (.fz (.bool false)) st3
  | none => .no := (rfl)
@[simp] theorem sNext_eq : sNext en st = .go en st := (rfl)
@[simp] theorem sSeq_eq {x y : DnS} : sSeq x y en st = match x en st with
  | .go en1 st1 => y en1 st1
  | r => r := (rfl)
@[simp] theorem sDrop_eq : sDrop a en st = sBind (a en st) fun _ st1 => .go en st1 := (rfl)
@[simp] theorem sRet_eq : sRet a en st = sBind (a en st) fun x st1 => .rt x st1 := (rfl)
@[simp] theorem sRetN_eq : sRetN en st = .rt (.fz .none) st := (rfl)
@[simp] theorem sIf_eq {x : DnT} {y z : DnS} : sIf x y z en st = sBind (x en st) fun b st1 => if b = true then y en st1 else z en st1 := (rfl)
@[simp] theorem sSet_eq {i : Nat} : sSet i a en st = sBind (a en st) fun x st1 => .go (en.set i (some (frz x))) st1 := (rfl)
@[simp] theorem sPar_eq {i j : Nat} {x : DnA} : sPar i j x en st = sBind (x en st) fun xs st1 => match xs with
  | [x, y] => .go ((en.set i (some (frz x))).set j (some (frz y))) st1
  | _ => .no := (rfl)
@[simp] theorem sPar3_eq {i j l : Nat} {x : DnA} : sPar3 i j l x en st = sBind (x en st) fun xs st1 => match xs with
  | [x, y, z] => .go (((en.set i (some (frz x))).set j (some (frz y))).set l (some (frz z))) st1
  | _ => .no := (rfl)
@[simp] theorem sAsg_eq {g : DnG} : sAsg a g en st = sBind (a en st) fun x st1 => match g x en st1 with
  | .ok en2 st2 => .go en2 st2
  | .ex c p st2 => .ex c p st2
  | .no => .no := (rfl)
@[simp] theorem gN_eq {i : Nat} {w : W} : gN i w en st = .ok (en.set i (some (frz w))) st := (rfl)
@[simp] theorem gT_eq {n : Nat} {gs : List D → En → Sto → Rt En} {ds : List D} : gT n gs (.fz (.tuple ds)) en st = if ds.length = n then gs ds en st else .no := (rfl)
@[simp] theorem gsNil_eq : gsNil [] en st = .ok en st := (rfl)
@[simp] theorem gsCons_eq {g : DnG} {gs : List D → En → Sto → Rt En} {d : D} {ds : List D} : gsCons g gs (d :: ds) en st = (g (.fz d) en st).bind fun en1 st1 => gs ds en1 st1 := (rfl)
@[simp] theorem gSb_eq {f : W → W → W → Sto → Option Sto} {w : W} : gSb f a b w en st = (a en st).bind fun x st1 => (b en st1).bind fun y st2 => match f x y w st2 with
  | some st3 => .ok en st3
  | none => .no := (rfl)
@[simp] theorem frz_fz {d : D} : frz (.fz d) = .fz d := (rfl)
@[simp] theorem frz_own {l : List D} : frz (.own l) = .fz (.list l) := (rfl)
@[simp] theorem frz_loc {n : Nat} : frz (.loc n) = .loc n := (rfl)
@[simp] theorem intW_fz {i : Int} : intW (.fz (.int i)) = some i := (rfl)
@[simp] theorem strW_fz {i : Str} : strW (.fz (.str i)) = some i := (rfl)
@[simp] theorem tupW_fz {l : List D} : tupW (.fz (.tuple l)) = some l := (rfl)
@[simp] theorem tupW_list {l : List D} : tupW (.fz (.list l)) = none := (rfl)
@[simp] theorem tupW_own {l : List D} : tupW (.own l) = none := (rfl)
@[simp] theorem tupW_loc {n : Nat} : tupW (.loc n) = none := (rfl)
@[simp] theorem datW_fz {d : D} : datW (.fz d) = some d := (rfl)
@[simp] theorem datW_own {l : List D} : datW (.own l) = some (.list l) := (rfl)
@[simp] theorem datWs_nil : datWs [] = some [] := (rfl)
@[simp] theorem datWs_cons {w : W} {ws : List W} : datWs (w :: ws) = match datW w, datWs ws with
  | some d, some ds => some (d :: ds)
  | _, _ => none := (rfl)
@[simp] theorem fTup_eq {ws : List W} : fTup ws st = match datWs ws with
  | some ds => if ds.length ≤ sizeLine then .ok (.fz (.tuple ds)) st else .no
  | none => .no := (rfl)
@[simp] theorem fLst_eq {ws : List W} : fLst ws st = match datWs ws with
  | some ds => if ds.length ≤ sizeLine then .ok (.own ds) st else .no
  | none => .no := (rfl)
@[simp] theorem noneW_none : noneW (.fz .none) = true := (rfl)
@[simp] theorem noneW_int {i : Int} : noneW (.fz (.int i)) = false := (rfl)
@[simp] theorem noneW_tup {i : List D} : noneW (.fz (.tuple i)) = false := (rfl)
@[simp] theorem noneW_str {i : Str} : noneW (.fz (.str i)) = false := (rfl)
@[simp] theorem fIs_eq {neg : Bool} {x y : W} : fIs neg x y st = if noneW y = true then .ok (.fz (.bool (if neg = true then !noneW x else noneW x))) st else .no := (rfl)
/-! ### lists -/
@[simp] theorem seqW_fz {l : List D} : seqW st (.fz (.list l)) = some l := (rfl)
@[simp] theorem seqW_own {l : List D} : seqW st (.own l) = some l := (rfl)
theorem seqW_loc {n : Nat} {l : List D} (h : st[n]? = some (.lst l)) : seqW st (.loc n) = some l := by unfold seqW; dsimp only; rw [h]
@[simp] theorem seqR_fz {l : List D} : seqR st (.fz (.list l)) = some l := (rfl)
@[simp] theorem seqR_ro {l : List D} : seqR st (.fz (roD l)) = some l := (rfl)
@[simp] theorem seqR_own {l : List D} : seqR st (.own l) = some l := (rfl)
@[simp] theorem seqR_loc {n : Nat} : seqR st (.loc n) = seqW st (.loc n) := (rfl)
theorem anyW_eq {w : W} : anyW st w = match tupW w with
  | some l => some l
  | none => seqR st w := (rfl)
@[simp] theorem anyW_tup {l : List D} : anyW st (.fz (.tuple l)) = some l := (rfl)
@[simp] theorem anyW_list {l : List D} : anyW st (.fz (.list l)) = some l := (rfl)
@[simp] theorem anyW_own {l : List D} : anyW st (.own l) = some l := (rfl)
@[simp] theorem anyW_ro {l : List D} : anyW st (.fz (roD l)) = some l := (rfl)
@[simp] theorem anyW_loc {n : Nat} : anyW st (.loc n) = seqW st (.loc n) := (rfl)
@[simp] theorem isLst_loc {n : Nat} : isLst st (.loc n) = (seqW st (.loc n)).isSome := (rfl)
@[simp] theorem lookW_fz {d : D} : lookW st (.fz d) = some d := (rfl)
@[simp] theorem lookW_own {l : List D} : lookW st (.own l) = some (.list l) := (rfl)
@[simp] theorem exitW_fz {n : Nat} {d : D} : exitW n (.fz d) st = some (.fz d, st.take n) := (rfl)
@[simp] theorem exitW_own {n : Nat} {l : List D} : exitW n (.own l) st = some (.own l, st.take n) := (rfl)
theorem exitW_loc {n k : Nat} {l : List D} (h : n ≤ k) (e : st[k]? = some (.lst l)) : exitW n (.loc k) st = some (.own l, st.take n) := by
  unfold exitW
  dsimp only
  rw [if_neg (by omega), e]
@[simp] theorem exitD_rt {n : Nat} {w : W} : exitD n (.rt w st) = match exitW n w st with
  | some (w', st') => .ok w' st'
  | none => .no := (rfl)
@[simp] theorem exitD_go {n : Nat} : exitD n (.go en st) = .ok (.fz .none) (st.take n) := (rfl)
theorem atI_zero {α : Type} {x : α} {l : List α} : atI (x :: l) 0 = some x := by simp [atI, ixN]
theorem atI_n {α : Type} {l : List α} {n : Nat} : atI l ((n : Nat) : Int) = l[n]? := by
  unfold atI ixN
  rw [if_pos (Int.natCast_nonneg n)]
  by_cases h : ((n : Nat) : Int) < (l.length : Int)
  · rw [if_pos h]; rfl
  · rw [if_neg h, List.getElem?_eq_none (by omega)]; rfl
theorem atI_lit {α : Type} {l : List α} {n : Nat} : atI l (OfNat.ofNat n : Int) = l[n]? := atI_n
@[simp] theorem atI_0 {α : Type} {l : List α} : atI l 0 = l[0]? := atI_n (n := 0)
@[simp] theorem atI_1 {α : Type} {l : List α} : atI l 1 = l[1]? := atI_n (n := 1)
@[simp] theorem atI_2 {α : Type} {l : List α} : atI l 2 = l[2]? := atI_n (n := 2)
@[simp] theorem atI_3 {α : Type} {l : List α} : atI l 3 = l[3]? := atI_n (n := 3)
@[simp] theorem atI_4 {α : Type} {l : List α} : atI l 4 = l[4]? := atI_n (n := 4)
@[simp] theorem atI_5 {α : Type} {l : List α} : atI l 5 = l[5]? := atI_n (n := 5)
theorem atI_i {α : Type} {l : List α} {i : Int} (h : 0 ≤ i) : atI l i = l[i.toNat]? := by
  rw [← atI_n (l := l) (n := i.toNat), Int.toNat_of_nonneg h]
theorem ixN_n {n m : Nat} : ixN n ((m : Nat) : Int) = if m < n then some m else none := by
  unfold ixN
  rw [if_pos (Int.natCast_nonneg m)]
  by_cases h : m < n
  · rw [if_pos h, if_pos (by omega)]; rfl
  · rw [if_neg h, if_neg (by omega)]
@[simp] theorem ixN_0 {n : Nat} : ixN n 0 = if 0 < n then some 0 else none := ixN_n (m := 0)
@[simp] theorem ixN_1 {n : Nat} : ixN n 1 = if 1 < n then some 1 else none := ixN_n (m := 1)
@[simp] theorem ixN_2 {n : Nat} : ixN n 2 = if 2 < n then some 2 else none := ixN_n (m := 2)
@[simp] theorem f2I_eq {C : Int → Int → Bool} {g : Int → Int → D} {i j : Int} : f2I C g (.fz (.int i)) (.fz (.int j)) st = if C i j = true then .ok (.fz (g i j)) st else .no := (rfl)
@[simp] theorem f1I_eq {g : Int → D} {i : Int} : f1I g (.fz (.int i)) st = .ok (.fz (g i)) st := (rfl)
@[simp] theorem fIxL_eq {x : W} {i : Int} : fIxL x (.fz (.int i)) st = match seqR st x with
  | some l => match atI l i with
    | some d => .ok (.fz d) st
    | none => .no
  | none => .no := by unfold fIxL; cases seqR st x <;> rfl
@[simp] theorem fIxT_eq {l : List D} {i : Int} : fIxT (.fz (.tuple l)) (.fz (.int i)) st = match atI l i with
    | some d => .ok (.fz d) st
    | none => .no := (rfl)
@[simp] theorem fIxS_eq {z : Str} {i : Int} : fIxS (.fz (.str z)) (.fz (.int i)) st = if z.length ≤ sizeLine then match atI z.cps.toList i with
    | some c => .ok (.fz (.str ⟨#[c]⟩)) st
    | none => .no
    else .no := (rfl)
@[simp] theorem fDivm_eq {i j : Int} : fDivm (.fz (.int i)) (.fz (.int j)) st = if 0 < j ∧ j.natAbs.log2 < 9000 then .ok (.fz (.tuple [.int (i / j), .int (i % j)])) st else .no := (rfl)
theorem fSetL_eq {n : Nat} {k : Int} {w : W} {l : List D} {d : D} (h : st[n]? = some (.lst l)) (e : datW w = some d) : fSetL (.loc n) (.fz (.int k)) w st = match ixN l.length k with
    | some j => some (st.set n (.lst (l.set j d)))
    | none => none := by unfold fSetL; rw [e]; simp only [intW_fz]; rw [h] <;> rfl
@[simp] theorem dCall_eq {n : Nat} {F : Fd} {ds : List W} {x : DnA} : dCall n F ds x en st = (x en st).bind fun ws st1 => if (ws.map frz ++ ds).length = n then F (ws.map frz ++ ds) st1 else .no := (rfl)
@[simp] theorem take_set_of {α : Type} {l : List α} {n k : Nat} {x : α} (h : k = l.length) : (l.set n x).take k = l.set n x := by rw [List.take_of_length_le (by rw [List.length_set]; omega)]
end
end QD
/-! QO: objects: fields, making, properties, methods; texts put together. -/
namespace QD
open PySem PySem.Spec PyProof.Rows L2 MG LT
section
variable {cf : Cf} {E : XK} {m m1 : Mo} {st : Sto} {v u : V} {w x : W}
/-! ### fields -/
/-- the field f of an object of the class c, whose frozen objects have the fields ns -/
def fldW (c : Nat) (ns : List Str) (f : Str) (st : Sto) : W → Option D
  | .fz (.dict [(.int k, .tuple ds)]) => if k = c ∧ ns.length = ds.length then (ns.zip ds).lookup f else none
  | .loc n => match st[n]? with
    | some (.ins k fs) => if k = c then fs.lookup f else none
    | _ => none
  | _ => none
theorem SvA.lookup {vs : List (Str × V)} {fs : List (Str × D)} {f : Str} {d : D} (h : SvA cf.K cf.ct m vs fs) (e : fs.lookup f = some d) : ∃ v, vs.lookup f = some v ∧ Fz cf.K cf.ct m v d := by
  have h' : Paired (fun (p : Str × V) (q : Str × D) => p.1 = q.1 ∧ Fz cf.K cf.ct m p.2 q.2) vs fs := h
  clear h
  induction h' with
  | nil => cases e
  | @cons a b as bs r t ih =>
    obtain ⟨x, y⟩ := a
    obtain ⟨x', y'⟩ := b
    obtain ⟨e1, r⟩ := r
    dsimp only at e1 r
    subst e1
    rw [List.lookup_cons] at e ⊢
    cases c : f == x with
    | true =>
      rw [c] at e
      cases e
      exact ⟨y, rfl, r⟩
    | false =>
      rw [c] at e
      exact ih e
theorem zip_lookup : ∀ {ns : List Str} {xs : List V} {ds : List D} {f : Str} {d : D}, FzA cf.K cf.ct m xs ds → (ns.zip ds).lookup f = some d → ∃ v, (ns.zip xs).lookup f = some v ∧ Fz cf.K cf.ct m v d
  | [], _, _, _, _, _, e => by cases e
  | n :: ns, _, _, _, _, .nil, e => by cases e
  | n :: ns, _, _, f, _, .cons a b, e => by
    rw [List.zip_cons_cons, List.lookup_cons] at e ⊢
    cases c : f == n with
    | true =>
      rw [c] at e
      cases e
      exact ⟨_, rfl, a⟩
    | false =>
      rw [c] at e
      exact zip_lookup b e
theorem fldW_ok {c : Nat} {C : Addr} {ns : List Str} {f : Str} {d : D} (hc : cf.ct c = some (C, ns)) (S : SR cf.K cf.ct m st) (r : WR cf.K cf.ct m v w) (e : fldW c ns f st w = some d) :
    ∃ a dx fs y, v = .ref a ∧ m.hp a = some (.ins C dx fs) ∧ fs.lookup f = some y ∧ Fz cf.K cf.ct m y d := by
  unfold fldW at e
  split at e
  case h_1 k ds =>
    split at e
    case isTrue h =>
      cases r with
      | @ob a C' dx c' ns' xs _ h1 h2 h3 h4 h5 h6 =>
        have hk : c' = c := by have := h.1; omega
        subst hk
        rw [hc] at h1
        cases h1
        obtain ⟨y, hy, fy⟩ := zip_lookup h6 e
        exact ⟨a, dx, _, y, rfl, h4, hy, fy⟩
    case isFalse => cases e
  case h_2 n =>
    obtain ⟨a, rfl, ha⟩ := r
    obtain ⟨o, ho, u, eu, hb⟩ := S.get ha
    rw [ho] at e
    cases o with
    | lst l => cases e
    | dk l => cases e
    | ins k fs =>
      dsimp only at e
      split at e
      case isTrue h =>
        subst h
        obtain ⟨C', dx, ns', vs, rfl, h1, h2⟩ := hb.ins_of
        rw [hc] at h1
        cases h1
        obtain ⟨y, hy, fy⟩ := h2.lookup e
        exact ⟨a, dx, vs, y, rfl, eu, hy, fy⟩
      case isFalse => cases e
  case h_3 => cases e
def dFld (c : Nat) (ns : List Str) (f : Str) (a : Dn) : Dn := fun en st => (a en st).bind fun x st1 => match fldW c ns f st1 x with
  | some d => .ok (.fz d) st1
  | none => .no
theorem ev_fld {c : Nat} {C : Addr} {ns : List Str} {f : Str} {t : TE} {a : Dn} (hc : cf.ct c = some (C, ns)) (cl : Cls cf.K C) (na : NoAttr cf.K C f) (ha : Ev cf E t a) : Ev cf E (tFld cf.K t f) (dFld c ns f a) := fun m σ en st Q er S h => by
  refine ha m σ en st _ er S ?_
  unfold dFld at h
  cases e : a en st with
  | ex c p st1 => rw [e] at h; exact h
  | no => rw [e] at h; exact h
  | ok x st1 =>
    rw [e, Rt.bind_ok] at h
    intro v m1 r1
    cases e2 : fldW c ns f st1 x with
    | none => rw [e2] at h; exact h.elim
    | some d =>
      rw [e2] at h
      obtain ⟨b, dx, fs, y, rfl, hb, hy, fy⟩ := fldW_ok hc r1.sr r1.wr e2
      exact ⟨b, C, dx, fs, y, rfl, hb, cl, na, hy, h y m1 (.fz r1.stp r1.sr fy)⟩
def putD (f : Str) (d : D) : List (Str × D) → List (Str × D)
  | [] => [(f, d)]
  | (g, x) :: r => if g = f then (g, d) :: r else (g, x) :: putD f d r
theorem SvA.put {vs : List (Str × V)} {fs : List (Str × D)} {f : Str} {d : D} {y : V} (h : SvA cf.K cf.ct m vs fs) (fy : Fz cf.K cf.ct m y d) : SvA cf.K cf.ct m (putF f y vs) (putD f d fs) := by
  have h' : Paired (fun (p : Str × V) (q : Str × D) => p.1 = q.1 ∧ Fz cf.K cf.ct m p.2 q.2) vs fs := h
  clear h
  induction h' with
  | nil => exact .cons ⟨rfl, fy⟩ .nil
  | @cons a b as bs r t ih =>
    obtain ⟨x, z⟩ := a
    obtain ⟨x', z'⟩ := b
    obtain ⟨e1, r⟩ := r
    dsimp only at e1 r
    subst e1
    unfold putF putD
    by_cases c : x = f
    · rw [if_pos c, if_pos c]; exact .cons ⟨rfl, fy⟩ t
    · rw [if_neg c, if_neg c]; exact .cons ⟨rfl, r⟩ ih
theorem SvA.length {vs : List (Str × V)} {fs : List (Str × D)} (h : SvA cf.K cf.ct m vs fs) : vs.length = fs.length := Paired.len h
def sFldD (c : Nat) (f : Str) (a b : Dn) : DnS := fun en st => sBind (b en st) fun y st1 => sBind (a en st1) fun x st2 => match x, datW y with
  | .loc n, some d => match st2[n]? with
    | some (.ins k fs) => if k = c ∧ fs.length < 1000 then .go en (st2.set n (.ins k (putD f d fs))) else .no
    | _ => .no
  | _, _ => .no
theorem es_fld {c : Nat} {C : Addr} {ns : List Str} {f : Str} {ta tv : TE} {a b : Dn} (hc : cf.ct c = some (C, ns)) (cl : Cls cf.K C) (na : NoAttr cf.K C f) (ha : Ev cf E ta a) (hb : Ev cf E tv b) : Es cf E (sFld cf.K ta tv f) (sFldD c f a b) := fun m σ en st D er S h => by
  refine hb m σ en st _ er S ?_
  unfold sFldD at h
  cases e : b en st with
  | ex c p st1 => rw [e] at h; exact h
  | no => rw [e] at h; exact h
  | ok y st1 =>
    rw [e, sBind_ok] at h
    intro v m1 r1
    refine ha m1 σ en st1 _ (er.to r1.stp) r1.sr ?_
    cases e2 : a en st1 with
    | ex c p st2 => rw [e2] at h; exact Xe.pre r1.stp h
    | no => rw [e2] at h; exact h
    | ok x st2 =>
      rw [e2, sBind_ok] at h
      intro u m2 r2
      cases x with
      | fz _ => exact h.elim
      | own _ => exact h.elim
      | nst _ => exact h.elim
      | loc n =>
        cases e3 : datW y with
        | none => rw [e3] at h; exact h.elim
        | some d =>
          rw [e3] at h
          dsimp only at h
          obtain ⟨b', rfl, hb'⟩ := r2.wr
          obtain ⟨o, ho, u', eu, hr⟩ := r2.sr.get hb'
          rw [ho] at h
          cases o with
          | lst l => exact h.elim
          | dk l => exact h.elim
          | ins k fs =>
            dsimp only at h
            split at h
            case isFalse => exact h.elim
            case isTrue hk =>
              obtain ⟨rfl, hl⟩ := hk
              obtain ⟨C', dx, ns', vs, rfl, h1, h2⟩ := hr.ins_of
              have h1' := h1
              rw [hc] at h1'
              cases h1'
              refine ⟨b', C, dx, vs, rfl, eu, cl, na, by rw [h2.length]; exact hl, ?_⟩
              have fy := dat_ok (r1.wr.to r2.stp) e3
              have s3 := Stp.chg (m := m2) (u := .ins C dx (putF f v vs)) hb'
              have h3 : SvA cf.K cf.ct (m2.to (upd m2.hp b' (.ins C dx (putF f v vs)))) (putF f v vs) (putD f d fs) := Paired.mapP (h2.put fy) fun p q z => ⟨z.1, z.2.to s3⟩
              exact h σ _ ((r1.stp.trans r2.stp).trans s3) (er.to ((r1.stp.trans r2.stp).trans s3)) (r2.sr.set hb' ⟨_, upd_same, ⟨_, hc⟩, h3⟩)
/-! ### making -/
/-- an object that never changes: its fields must be ns in order -/
def frzOb (c : Nat) (ns : List Str) (n : Nat) (st : Sto) : Option (W × Sto) := match st[n]? with
  | some (.ins k fs) => if k = c ∧ fs.map (·.1) = ns then some (.fz (obD c (fs.map (·.2))), st.take n) else none
  | _ => none
/-- an object that changes -/
def locOb (n : Nat) (st : Sto) : Option (W × Sto) := some (.loc n, st)
def dMake (n c : Nat) (fin : Nat → Sto → Option (W × Sto)) (F : Fd) (ds : List W) (a : DnA) : Dn := fun en st => (a en st).bind fun ws st1 =>
  if (ws.map frz ++ ds).length + 1 = n then (F (.loc st1.length :: (ws.map frz ++ ds)) (st1 ++ [.ins c []])).bind fun r st2 => if noneW r = true ∧ st2.length = st1.length + 1 then match fin st1.length st2 with
    | some (w, st3) => .ok w st3
    | none => .no
    else .no
  else .no
def FinOk (cf : Cf) (c : Nat) (fin : Nat → Sto → Option (W × Sto)) : Prop := ∀ (m1 m' : Mo) (st' st3 : Sto) (n : Nat) (x : Addr) (w : W), Stp m1 m' → x ∉ m1.rh → m1.hp x = none → n = m1.rh.length → m'.rh = m1.rh ++ [x] → SR cf.K cf.ct m' st' → fin n st' = some (w, st3) → ∃ m2, m2.hp = m'.hp ∧ Rs cf.K cf.ct m1 m2 st3 (.ref x) w
theorem fin_loc {c : Nat} : FinOk cf c locOb := fun m1 m' st' st3 n x w s nx hx hn hr S e => by
  cases e
  refine ⟨m', rfl, .loc s S ?_⟩
  rw [hr, hn, List.getElem?_append_right (Nat.le_refl _), Nat.sub_self]
  rfl
theorem SvA.zip {ns : List Str} : ∀ {vs : List (Str × V)} {fs : List (Str × D)}, Paired (fun (p : Str × V) (q : Str × D) => p.1 = q.1 ∧ Fz cf.K cf.ct m p.2 q.2) vs fs → fs.map (·.1) = ns → vs = ns.zip (vs.map (·.2)) ∧ ns.length = (vs.map (·.2)).length ∧ FzA cf.K cf.ct m (vs.map (·.2)) (fs.map (·.2))
  | _, _, .nil, e => by cases e; exact ⟨rfl, rfl, .nil⟩
  | _, _, .cons (a := a) (b := b) r t, e => by
    cases ns with
    | nil => cases e
    | cons n ns =>
      rw [List.map_cons] at e
      injection e with e1 e2
      obtain ⟨h1, h2, h3⟩ := SvA.zip t e2
      refine ⟨?_, ?_, .cons r.2 h3⟩
      · rw [List.map_cons, List.zip_cons_cons, ← h1, ← e1, ← r.1]
      · rw [List.map_cons, List.length_cons, List.length_cons, h2]
theorem fin_frz {c : Nat} {C : Addr} {ns : List Str} (hc : cf.ct c = some (C, ns)) : FinOk cf c (frzOb c ns) := fun m1 m' st' st3 n x w s nx hx hn hr S e => by
  unfold frzOb at e
  have hx' : m'.rh[n]? = some x := by
    rw [hr, hn, List.getElem?_append_right (Nat.le_refl _), Nat.sub_self]
    rfl
  obtain ⟨o, ho, u, eu, hb⟩ := S.get hx'
  rw [ho] at e
  cases o with
  | lst l => cases e
  | dk l => cases e
  | ins k fs =>
    dsimp only at e
    split at e
    case isFalse => cases e
    case isTrue h =>
      cases e
      obtain ⟨rfl, h2⟩ := h
      obtain ⟨C', dx, ns', vs, rfl, h3, h4⟩ := hb.ins_of
      rw [hc] at h3
      cases h3
      obtain ⟨z1, z2, z3⟩ := SvA.zip h4 h2
      refine ⟨m'.cut m1, rfl, .fz s.cut (S.cut s hn) ?_⟩
      refine .ob hc nx (fun z => S.dj x z (List.mem_of_getElem? hx')) (by rw [← z1]; exact eu) z2 (z3.avo (cut_out s) rfl)
theorem ev_make {n c : Nat} {C : Addr} {ns : List Str} {fin : Nat → Sto → Option (W × Sto)} {F : Fd} {dvs : List V} {ds : List W} {t : TA} {a : DnA} (hc : cf.ct c = some (C, ns)) (hf : FinOk cf c fin) (hd : ∀ m, WRs cf m dvs ds ∧ ∀ w ∈ ds, w.stays) (ha : Ea cf E t a) :
    Ev cf E (tMake C (spD cf n F) dvs E t) (dMake n c fin F ds a) := fun m σ en st Q er S h => by
  refine ha m σ en st _ er S ?_
  unfold dMake at h
  cases e : a en st with
  | ex c p st1 => rw [e] at h; exact h
  | no => rw [e] at h; exact h
  | ok ws st1 =>
    rw [e, Rt.bind_ok] at h
    intro vs m1 s1 S1 r1 x dx hx hdx hne
    split at h
    case isFalse => exact h.elim
    case isTrue hl =>
      obtain ⟨r, kp⟩ := r1.frz
      obtain ⟨r', kp'⟩ := hd m1
      have nx : x ∉ m1.rh := S1.out hx
      have nbx : ¬ m1.be x := fun z => S1.bl x z hx
      let H2 := upd (upd m1.hp dx (.own x)) x (.ins C dx [])
      let mB : Mo := ⟨m1.be, m1.rh ++ [x], H2⟩
      have sH : Same m1.hp H2 := (sameNew hdx).trans (sameNew ((upd_ne (Ne.symm hne)).trans hx))
      have sB : Stp m1 mB := ⟨fun _ h => h, fun _ h => .inl h, ⟨[x], rfl, fun b hb => by rw [List.mem_singleton] at hb; subst hb; exact ⟨nx, hx⟩⟩, fun b o _ e => sH b o e⟩
      have SB : SR cf.K cf.ct mB (st1 ++ [.ins c []]) := by
        refine ⟨by show (m1.rh ++ [x]).length = _; rw [List.length_append, List.length_append, S1.len]; rfl, ?_, fun b h => ?_, fun b h z => ?_, fun i b o h1 h2 => ?_⟩
        · show (m1.rh ++ [x]).Nodup
          rw [List.nodup_append]
          exact ⟨S1.nd, by simp, fun y hy z hz e => by rw [List.mem_singleton] at hz; exact nx (by rw [← hz, ← e]; exact hy)⟩
        · cases q : m1.hp b with
          | none => exact absurd q (S1.bl b h)
          | some o => exact some_ne (sH _ _ q)
        · rcases List.mem_append.mp (show b ∈ m1.rh ++ [x] from z) with z | z
          · exact S1.dj b h z
          · rw [List.mem_singleton] at z; subst z; exact nbx h
        · have h1' : (m1.rh ++ [x])[i]? = some b := h1
          by_cases q : i < m1.rh.length
          · rw [List.getElem?_append_left q] at h1'
            rw [List.getElem?_append_left (by rw [← S1.len]; exact q)] at h2
            have ro := S1.ob i b o h1' h2
            refine ro.kept sB ?_
            cases q2 : m1.hp b with
            | none => exact absurd q2 ro.live
            | some u => exact sH _ _ q2
          · rw [List.getElem?_append_right (by omega)] at h1'
            rw [List.getElem?_append_right (by rw [← S1.len]; omega)] at h2
            have e0 : i - m1.rh.length = 0 := by
              have := (List.getElem?_eq_some_iff.mp h1').1
              simp at this
              omega
            have e1 : i - st1.length = 0 := by rw [← S1.len]; exact e0
            rw [e0] at h1'
            rw [e1] at h2
            cases h1'
            cases h2
            exact ⟨_, upd_same, ⟨_, hc⟩, .nil⟩
      have hn : m1.rh.length = st1.length := S1.len
      have rx : WR cf.K cf.ct mB (.ref x) (.loc st1.length) := ⟨x, rfl, by
        show (m1.rh ++ [x])[st1.length]? = some x
        rw [← hn, List.getElem?_append_right (Nat.le_refl _), Nat.sub_self]; rfl⟩
      refine ⟨mB, st1 ++ [.ins c []], .loc st1.length :: (ws.map frz ++ ds), rfl, .cons rx ((r.append r').to sB), fun w hw => ?_, SB, hl, ?_⟩
      · rcases List.mem_cons.mp hw with rfl | hw
        · trivial
        · exact (List.mem_append.mp hw).elim (kp w) (kp' w)
      · have s2 := s1.trans sB
        cases e2 : F (.loc st1.length :: (ws.map frz ++ ds)) (st1 ++ [.ins c []]) with
        | ex c p st2 => rw [e2] at h; exact Xe.pre s2 h
        | no => rw [e2] at h; exact h
        | ok rr st2 =>
          rw [e2, Rt.bind_ok] at h
          intro v m2 r2
          split at h
          case isFalse => exact h.elim
          case isTrue hq =>
            refine ⟨of_decide_eq_true ((noneW_ok r2.wr).trans hq.1), ?_⟩
            cases e3 : fin st1.length st2 with
            | none => rw [e3] at h; exact h.elim
            | some p =>
              obtain ⟨w', st3⟩ := p
              rw [e3] at h
              have hr2 : m2.rh = m1.rh ++ [x] := by
                obtain ⟨ex, e4, _⟩ := r2.stp.ext
                have l2 := r2.sr.len
                rw [e4, List.length_append] at l2
                have : (m1.rh ++ [x]).length = st1.length + 1 := by rw [List.length_append, hn]; rfl
                have l3 : ex.length = 0 := by
                  have e5 : mB.rh.length = st1.length + 1 := this
                  omega
                rw [e4, List.length_eq_zero_iff.mp l3, List.append_nil]
              obtain ⟨m3, hm3, r3⟩ := hf m1 m2 st2 st3 st1.length x w' (sB.trans r2.stp) nx hx hn.symm hr2 r2.sr e3
              have := h (.ref x) m3 (r3.pre s1)
              rw [hm3] at this
              exact this
end
end QD
/-! QP: properties, methods, calls by keywords, texts put together. -/
namespace QD
open PySem PySem.Spec PyProof.Rows L2 MG LT
section
variable {cf : Cf} {E : XK} {m m1 : Mo} {st : Sto} {v u : V} {w x : W}
/-- the names of the fields of an object of the class c -/
def obW (c : Nat) (ns : List Str) (st : Sto) : W → Option (List Str)
  | .fz (.dict [(.int k, .tuple ds)]) => if k = c ∧ ns.length = ds.length then some ns else none
  | .loc n => match st[n]? with
    | some (.ins k fs) => if k = c then some (fs.map (·.1)) else none
    | _ => none
  | _ => none
theorem zip_names : ∀ {ns : List Str} {xs : List V}, ns.length = xs.length → (ns.zip xs).map (·.1) = ns
  | [], _, _ => rfl
  | n :: ns, [], h => by simp at h
  | n :: ns, x :: xs, h => by rw [List.zip_cons_cons, List.map_cons, zip_names (by simpa using h)]
theorem SvA.names {vs : List (Str × V)} {fs : List (Str × D)} (h : SvA cf.K cf.ct m vs fs) : vs.map (·.1) = fs.map (·.1) := by
  have h' : Paired (fun (p : Str × V) (q : Str × D) => p.1 = q.1 ∧ Fz cf.K cf.ct m p.2 q.2) vs fs := h
  clear h
  induction h' with
  | nil => rfl
  | cons r t ih => rw [List.map_cons, List.map_cons, ih, r.1]
theorem obW_ok {c : Nat} {C : Addr} {ns l : List Str} (hc : cf.ct c = some (C, ns)) (S : SR cf.K cf.ct m st) (r : WR cf.K cf.ct m v w) (e : obW c ns st w = some l) :
    ∃ a dx fs, v = .ref a ∧ m.hp a = some (.ins C dx fs) ∧ fs.map (·.1) = l := by
  unfold obW at e
  split at e
  case h_1 k ds =>
    split at e
    case isTrue h =>
      cases e
      cases r with
      | @ob a C' dx c' ns' xs _ h1 h2 h3 h4 h5 h6 =>
        have hk : c' = c := by have := h.1; omega
        subst hk
        rw [hc] at h1
        cases h1
        exact ⟨a, dx, _, rfl, h4, zip_names h5⟩
    case isFalse => cases e
  case h_2 n =>
    obtain ⟨a, rfl, ha⟩ := r
    obtain ⟨o, ho, u, eu, hb⟩ := S.get ha
    rw [ho] at e
    cases o with
    | lst l => cases e
    | dk l => cases e
    | ins k fs =>
      dsimp only at e
      split at e
      case isTrue h =>
        cases e
        subst h
        obtain ⟨C', dx, ns', vs, rfl, h1, h2⟩ := hb.ins_of
        rw [hc] at h1
        cases h1
        exact ⟨a, dx, vs, rfl, eu, h2.names⟩
      case isFalse => cases e
  case h_3 => cases e
theorem lookup_none {α : Type} : ∀ {fs : List (Str × α)} {f : Str}, (fs.map (·.1)).contains f = false → fs.lookup f = none
  | [], _, _ => rfl
  | (g, x) :: fs, f, h => by
    rw [List.map_cons, List.contains_cons, Bool.or_eq_false_iff] at h
    rw [List.lookup_cons, h.1]
    exact lookup_none h.2
/-- a property -/
def dProp (c : Nat) (ns : List Str) (F : Fd) (a : Dn) : Dn := fun en st => (a en st).bind fun x st1 => match obW c ns st1 x with
  | some _ => F [x] st1
  | none => .no
theorem ob_stays {c : Nat} {ns l : List Str} (e : obW c ns st w = some l) : w.stays := by
  cases w with
  | own _ => cases e
  | _ => trivial
theorem ev_prop {c : Nat} {C : Addr} {ns : List Str} {F : Fd} {t : TE} {a : Dn} (hc : cf.ct c = some (C, ns)) (ha : Ev cf E t a) : Ev cf E (tProp C (spD cf 1 F) [] E t) (dProp c ns F a) := fun m σ en st Q er S h => by
  refine ha m σ en st _ er S ?_
  unfold dProp at h
  cases e : a en st with
  | ex c p st1 => rw [e] at h; exact h
  | no => rw [e] at h; exact h
  | ok x st1 =>
    rw [e, Rt.bind_ok] at h
    intro v m1 r1
    cases e2 : obW c ns st1 x with
    | none => rw [e2] at h; exact h.elim
    | some l =>
      rw [e2] at h
      obtain ⟨b, dx, fs, rfl, hb, _⟩ := obW_ok hc r1.sr r1.wr e2
      exact ⟨b, dx, fs, rfl, hb, m1, st1, [x], rfl, .cons r1.wr .nil, fun w hw => by rw [List.mem_singleton] at hw; subst hw; exact ob_stays e2, r1.sr, rfl, Pe.pre r1.stp h⟩
/-- a method -/
def dMeth (c : Nat) (ns : List Str) (f : Str) (n : Nat) (F : Fd) (ds : List W) (a : Dn) (b : DnA) : Dn := fun en st => (a en st).bind fun x st1 => match obW c ns st1 x with
  | some l => if l.contains f = false then (b en st1).bind fun ws st2 => if (ws.map frz ++ ds).length + 1 = n then F (x :: (ws.map frz ++ ds)) st2 else .no else .no
  | none => .no
theorem ev_meth {c n : Nat} {C : Addr} {ns : List Str} {f : Str} {F : Fd} {dvs : List V} {ds : List W} {ta : TE} {t : TA} {a : Dn} {b : DnA} (hc : cf.ct c = some (C, ns)) (hd : ∀ m, WRs cf m dvs ds ∧ ∀ w ∈ ds, w.stays) (ha : Ev cf E ta a) (hb : Ea cf E t b) :
    Ev cf E (tMeth C f (spD cf n F) dvs E ta t) (dMeth c ns f n F ds a b) := fun m σ en st Q er S h => by
  refine ha m σ en st _ er S ?_
  unfold dMeth at h
  cases e : a en st with
  | ex c p st1 => rw [e] at h; exact h
  | no => rw [e] at h; exact h
  | ok x st1 =>
    rw [e, Rt.bind_ok] at h
    intro v m1 r1
    cases e2 : obW c ns st1 x with
    | none => rw [e2] at h; exact h.elim
    | some l =>
      rw [e2] at h
      dsimp only at h
      split at h
      case isFalse => exact h.elim
      case isTrue hl =>
        obtain ⟨q, dx, fs, rfl, hq, hn⟩ := obW_ok hc r1.sr r1.wr e2
        refine ⟨q, dx, fs, rfl, hq, lookup_none (by rw [hn]; exact hl), ?_⟩
        refine hb m1 σ en st1 _ (er.to r1.stp) r1.sr ?_
        cases e3 : b en st1 with
        | ex c p st2 => rw [e3] at h; exact Xe.pre r1.stp h
        | no => rw [e3] at h; exact h
        | ok ws st2 =>
          rw [e3, Rt.bind_ok] at h
          intro vs m2 s2 S2 r2
          split at h
          case isFalse => exact h.elim
          case isTrue c =>
            obtain ⟨r, k⟩ := r2.frz
            obtain ⟨r', k'⟩ := hd m2
            refine ⟨m2, st2, x :: (ws.map frz ++ ds), rfl, .cons (r1.wr.to s2) (r.append r'), fun w hw => ?_, S2, c, Pe.pre (r1.stp.trans s2) h⟩
            rcases List.mem_cons.mp hw with rfl | hw
            · exact ob_stays e2
            · exact (List.mem_append.mp hw).elim (k w) (k' w)
/-! ### calls by keywords alone -/
def gP {α : Type} (π : List Nat) (us ws : List α) : List α := us ++ π.filterMap fun i => ws[i]?
theorem gP_rel {π : List Nat} {vs : List V} {us : List Value} {zs : List V} {ws : List Value} (h : Vals vs us) (h' : Vals zs ws) : Vals (gP π vs zs) (gP π us ws) := by
  unfold gP
  refine h.append ?_
  induction π with
  | nil => exact .nil
  | cons i π ih =>
    rw [List.filterMap_cons, List.filterMap_cons]
    cases e : zs[i]? with
    | none => rw [h'.none_of e]; exact ih
    | some x =>
      obtain ⟨u, e2, r⟩ := h'.get e
      rw [e2]
      exact .cons r ih
def dCallK (n k : Nat) (π : List Nat) (F : Fd) (a : DnA) : Dn := fun en st => (a en st).bind fun ws st1 => if ws.length = k ∧ (gP π [] (ws.map frz)).length = n then F (gP π [] (ws.map frz)) st1 else .no
theorem gP_WRs {π : List Nat} {vs : List V} {ws : List W} (h : WRs cf m vs ws) (k : ∀ w ∈ ws, w.stays) : WRs cf m (gP π [] vs) (gP π [] ws) ∧ ∀ w ∈ gP π [] ws, w.stays := by
  unfold gP
  rw [List.nil_append, List.nil_append]
  induction π with
  | nil => exact ⟨.nil, fun _ h => nomatch h⟩
  | cons i π ih =>
    rw [List.filterMap_cons, List.filterMap_cons]
    cases e : ws[i]? with
    | none =>
      have : vs[i]? = none := by
        rw [List.getElem?_eq_none_iff] at e ⊢
        rw [h.length]; exact e
      rw [this]; exact ih
    | some x =>
      obtain ⟨u, e2, r⟩ := h.get e
      rw [e2]
      refine ⟨.cons r ih.1, fun w hw => ?_⟩
      rcases List.mem_cons.mp hw with rfl | hw
      · exact k _ (List.mem_of_getElem? e)
      · exact ih.2 w hw
theorem ev_callK {n k : Nat} {π : List Nat} {F : Fd} {ks : List Str} {t : TA} {a : DnA} (hk : ks.length = k) (ha : Ea cf E t a) : Ev cf E (fun σ H Q => t σ H fun zs H2 => zs.length = ks.length ∧ spD cf n F (gP π [] zs) H2 Q E) (dCallK n k π F a) := fun m σ en st Q er S h => by
  refine ha m σ en st _ er S ?_
  unfold dCallK at h
  cases e : a en st with
  | ex c p st1 => rw [e] at h; exact h
  | no => rw [e] at h; exact h
  | ok x st1 =>
    rw [e, Rt.bind_ok] at h
    intro vs m1 s1 S1 r1
    split at h
    case isFalse => exact h.elim
    case isTrue c =>
      obtain ⟨r, kp⟩ := r1.frz
      obtain ⟨r2, k2⟩ := gP_WRs (π := π) r kp
      exact ⟨by rw [r1.length, c.1, hk], m1, st1, _, rfl, r2, k2, S1, c.2, Pe.pre s1 h⟩
/-! ### texts put together -/
inductive Ejs (cf : Cf) (E : XK) : List TE → List Dn → Prop
  | nil : Ejs cf E [] []
  | cons {t ts d ds} : Ev cf E t d → Ejs cf E ts ds → Ejs cf E (t :: ts) (d :: ds)
def dFmt (a : Dn) : Dn := fun en st => (a en st).bind fun x st1 => match x with
  | .fz (.str y) => if y.length ≤ sizeLine then .ok (.fz (.str y)) st1 else .no
  | .fz (.int i) => if i.natAbs.log2 < 1920 then .ok (.fz (.str (toString i : String))) st1 else .no
  | _ => .no
theorem ev_fmt {t : TE} {a : Dn} (ha : Ev cf E t a) : Ev cf E (tFmt t) (dFmt a) := fun m σ en st Q er S h => by
  refine ha m σ en st _ er S ?_
  unfold dFmt at h
  cases e : a en st with
  | ex c p st1 => rw [e] at h; exact h
  | no => rw [e] at h; exact h
  | ok x st1 =>
    rw [e, Rt.bind_ok] at h
    intro v m1 r1
    cases x with
    | own _ => exact h.elim
    | nst _ => exact h.elim
    | loc _ => exact h.elim
    | fz d =>
      cases d with
      | str y =>
        dsimp only at h
        split at h
        case isTrue c => cases r1.wr; exact .inl ⟨y, rfl, c, h _ m1 (.fz r1.stp r1.sr (.str y))⟩
        case isFalse => exact h.elim
      | int i =>
        dsimp only at h
        split at h
        case isTrue c => cases r1.wr; exact .inr ⟨i, rfl, c, h _ m1 (.fz r1.stp r1.sr (.str _))⟩
        case isFalse => exact h.elim
      | _ => exact h.elim
def jsD : List Dn → Str → Dn
  | [], acc, _, st => .ok (.fz (.str acc)) st
  | d :: ds, acc, en, st => (d en st).bind fun x st1 => match strW x with
    | some y => if (acc ++ y).length ≤ sizeLine then jsD ds (acc ++ y) en st1 else .no
    | none => .no
theorem ejs_ok {ts : List TE} {ds : List Dn} (h : Ejs cf E ts ds) : ∀ (acc : Str) m σ en st (Q : VK), ER cf.K cf.ct m σ en → SR cf.K cf.ct m st → Pe cf E m Q (jsD ds acc en st) → tJs ts acc σ m.hp fun out H1 => Q (.str out) H1 := by
  induction h with
  | nil => exact fun acc m σ en st Q er S q => q _ m (.fz Stp.refl S (.str acc))
  | @cons t ts d ds hd _ ih =>
    intro acc m σ en st Q er S q
    refine hd m σ en st _ er S ?_
    unfold jsD at q
    cases e : d en st with
    | ex c p st1 => rw [e] at q; exact q
    | no => rw [e] at q; exact q
    | ok x st1 =>
      rw [e, Rt.bind_ok] at q
      intro v m1 r1
      cases e2 : strW x with
      | none => rw [e2] at q; exact q.elim
      | some y =>
        rw [e2] at q
        dsimp only at q
        split at q
        case isFalse => exact q.elim
        case isTrue c => exact ⟨y, strW_ok r1.wr e2, c, ih (acc ++ y) m1 σ en st1 Q (er.to r1.stp) r1.sr (Pe.pre r1.stp q)⟩
def dJs (ds : List Dn) : Dn := jsD ds Str.empty
theorem ev_joined {ts : List TE} {ds : List Dn} (h : Ejs cf E ts ds) : Ev cf E (fun σ H Q => tJs ts Str.empty σ H fun out H1 => Q (.str out) H1) (dJs ds) := fun m σ en st Q er S q => ejs_ok h Str.empty m σ en st Q er S q
/-- sep.join(xs) -/
def strL : List D → Option (List Str)
  | [] => some []
  | .str i :: l => (strL l).map fun r => i :: r
  | _ => none
theorem strL_eq : ∀ {l : List D} {ns : List Str}, strL l = some ns → l = ns.map PyData.str
  | [], ns, e => by cases e; rfl
  | d :: l, ns, e => by
    cases d with
    | str i =>
      unfold strL at e
      cases q : strL l with
      | none => rw [q] at e; cases e
      | some r => rw [q] at e; cases e; rw [strL_eq q]; rfl
    | _ => cases e
@[simp] theorem strL_map (ns : List Str) : strL (ns.map PyData.str) = some ns := by
  induction ns with
  | nil => rfl
  | cons n ns ih => show (strL (ns.map PyData.str)).map _ = _; rw [ih]; rfl
abbrev rJoin (K : PySem.W.Frag) : V → List V → Hp → VK → Prop := fun x xs H Q => ∃ a p, ∃ ys : List Str, x = .str a ∧ xs = [.ref p] ∧ (SqL K H p (ys.map V.str) ∨ SqT K H p (ys.map V.str)) ∧
      (ys.map (·.length)).sum + ys.length * a.length ≤ 16777216 ∧ Q (.str (Txt.join a ys)) H
def dJoin (a b : Dn) : Dn := fun en st => (a en st).bind fun x st1 => match strW x with
  | some z => (b en st1).bind fun y st2 => match (anyW st2 y).bind strL with
    | some ys => if (ys.map (·.length)).sum + ys.length * z.length ≤ 16777216 then .ok (.fz (.str (Txt.join z ys))) st2 else .no
    | none => .no
  | none => .no
theorem ev_join {ta tb : TE} {a b : Dn} (ha : Ev cf E ta a) (hb : Ev cf E tb b) : Ev cf E (tM1 (rJoin cf.K) ta tb) (dJoin a b) := fun m σ en st Q er S h => by
  refine ha m σ en st _ er S ?_
  unfold dJoin at h
  cases e : a en st with
  | ex c p st1 => rw [e] at h; exact h
  | no => rw [e] at h; exact h
  | ok x st1 =>
    rw [e, Rt.bind_ok] at h
    intro v m1 r1
    cases e2 : strW x with
    | none => rw [e2] at h; exact h.elim
    | some z =>
      rw [e2] at h
      refine ⟨⟨z, strW_ok r1.wr e2⟩, ?_⟩
      refine hb m1 σ en st1 _ (er.to r1.stp) r1.sr ?_
      replace h : Pe cf E m Q ((b en st1).bind fun y st2 => match (anyW st2 y).bind strL with
        | some ys => if (ys.map (·.length)).sum + ys.length * z.length ≤ 16777216 then .ok (.fz (.str (Txt.join z ys))) st2 else .no
        | none => .no) := h
      cases e3 : b en st1 with
      | ex c p st2 => rw [e3] at h; exact Xe.pre r1.stp h
      | no => rw [e3] at h; exact h
      | ok y st2 =>
        rw [e3, Rt.bind_ok] at h
        intro u m2 r2
        cases e4 : anyW st2 y with
        | none => rw [e4] at h; exact h.elim
        | some l =>
          rw [e4, Option.bind_some] at h
          cases e5 : strL l with
          | none => rw [e5] at h; exact h.elim
          | some ys =>
            rw [e5] at h
            dsimp only at h
            split at h
            case isFalse => exact h.elim
            case isTrue c =>
              rw [strL_eq e5] at e4
              obtain ⟨p, xs, rfl, hs, f⟩ := anyW_ok r2.sr r2.wr e4
              rw [f.strs] at hs
              exact ⟨z, p, ys, strW_ok r1.wr e2, rfl, hs, c, h _ m2 (.fz (r1.stp.trans r2.stp) r2.sr (.str _))⟩
end
section
variable {X : Cx} {o e : Expr} {to te : TE} {apos pos : Pos}
theorem pe_joinK (K : PySem.W.Frag) (ho : PE X o to) (he : PE X e te) (h : X.K = K := by rfl) (hs : starEach [e] X.env = [(false, eval e X.env)] := by rfl) (hbase : attributeBase o "join" X.env (eval o X.env) = eval o X.env := by rfl) (hline : (apos.endLine == pos.line) = true := by rfl) :
    PE X (.Call (.Attribute o "join" apos) [e] [] pos) (tM1 (rJoin K) to te) := by subst h; exact pe_join ho he hs hbase hline
end
end QD
/-! zip of one to four lists and tuples -/
namespace ZM
open PySem
open PySem.Sem (wp)
abbrev IsZipF (h : Heap) (z TI TO : Addr) (f0 f1 : Value) : Prop :=
  h.get? z = some { cls := .type "zip", dict := none, data := .fields #[f0, f1, .bool false, .ref TI, .ref TO], slots := #[] }
abbrev IsTupV (h : Heap) (T : Addr) (vs : List Value) : Prop := h.get? T = some { cls := .type "tuple", data := .seq vs.toArray }
/-- by their address: tuples (true) and lists -/
def IsSq (kd : Addr → Bool) (h : Heap) (a : Addr) (items : Array Value) : Prop := if kd a = true then h.IsTuple a items else h.IsList a items
def IsIt (kd : Addr → Bool) (h : Heap) (a l : Addr) (i : Nat) : Prop := if kd l = true then h.IsTupleIter a l i else h.IsListIter a l i
theorem IsSq.at {kd : Addr → Bool} {h h' : Heap} {a : Addr} {items : Array Value} (x : IsSq kd h a items) (e : ∀ o, h.get? a = some o → h'.get? a = some o) : IsSq kd h' a items := by
  unfold IsSq at x ⊢
  split
  · rename_i c; rw [if_pos c] at x; exact Heap.IsTuple.at x e
  · rename_i c; rw [if_neg c] at x; exact Heap.IsList.at x e
theorem IsIt.at {kd : Addr → Bool} {h h' : Heap} {a l : Addr} {i : Nat} (x : IsIt kd h a l i) (e : ∀ o, h.get? a = some o → h'.get? a = some o) : IsIt kd h' a l i := by
  unfold IsIt at x ⊢
  split
  · rename_i c; rw [if_pos c] at x; exact Heap.IsTupleIter.at x e
  · rename_i c; rw [if_neg c] at x; exact Heap.IsListIter.at x e
theorem IsIt.extBut {kd : Addr → Bool} {h h' : Heap} {a b l : Addr} {i : Nat} (x : IsIt kd h a l i) (hs : Heap.ExtBut b h h') (hab : a ≠ b) : IsIt kd h' a l i := x.at fun o e => hs a o hab e
theorem IsIt.obj {kd : Addr → Bool} {h : Heap} {a l : Addr} {i : Nat} (x : IsIt kd h a l i) : ∃ o, h.get? a = some o ∧ o.data = .fields #[.ref l, .int i 0] := by
  unfold IsIt at x
  split at x
  · obtain ⟨o, e, _, d⟩ := x; exact ⟨o, e, d⟩
  · obtain ⟨o, e, _, d⟩ := x; exact ⟨o, e, d⟩
theorem IsSq.obj {kd : Addr → Bool} {h : Heap} {a : Addr} {items : Array Value} (x : IsSq kd h a items) : ∃ o, h.get? a = some o := by
  unfold IsSq at x
  split at x
  · obtain ⟨o, e, _⟩ := x; exact ⟨o, e⟩
  · obtain ⟨o, e, _⟩ := x; exact ⟨o, e⟩
theorem next_item {kd : Addr → Bool} {prog : Program} {w : World} {A : Around} {E : Value → Shared → Prop} {s : Shared} {it l : Addr} {i : Nat} {items} {x : Value} {Q : Value → Shared → Prop} (hit : IsIt kd s.heap it l i)
    (hl : IsSq kd s.heap l items) (hx : items[i]? = some x) (hQ : ∀ h', IsIt kd h' it l (i + 1) → Heap.SameBut it s.heap h' → Q x { s with heap := h' }) :
    wpAny (model prog w) A (Builtin.SmallTypes.nextOf (.ref it)) Q E s := by
  unfold IsIt at hit hQ
  unfold IsSq at hl
  by_cases c : kd l = true
  · simp only [if_pos c] at hit hl hQ; exact RZ.nextOf_tuple_item hit hl hx hQ
  · simp only [if_neg c] at hit hl hQ; exact wpAny_nextOf_list_item hit hl hx hQ
theorem next_end {kd : Addr → Bool} {prog : Program} {w : World} {A : Around} {E : Value → Shared → Prop} {s : Shared} {it l : Addr} {i : Nat} {items} {Q : Value → Shared → Prop} (hh : A.handled = none) (hit : IsIt kd s.heap it l i)
    (hl : IsSq kd s.heap l items) (hx : items[i]? = none) (hE : ∀ h' e, Heap.ExtBut it s.heap h' → (∃ o, h'.get? e = some o ∧ o.cls = .type "StopIteration") → E (.ref e) { s with heap := h' }) :
    wpAny (model prog w) A (Builtin.SmallTypes.nextOf (.ref it)) Q E s := by
  unfold IsIt at hit
  unfold IsSq at hl
  by_cases c : kd l = true
  · simp only [if_pos c] at hit hl; exact RZ.nextOf_tuple_end hh hit hl hx hE
  · simp only [if_neg c] at hit hl; exact wpAny_nextOf_list_end hh hit hl hx hE
theorem iter_seq {kd : Addr → Bool} {prog : Program} {w : World} {A : Around} {E : Value → Shared → Prop} {s : Shared} {l : Addr} {items} {Q : Value → Shared → Prop} (hl : IsSq kd s.heap l items)
    (hQ : ∀ h', h'.objs.size = s.heap.objs.size + 1 → IsIt kd h' s.heap.objs.size l 0 → (∀ c o, s.heap.get? c = some o → h'.get? c = some o) → Q (.ref s.heap.objs.size) { s with heap := h' }) :
    wpAny (model prog w) A (pyIter (.ref l)) Q E s := by
  unfold IsIt at hQ
  unfold IsSq at hl
  by_cases c : kd l = true
  · simp only [if_pos c] at hl hQ
    exact wpAny_pyIter_tuple hl (hQ _ (Heap.size_push ..) ⟨_, Heap.get?_push_size _ rfl, rfl, rfl⟩ fun c o e => Heap.get?_push_of_some _ e)
  · simp only [if_neg c] at hl hQ
    exact wpAny_pyIter_list hl (hQ _ (Heap.size_push ..) ⟨_, Heap.get?_push_size _ rfl, rfl, rfl⟩ fun c o e => Heap.get?_push_of_some _ e)
/-- the iterators (and their tuples) stand apart from the zip and its own -/
structure Apart (z TI TO : Addr) (l : List (Addr × Addr)) : Prop where
  TIz : TI ≠ z
  TOz : TO ≠ z
  TITO : TI ≠ TO
  iz : ∀ p ∈ l, p.1 ≠ z
  iTI : ∀ p ∈ l, p.1 ≠ TI
  iTO : ∀ p ∈ l, p.1 ≠ TO
  tz : ∀ p ∈ l, p.2 ≠ z
  tTO : ∀ p ∈ l, p.2 ≠ TO
  ti : ∀ p ∈ l, ∀ q ∈ l, p.2 ≠ q.1
  nd : (l.map (·.1)).Nodup
def Rows (kd : Addr → Bool) (h : Heap) (k : Nat) (l : List (Addr × Addr)) (xs : List Value) : Prop := l.length = xs.length ∧ ∀ (n : Nat) (p : Addr × Addr), l[n]? = some p → ∃ x items, xs[n]? = some x ∧ IsSq kd h p.2 items ∧ items[k]? = some x
abbrev refs (l : List (Addr × Addr)) : List Value := l.map fun p => Value.ref p.1
section
variable {kd : Addr → Bool} {prog : Program} {w : World} {A : Around} {E : Value → Shared → Prop} {s : Shared}
theorem wpAny_loadIfAlive {M : Model} {a : Addr} {Q : Option Obj → Shared → Prop} (h : Q (s.heap.get? a) s) : wpAny M A (loadIfAlive a) Q E s := fun Γ p hΓ => h
theorem wpAny_updateSeq_tup {T : Addr} {vs : List Value} {x : Value} {k : Nat} {Q : Unit → Shared → Prop} (hT : IsTupV s.heap T vs) (hl : vs.length ≤ 4)
    (h : ∀ h', IsTupV h' T (vs.set k x) → Heap.SameBut T s.heap h' → Q () { s with heap := h' }) :
    wpAny (model prog w) A (updateSeq T (·.setIfInBounds k x)) Q E s := by
  refine wpAny_updateSeq hT rfl (h _ ?_ (Heap.SameBut.update ..)) (by rw [List.size_toArray]; exact Nat.le_trans hl (by decide)) (by rw [Array.size_setIfInBounds, List.size_toArray]; exact Nat.le_trans hl (by decide))
  show Heap.get? _ _ = _
  rw [Heap.get?_update_self _ hT rfl]
  simp [Obj.mapSeq]
/-- how far a round of draws has come -/
structure St (kd : Addr → Bool) (z TI TO : Addr) (f0 f1 : Value) (l dn td : List (Addr × Addr)) (k : Nat) (ys : List Value) (h0 h : Heap) (d : Nat) : Prop where
  hz : IsZipF h z TI TO f0 f1
  hTI : IsTupV h TI (refs l)
  hTO : IsTupV h TO ys
  ly : ys.length = l.length
  hd : ∀ p ∈ dn, IsIt kd h p.1 p.2 (k + 1)
  ht : ∀ p ∈ td, IsIt kd h p.1 p.2 k
  sz : h.objs.size = h0.objs.size + d
  kp : ∀ c o, c ≠ z → c ≠ TO → (∀ p ∈ l, c ≠ p.1) → h0.get? c = some o → h.get? c = some o
/-- one draw -/
theorem St.draw {z TI TO : Addr} {f0 f1 : Value} {l dn td : List (Addr × Addr)} {p : Addr × Addr} {k : Nat} {ys : List Value} {h0 : Heap} {x : Value} {items : Array Value} {Q : Value → Shared → Prop} (D : Apart z TI TO l) (e : l = dn ++ p :: td)
    (S : St kd z TI TO f0 f1 l dn (p :: td) k ys h0 s.heap 0) (ht : IsSq kd h0 p.2 items) (hx : items[k]? = some x)
    (hQ : ∀ h', St kd z TI TO f0 f1 l (dn ++ [p]) td k ys h0 h' 0 → Q x { s with heap := h' }) : wpAny (model prog w) A (Builtin.SmallTypes.nextOf (.ref p.1)) Q E s := by
  have mp : p ∈ l := by rw [e]; simp
  have nd := D.nd
  rw [e, List.map_append, List.map_cons] at nd
  have nd2 := List.nodup_append.mp nd
  have nd3 := List.nodup_cons.mp nd2.2.1
  have ht' : IsSq kd s.heap p.2 items := ht.at fun o ho => S.kp _ _ (D.tz p mp) (D.tTO p mp) (fun q hq => D.ti p mp q hq) ho
  refine next_item (S.ht p (List.mem_cons_self ..)) ht' hx fun h' hi hs => hQ h' ?_
  refine ⟨hs.extBut _ _ (D.iz p mp).symm S.hz, hs.extBut _ _ (D.iTI p mp).symm S.hTI, hs.extBut _ _ (D.iTO p mp).symm S.hTO, S.ly, fun q hq => ?_, fun q hq => ?_, by rw [hs.1, S.sz], fun c o c1 c2 c3 hc => hs.extBut _ _ (c3 p mp) (S.kp c o c1 c2 c3 hc)⟩
  · rcases List.mem_append.mp hq with hq | hq
    · refine (S.hd q hq).extBut hs.extBut fun x => ?_
      exact nd2.2.2 q.1 (List.mem_map_of_mem hq) p.1 (List.mem_cons_self ..) x
    · have : q = p := by simpa using hq
      subst this
      exact hi
  · refine (S.ht q (List.mem_cons_of_mem _ hq)).extBut hs.extBut fun x => ?_
    exact nd3.1 (x ▸ List.mem_map_of_mem hq)
/-- the zip's own field set -/
theorem St.set {z TI TO : Addr} {f0 f1 g0 g1 : Value} {l dn td : List (Addr × Addr)} {k d : Nat} {ys : List Value} {h0 h h' : Heap} (D : Apart z TI TO l) (hl : l = dn ++ td) (S : St kd z TI TO f0 f1 l dn td k ys h0 h d)
    (hz : IsZipF h' z TI TO g0 g1) (hs : Heap.SameBut z h h') : St kd z TI TO g0 g1 l dn td k ys h0 h' d := by
  refine ⟨hz, hs.extBut _ _ D.TIz S.hTI, hs.extBut _ _ D.TOz S.hTO, S.ly, fun q hq => (S.hd q hq).extBut hs.extBut (D.iz q (by rw [hl]; simp [hq])), fun q hq => (S.ht q hq).extBut hs.extBut (D.iz q (by rw [hl]; simp [hq])), by rw [hs.1, S.sz], fun c o c1 c2 c3 hc => hs.extBut _ _ c1 (S.kp c o c1 c2 c3 hc)⟩
theorem St.tup {z TI TO : Addr} {f0 f1 : Value} {l dn td : List (Addr × Addr)} {k d : Nat} {ys zs : List Value} {h0 h h' : Heap} (D : Apart z TI TO l) (hl : l = dn ++ td) (S : St kd z TI TO f0 f1 l dn td k ys h0 h d)
    (hT : IsTupV h' TO zs) (lz : zs.length = ys.length) (hs : Heap.SameBut TO h h') : St kd z TI TO f0 f1 l dn td k zs h0 h' d := by
  refine ⟨hs.extBut _ _ D.TOz.symm S.hz, hs.extBut _ _ D.TITO S.hTI, hT, by rw [lz, S.ly], fun q hq => (S.hd q hq).extBut hs.extBut (D.iTO q (by rw [hl]; simp [hq])), fun q hq => (S.ht q hq).extBut hs.extBut (D.iTO q (by rw [hl]; simp [hq])), by rw [hs.1, S.sz], fun c o c1 c2 c3 hc => hs.extBut _ _ c2 (S.kp c o c1 c2 c3 hc)⟩
theorem free_any {z TI TO : Addr} {f0 : Value} {b1 : Bool} {l : List (Addr × Addr)} {k : Nat} {ys : List Value} {h0 : Heap} (D : Apart z TI TO l) (hf : f0 = .none ∨ ∃ a : Nat, f0 = rawInt a)
    (S : St kd z TI TO f0 (.bool b1) l [] l k ys h0 s.heap 0) :
    wpAny (model prog w) A (Builtin.SmallTypes.ownedTupleIsFree (.ref z)) (fun _ s' => ∃ h' b2, s' = { s with heap := h' } ∧ St kd z TI TO f0 (.bool b2) l [] l k ys h0 h' 0) E s := by
  unfold Builtin.SmallTypes.ownedTupleIsFree
  rcases hf with rfl | ⟨a, rfl⟩
  · exact wpAny_bind (wpAny_field S.hz rfl (x := .none) rfl (wpAny_pure ⟨s.heap, b1, rfl, S⟩))
  · refine wpAny_bind (wpAny_field S.hz rfl (x := rawInt a) rfl ?_)
    show wpAny _ _ (loadIfAlive _ >>= _) _ _ _
    refine wpAny_bind (wpAny_loadIfAlive ?_)
    cases h : (s.heap.get? (Int.toNat a)) with
    | none => exact wpAny_pure ⟨s.heap, b1, rfl, S⟩
    | some o =>
      show wpAny _ _ (field (.ref z) 1 >>= _) _ _ _
      refine wpAny_bind (wpAny_field S.hz rfl (x := .bool b1) rfl ?_)
      cases b1 with
      | true => exact wpAny_pure ⟨s.heap, true, rfl, S⟩
      | false =>
        show wpAny _ _ (setField (.ref z) 1 (.bool true) >>= _) _ _ _
        exact wpAny_bind (wpAny_setField_rec S.hz (by simp) fun h' hz' hs' => wpAny_pure ⟨h', true, rfl, S.set D rfl hz' hs'⟩)
theorem St.push {z TI TO : Addr} {f0 f1 : Value} {l dn td : List (Addr × Addr)} {k : Nat} {ys : List Value} {h0 h : Heap} (o : Obj) (S : St kd z TI TO f0 f1 l dn td k ys h0 h 0) : St kd z TI TO f0 f1 l dn td k ys h0 (h.push o) 1 :=
  ⟨Heap.get?_push_of_some _ S.hz, Heap.get?_push_of_some _ S.hTI, Heap.get?_push_of_some _ S.hTO, S.ly, fun q hq => (S.hd q hq).at fun o e => Heap.get?_push_of_some _ e, fun q hq => (S.ht q hq).at fun o e => Heap.get?_push_of_some _ e,
    by rw [Heap.size_push, S.sz], fun c o c1 c2 c3 hc => Heap.get?_push_of_some _ (S.kp c o c1 c2 c3 hc)⟩
theorem set_take {α : Type} {xs ys : List α} {n : Nat} {x : α} (hx : xs[n]? = some x) (hy : n < ys.length) : (xs.take n ++ ys.drop n).set n x = xs.take (n + 1) ++ ys.drop (n + 1) := by
  have hn : n < xs.length := (List.getElem?_eq_some_iff.mp hx).1
  have l1 : (xs.take n).length = n := by rw [List.length_take]; omega
  rw [List.take_add_one, hx, List.drop_eq_getElem_cons hy]
  have : ∀ (as bs : List α) (b : α), as.length = n → (as ++ b :: bs).set n x = as ++ [x] ++ bs := by
    intro as bs b h
    rw [← h, List.set_append_right _ _ (Nat.le_refl _), Nat.sub_self, List.set_cons_zero, List.append_assoc]
    rfl
  exact this _ _ _ l1
theorem zipN_item {z TI TO : Addr} {f0 : Value} {b1 : Bool} {l : List (Addr × Addr)} {k : Nat} {ys xs : List Value} {Q : Value → Shared → Prop} (D : Apart z TI TO l) (l4 : l.length ≤ 4) (ne : l ≠ []) (hf : f0 = .none ∨ ∃ a : Nat, f0 = rawInt a)
    (S : St kd z TI TO f0 (.bool b1) l [] l k ys s.heap s.heap 0) (R : Rows kd s.heap k l xs)
    (hQ : ∀ h' f0' b2 zs, (f0' = .none ∨ ∃ a : Nat, f0' = rawInt a) → St kd z TI TO f0' (.bool b2) l l [] k zs s.heap h' 1 → IsTupV h' s.heap.objs.size xs → Q (.ref s.heap.objs.size) { s with heap := h' }) :
    wpAny (model prog w) A (Builtin.«zip.__next__» ⟨[.ref z], []⟩) (fun fin s' => ∃ v, fin = .done (.ret v) ∧ Q v s') E s := by
  show wpAny _ _ (field (.ref z) 2 >>= _) _ _ _
  refine wpAny_bind (wpAny_field S.hz rfl (x := .bool false) rfl ?_)
  show wpAny _ _ (field (.ref z) 3 >>= _) _ _ _
  refine wpAny_bind (wpAny_field S.hz rfl (x := .ref TI) rfl ?_)
  refine wpAny_bind (wpAny_seqItems S.hTI rfl ?_)
  have hne : (refs l).toArray.isEmpty = false := by
    cases l with
    | nil => exact absurd rfl ne
    | cons p l => rfl
  dsimp only
  rw [if_neg (by rw [hne]; exact Bool.false_ne_true)]
  refine wpAny_bind (wpAny_mono (free_any D hf S) (fun b s' hb => ?_) fun _ _ x => x)
  obtain ⟨h1, b2, rfl, S1⟩ := hb
  cases b with
  | true =>
    rw [if_pos rfl]
    refine wpAny_bind (wpAny_rule ?_)
    refine wpAny_bind (wpAny_field S1.hz rfl (x := .ref TO) rfl ?_)
    dsimp only
    refine wpAny_bind (wpAny_setField_rec S1.hz (by simp) fun h2 hz2 hs2 => ?_)
    have S2 : St kd z TI TO .ellipsis (.bool b2) l [] l k ys s.heap h2 0 := S1.set D rfl hz2 hs2
    refine wpAny_bind (wpAny_forIn_list _ (fun rest b s' => b = (none, ()) ∧ ∃ h' dn td, s' = { s with heap := h' } ∧ l = dn ++ td ∧ rest = (refs td).zipIdx dn.length ∧ St kd z TI TO .ellipsis (.bool b2) l dn td k (xs.take dn.length ++ ys.drop dn.length) s.heap h' 0) _ ?turn ?fin _ _ ⟨rfl, h2, [], l, rfl, rfl, rfl, S2⟩)
    case turn =>
      rintro x rest b s' ⟨rfl, h', dn, td, rfl, el, er, S'⟩
      cases td with
      | nil => cases er
      | cons p td =>
        obtain ⟨rfl, rfl⟩ : x = (.ref p.1, dn.length) ∧ rest = (refs td).zipIdx (dn.length + 1) := by
          simp only [refs, List.map_cons, List.zipIdx_cons] at er
          exact List.cons.inj er
        obtain ⟨x, items, hx, ht, hi⟩ := R.2 dn.length p (by rw [el]; simp)
        have hn : dn.length < ys.length := by rw [S.ly, el, List.length_append, List.length_cons]; omega
        have ed : dn ++ p :: td = (dn ++ [p]) ++ td := by simp
        refine wpAny_bind (wpAny_onRaise ?_)
        show wpAny _ _ (Builtin.SmallTypes.nextOf (.ref p.1) >>= _) _ _ _
        refine wpAny_bind (St.draw D el S' ht hi fun h3 S3 => wpAny_pure ?_)
        dsimp only
        refine wpAny_bind (wpAny_seqItems S3.hTO rfl ?_)
        dsimp only
        refine wpAny_bind (wpAny_updateSeq_tup S3.hTO (by rw [S3.ly]; exact l4) fun h4 hT4 hs4 => ?_)
        rw [set_take hx hn] at hT4
        refine wpAny_bind (wpAny_letGo (wpAny_pure ?_))
        have l5 := (List.getElem?_eq_some_iff.mp hx).1
        refine ⟨rfl, h4, dn ++ [p], td, rfl, by rw [el, ed], by rw [List.length_append]; rfl, ?_⟩
        have e1 : (dn ++ [p]).length = dn.length + 1 := by simp
        rw [e1]
        exact S3.tup D (by rw [el, ed]) hT4 (by simp only [List.length_append, List.length_take, List.length_drop]; omega) hs4
    case fin =>
      rintro b s' ⟨rfl, h', dn, td, rfl, el, er, S'⟩
      have e0 : td = [] := by
        cases td with
        | nil => rfl
        | cons p td => cases er
      subst e0
      rw [List.append_nil] at el
      subst el
      have ex : xs.take l.length ++ ys.drop l.length = xs := by
        rw [R.1, List.take_length, ← R.1, ← S.ly, List.drop_length, List.append_nil]
      rw [ex] at S'
      show wpAny _ _ (seqItems? (.ref TO) >>= _) _ _ _
      refine wpAny_bind (wpAny_seqItems S'.hTO rfl ?_)
      dsimp only
      refine wpAny_bind (wpAny_newTuple ?_ (Nat.le_trans (Nat.le_of_eq R.1.symm) (Nat.le_trans l4 (by decide))))
      have S5 := S'.push { cls := .type "tuple", data := .seq xs.toArray }
      have hzl : z < h'.objs.size := Heap.lt_size S'.hz
      show wpAny _ _ (Builtin.SmallTypes.ownedTupleHandOut (.ref z) (.ref h'.objs.size) >>= _) _ _ _
      refine wpAny_bind ?_
      unfold Builtin.SmallTypes.ownedTupleHandOut
      refine wpAny_bind (wpAny_setField_rec S5.hz (by simp) fun h6 hz6 hs6 => ?_)
      have S6 := S5.set D (by simp) hz6 hs6
      refine wpAny_setField_rec S6.hz (by simp) fun h7 hz7 hs7 => ?_
      have S7 := S6.set D (by simp) hz7 hs7
      refine wpAny_pure ⟨_, rfl, ?_⟩
      have esz : h'.objs.size = s.heap.objs.size := by rw [S'.sz]; rfl
      rw [esz]
      refine hQ h7 _ false xs (.inr ⟨_, rfl⟩) S7 ?_
      have nz : s.heap.objs.size ≠ z := by rw [← esz]; exact Nat.ne_of_gt hzl
      refine hs7.extBut _ _ nz (hs6.extBut _ _ nz ?_)
      rw [← esz]
      exact Heap.get?_push_size _ rfl
  | false =>
    rw [if_neg Bool.false_ne_true]
    refine wpAny_bind (PySem.MeetsSeq2.wpAny_forIn_array _ (fun rest b s' => ∃ h' dn td, b = (none, (xs.take dn.length).toArray) ∧ s' = { s with heap := h' } ∧ l = dn ++ td ∧ rest = refs td ∧ St kd z TI TO f0 (.bool b2) l dn td k ys s.heap h' 0) _ ?turn2 ?fin2 _ _ ⟨h1, [], l, rfl, rfl, rfl, rfl, S1⟩)
    case turn2 =>
      rintro x rest b s' ⟨h', dn, td, rfl, rfl, el, er, S'⟩
      cases td with
      | nil => cases er
      | cons p td =>
        obtain ⟨rfl, rfl⟩ : x = .ref p.1 ∧ rest = refs td := by
          simp only [refs, List.map_cons] at er
          exact List.cons.inj er
        obtain ⟨x, items, hx, ht, hi⟩ := R.2 dn.length p (by rw [el]; simp)
        have ed : dn ++ p :: td = (dn ++ [p]) ++ td := by simp
        refine wpAny_bind (wpAny_holding ?_)
        show wpAny _ _ (Builtin.SmallTypes.nextOf (.ref p.1) >>= _) _ _ _
        refine wpAny_bind (St.draw D el S' ht hi fun h3 S3 => wpAny_pure ?_)
        refine wpAny_pure ⟨h3, dn ++ [p], td, ?_, rfl, by rw [el, ed], rfl, S3⟩
        have e1 : (dn ++ [p]).length = dn.length + 1 := by simp
        rw [e1, List.take_add_one, hx]
        simp
    case fin2 =>
      rintro b s' ⟨h', dn, td, rfl, rfl, el, er, S'⟩
      have e0 : td = [] := by
        cases td with
        | nil => rfl
        | cons p td => cases er
      subst e0
      rw [List.append_nil] at el
      subst el
      have ex : xs.take l.length = xs := by rw [R.1, List.take_length]
      rw [ex]
      show wpAny _ _ (newTuple xs >>= _) _ _ _
      refine wpAny_bind (wpAny_newTuple ?_ (Nat.le_trans (Nat.le_of_eq R.1.symm) (Nat.le_trans l4 (by decide))))
      have S5 := S'.push { cls := .type "tuple", data := .seq xs.toArray }
      have esz : h'.objs.size = s.heap.objs.size := by rw [S'.sz]; rfl
      refine wpAny_pure ⟨_, rfl, ?_⟩
      show Q (.ref h'.objs.size) _
      rw [esz]
      refine hQ _ _ b2 ys hf S5 ?_
      rw [← esz]
      exact Heap.get?_push_size _ rfl
theorem zipN_end {z TI TO : Addr} {f0 : Value} {b1 : Bool} {p : Addr × Addr} {l : List (Addr × Addr)} {k : Nat} {ys : List Value} {items : Array Value} {Q : PySem.Fin → Shared → Prop} (hh : A.handled = none) (D : Apart z TI TO (p :: l)) (hf : f0 = .none ∨ ∃ a : Nat, f0 = rawInt a)
    (S : St kd z TI TO f0 (.bool b1) (p :: l) [] (p :: l) k ys s.heap s.heap 0) (ht : IsSq kd s.heap p.2 items) (hx : items[k]? = none)
    (hE : ∀ h' e, (∀ c o, c ≠ z → c ≠ TO → (∀ q ∈ p :: l, c ≠ q.1) → s.heap.get? c = some o → h'.get? c = some o) → (∃ o, h'.get? e = some o ∧ o.cls = .type "StopIteration") → E (.ref e) { s with heap := h' }) :
    wpAny (model prog w) A (Builtin.«zip.__next__» ⟨[.ref z], []⟩) Q E s := by
  show wpAny _ _ (field (.ref z) 2 >>= _) _ _ _
  refine wpAny_bind (wpAny_field S.hz rfl (x := .bool false) rfl ?_)
  show wpAny _ _ (field (.ref z) 3 >>= _) _ _ _
  refine wpAny_bind (wpAny_field S.hz rfl (x := .ref TI) rfl ?_)
  refine wpAny_bind (wpAny_seqItems S.hTI rfl ?_)
  have hne : (refs (p :: l)).toArray.isEmpty = false := rfl
  dsimp only
  rw [if_neg (by rw [hne]; exact Bool.false_ne_true)]
  refine wpAny_bind (wpAny_mono (free_any D hf S) (fun b s' hb => ?_) fun _ _ x => x)
  obtain ⟨h1, b2, rfl, S1⟩ := hb
  have mp : p ∈ p :: l := List.mem_cons_self ..
  have tup : ∀ {f0 f1 h' d}, St kd z TI TO f0 f1 (p :: l) [] (p :: l) k ys s.heap h' d → IsSq kd h' p.2 items := fun S' => ht.at fun o ho => S'.kp _ _ (D.tz p mp) (D.tTO p mp) (fun q hq => D.ti p mp q hq) ho
  cases b with
  | true =>
    rw [if_pos rfl]
    refine wpAny_bind (wpAny_rule ?_)
    refine wpAny_bind (wpAny_field S1.hz rfl (x := .ref TO) rfl ?_)
    dsimp only
    refine wpAny_bind (wpAny_setField_rec S1.hz (by simp) fun h2 hz2 hs2 => ?_)
    have S2 : St kd z TI TO .ellipsis (.bool b2) (p :: l) [] (p :: l) k ys s.heap h2 0 := S1.set D rfl hz2 hs2
    refine wpAny_bind (wpAny_forIn_list _ (fun rest b s' => s' = { s with heap := h2 } ∧ rest = (refs (p :: l)).zipIdx 0) _ ?turn ?fin _ _ ⟨rfl, rfl⟩)
    case fin =>
      rintro b s' ⟨rfl, er⟩
      cases er
    case turn =>
      rintro x rest b s' ⟨rfl, er⟩
      obtain ⟨rfl, rfl⟩ : x = (.ref p.1, 0) ∧ rest = (refs l).zipIdx 1 := by
        simp only [refs, List.map_cons, List.zipIdx_cons] at er
        exact List.cons.inj er
      refine wpAny_bind (wpAny_onRaise ?_)
      show wpAny _ _ (Builtin.SmallTypes.nextOf (.ref p.1) >>= _) _ _ _
      refine wpAny_bind (next_end hh (S2.ht p mp) (tup S2) hx fun h3 e hs3 he => ?_)
      obtain ⟨oe, hoe, hce⟩ := he
      have hz3 := hs3 _ _ (D.iz p mp).symm S2.hz
      have hez : e ≠ z := fun x => by subst x; rw [hz3] at hoe; cases hoe; simp at hce
      refine wpAny_setField_rec hz3 (by simp) fun h4 _ hs4 => hE h4 e (fun c o c1 c2 c3 x => hs4.extBut _ _ c1 (hs3 _ _ (c3 p mp) (S2.kp c o c1 c2 c3 x))) ⟨oe, hs4.extBut _ _ hez hoe, hce⟩
  | false =>
    rw [if_neg Bool.false_ne_true]
    refine wpAny_bind (PySem.MeetsSeq2.wpAny_forIn_array _ (fun rest b s' => s' = { s with heap := h1 } ∧ rest = refs (p :: l)) _ ?turn2 ?fin2 _ _ ⟨rfl, rfl⟩)
    case fin2 =>
      rintro b s' ⟨rfl, er⟩
      cases er
    case turn2 =>
      rintro x rest b s' ⟨rfl, er⟩
      obtain ⟨rfl, rfl⟩ : x = .ref p.1 ∧ rest = refs l := by
        simp only [refs, List.map_cons] at er
        exact List.cons.inj er
      refine wpAny_bind (wpAny_holding ?_)
      show wpAny _ _ (Builtin.SmallTypes.nextOf (.ref p.1) >>= _) _ _ _
      exact wpAny_bind (next_end hh (S1.ht p mp) (tup S1) hx fun h3 e hs3 he => hE h3 e (fun c o c1 c2 c3 x => hs3 _ _ (c3 p mp) (S1.kp c o c1 c2 c3 x)) he)
theorem pyNext_zipN_item {z TI TO : Addr} {f0 : Value} {b1 : Bool} {l : List (Addr × Addr)} {k : Nat} {ys xs : List Value} {Q : Option Value → Shared → Prop} (D : Apart z TI TO l) (l4 : l.length ≤ 4) (ne : l ≠ []) (hf : f0 = .none ∨ ∃ a : Nat, f0 = rawInt a)
    (S : St kd z TI TO f0 (.bool b1) l [] l k ys s.heap s.heap 0) (R : Rows kd s.heap k l xs)
    (hQ : ∀ h' f0' b2 zs, (f0' = .none ∨ ∃ a : Nat, f0' = rawInt a) → St kd z TI TO f0' (.bool b2) l l [] k zs s.heap h' 1 → IsTupV h' s.heap.objs.size xs → Q (some (.ref s.heap.objs.size)) { s with heap := h' }) :
    wpAny (model prog w) A (pyNext (.ref z)) Q E s := by
  have hT : s.TypeIs (.ref z) "zip" := ⟨_, S.hz, rfl⟩
  unfold pyNext
  exact wpAny_bind (wpAny_attempt (wpAny_callSpecial?_slot (name := Str.ofString "__next__") hT F.slot_zip_next
    (wpAny_call_entry F.slot_zip_next hT F.entry_zip_next
      (zipN_item D l4 ne hf S R fun h' a1 a2 a3 a4 a5 a6 => wpAny_pure (hQ h' a1 a2 a3 a4 a5 a6)) (F.args_zip_next_1 _))))
theorem pyNext_zipN_end {z TI TO : Addr} {f0 : Value} {b1 : Bool} {p : Addr × Addr} {l : List (Addr × Addr)} {k : Nat} {ys : List Value} {items : Array Value} {Q : Option Value → Shared → Prop} (hh : A.handled = none) (D : Apart z TI TO (p :: l)) (hf : f0 = .none ∨ ∃ a : Nat, f0 = rawInt a)
    (S : St kd z TI TO f0 (.bool b1) (p :: l) [] (p :: l) k ys s.heap s.heap 0) (ht : IsSq kd s.heap p.2 items) (hx : items[k]? = none)
    (hQ : ∀ h', (∀ c o, c ≠ z → c ≠ TO → (∀ q ∈ p :: l, c ≠ q.1) → s.heap.get? c = some o → h'.get? c = some o) → Q none { s with heap := h' }) : wpAny (model prog w) A (pyNext (.ref z)) Q E s := by
  have hT : s.TypeIs (.ref z) "zip" := ⟨_, S.hz, rfl⟩
  unfold pyNext
  refine wpAny_bind (wpAny_attempt (wpAny_callSpecial?_slot (name := Str.ofString "__next__") hT F.slot_zip_next
    (wpAny_call_entry F.slot_zip_next hT F.entry_zip_next (zipN_end hh D hf S ht hx fun h' e hk he => ?_) (F.args_zip_next_1 _))))
  obtain ⟨o, ho, hc⟩ := he
  refine wpAny_bind (wpAny_isInstance (T := "StopIteration") (b := true) ⟨o, ho, hc⟩ isSubtype_stop ?_)
  exact wpAny_pure (hQ _ hk)
theorem wpAny_pyIter_zipN {z TI TO : Addr} {f0 f1 : Value} {Q : Value → Shared → Prop} (hz : IsZipF s.heap z TI TO f0 f1) (h : Q (.ref z) s) : wpAny (model prog w) A (pyIter (.ref z)) Q E s := by
  have hT : s.TypeIs (.ref z) "zip" := ⟨_, hz, rfl⟩
  refine wpAny_pyIter_slot hT F.slot_zip_iter (wpAny_call_entry F.slot_zip_iter hT F.entry_zip_iter ?_ (F.args_zip_iter_1 _))
  show wpAny _ _ (ret (.ref z)) _ _ s
  exact wpAny_pure ⟨_, rfl, "zip", _, hT, F.slot_zip_next.lookup, h⟩
end
/-! ### the call -/
def mk : Nat → List Addr → List (Addr × Addr)
  | _, [] => []
  | n, a :: as => (n, a) :: mk (n + 1) as
theorem mk_append (b : Addr) : ∀ (n : Nat) (as : List Addr), mk n (as ++ [b]) = mk n as ++ [(n + as.length, b)]
  | n, [] => rfl
  | n, a :: as => by
    show (n, a) :: mk (n + 1) (as ++ [b]) = (n, a) :: (mk (n + 1) as ++ [_])
    rw [mk_append b (n + 1) as, List.length_cons]
    have : n + 1 + as.length = n + (as.length + 1) := by omega
    rw [this]
theorem mk_length : ∀ (n : Nat) (as : List Addr), (mk n as).length = as.length
  | _, [] => rfl
  | n, a :: as => congrArg Nat.succ (mk_length (n + 1) as)
theorem mk_mem : ∀ {n : Nat} {as : List Addr} {p : Addr × Addr}, p ∈ mk n as → n ≤ p.1 ∧ p.1 < n + as.length ∧ p.2 ∈ as
  | _, [], _, h => by cases h
  | n, a :: as, p, h => by
    rcases List.mem_cons.mp h with rfl | h
    · exact ⟨Nat.le_refl _, by rw [List.length_cons]; exact Nat.lt_add_of_pos_right (Nat.succ_pos _), List.mem_cons_self ..⟩
    · obtain ⟨h1, h2, h3⟩ := mk_mem h
      refine ⟨Nat.le_of_succ_le h1, ?_, List.mem_cons_of_mem _ h3⟩
      rw [List.length_cons]
      exact Nat.lt_of_lt_of_eq h2 (by omega)
theorem mk_nodup : ∀ (n : Nat) (as : List Addr), ((mk n as).map (·.1)).Nodup
  | _, [] => List.nodup_nil
  | n, a :: as => by
    refine List.nodup_cons.mpr ⟨fun h => ?_, mk_nodup (n + 1) as⟩
    obtain ⟨p, hp, e⟩ := List.mem_map.mp h
    have := (mk_mem hp).1
    rw [e] at this
    exact absurd this (Nat.not_succ_le_self _)
theorem mk_apart {n : Nat} {as : List Addr} (h : ∀ a ∈ as, a < n) : Apart (n + as.length + 2) (n + as.length) (n + as.length + 1) (mk n as) := by
  have m : ∀ p ∈ mk n as, n ≤ p.1 ∧ p.1 < n + as.length ∧ p.2 < n := fun p hp => ⟨(mk_mem hp).1, (mk_mem hp).2.1, h _ (mk_mem hp).2.2⟩
  refine ⟨by show ¬ (n + as.length = n + as.length + 2); omega, by show ¬ (n + as.length + 1 = n + as.length + 2); omega, by show ¬ (n + as.length = n + as.length + 1); omega, fun p hp => ?_, fun p hp => ?_, fun p hp => ?_, fun p hp => ?_, fun p hp => ?_, fun p hp q hq => ?_, mk_nodup n as⟩
  · exact Nat.ne_of_lt (Nat.lt_of_lt_of_le (m p hp).2.1 (by omega))
  · exact Nat.ne_of_lt (m p hp).2.1
  · exact Nat.ne_of_lt (Nat.lt_of_lt_of_le (m p hp).2.1 (by omega))
  · exact Nat.ne_of_lt (Nat.lt_of_lt_of_le (m p hp).2.2 (by omega))
  · exact Nat.ne_of_lt (Nat.lt_of_lt_of_le (m p hp).2.2 (by omega))
  · exact Nat.ne_of_lt (Nat.lt_of_lt_of_le (m p hp).2.2 (m q hq).1)
theorem newClass_zip (vs : List Value) : Builtin.SmallTypes.newClass "zip" ⟨.type "zip" :: vs, []⟩ = pure (.type "zip", vs) := by
  have hs := sub_zip
  unfold Builtin.SmallTypes.newClass
  dsimp only
  simp only [show isType (Value.type "zip") = (pure true) from rfl, hs]
  rfl
/-- what stands after a call of zip -/
structure Made (kd : Addr → Bool) (n : Nat) (as : List Addr) (h0 h : Heap) : Prop where
  st : St kd (n + as.length + 2) (n + as.length) (n + as.length + 1) .none (.bool false) (mk n as) [] (mk n as) 0 ((mk n as).map fun _ => Value.none) h h 0
  kp : ∀ c o, h0.get? c = some o → h.get? c = some o
  sz : h.objs.size = n + as.length + 3
theorem meets_zipN_new (as : List Addr) (l4 : as.length ≤ 4) :
    Meets (Builtin.«zip.__new__» ⟨.type "zip" :: as.map .ref, []⟩) (fun _ R s => (∀ a ∈ as, ∃ items, IsSq kd s.heap a items) ∧ ∀ h', Made kd s.heap.objs.size as s.heap h' →
      R (.ok (.ret (.ref (s.heap.objs.size + as.length + 2)))) { s with heap := h' }) :=
  .of_wp fun prog w A R s h => by
    obtain ⟨ht, h⟩ := h
    have l5 : ∀ n ≤ 4, n ≤ sizeLine := fun n hn => Nat.le_trans hn (by decide)
    show wpAny _ _ (Builtin.SmallTypes.newClass "zip" _ >>= _) _ _ _
    rw [newClass_zip]
    refine wpAny_bind (wpAny_pure ?_)
    dsimp only
    rw [if_neg (by decide)]
    show wpAny _ _ (Builtin.SmallTypes.iterAll _ >>= _) _ _ _
    refine wpAny_bind ?_
    unfold Builtin.SmallTypes.iterAll
    refine wpAny_bind (wpAny_forIn_list _ (fun rest b s' => ∃ h' dn td, as = dn ++ td ∧ rest = td.map .ref ∧ b = (refs (mk s.heap.objs.size dn)).toArray ∧ s' = { s with heap := h' } ∧ h'.objs.size = s.heap.objs.size + dn.length ∧
      (∀ c o, s.heap.get? c = some o → h'.get? c = some o) ∧ ∀ p ∈ mk s.heap.objs.size dn, IsIt kd h' p.1 p.2 0) _ ?turn ?fin _ _ ⟨s.heap, [], as, rfl, rfl, rfl, rfl, rfl, fun _ _ e => e, fun _ h => nomatch h⟩)
    case turn =>
      rintro x rest b s' ⟨h', dn, td, el, er, rfl, rfl, hz, kp, it⟩
      cases td with
      | nil => cases er
      | cons a td =>
        obtain ⟨rfl, rfl⟩ : x = .ref a ∧ rest = td.map .ref := List.cons.inj er
        obtain ⟨items, hq⟩ := ht a (by rw [el]; simp)
        refine wpAny_bind (wpAny_holding (iter_seq (s := { s with heap := h' }) (hq.at fun o ho => kp _ _ ho) fun h2 hz2 it2 kp2 => wpAny_pure ?_))
        refine ⟨h2, dn ++ [a], td, by rw [el]; simp, rfl, ?_, rfl, ?_, fun c o e => kp2 _ _ (kp c o e), fun p hp => ?_⟩
        · rw [mk_append]
          show Array.push _ (Value.ref h'.objs.size) = _
          rw [hz]
          simp [refs]
        · rw [hz2, hz, List.length_append]
          rfl
        · rw [mk_append] at hp
          rcases List.mem_append.mp hp with hp | hp
          · exact (it p hp).at fun o e => kp2 _ _ e
          · have : p = (s.heap.objs.size + dn.length, a) := by simpa using hp
            subst this
            rw [← hz]
            exact it2
    case fin =>
      rintro b s' ⟨h', dn, td, el, er, rfl, rfl, hz, kp, it⟩
      have e0 : td = [] := by
        cases td with
        | nil => rfl
        | cons p td => cases er
      subst e0
      rw [List.append_nil] at el
      subst el
      have ll : (mk s.heap.objs.size as).length = as.length := mk_length _ _
      refine wpAny_pure ?_
      show wpAny _ _ (newTuple (refs (mk s.heap.objs.size as)) >>= _) _ _ _
      refine wpAny_bind (wpAny_newTuple ?_ (by rw [List.length_map, ll]; exact l5 _ l4))
      show wpAny _ _ (newTuple ((refs (mk s.heap.objs.size as)).map fun _ => Value.none) >>= _) _ _ _
      refine wpAny_bind (wpAny_newTuple ?_ (by rw [List.length_map, List.length_map, ll]; exact l5 _ l4))
      show wpAny _ _ (Builtin.SmallTypes.newRecord (.type "zip") _ >>= _) _ _ _
      refine wpAny_bind ?_
      unfold Builtin.SmallTypes.newRecord
      dsimp only
      refine wpAny_newObj_type (wpAny_pure ⟨_, rfl, ?_⟩) (show 5 ≤ sizeLine + 2 from Nat.le_trans (show 5 ≤ sizeLine by decide) (Nat.le_add_right _ _))
      obtain ⟨hA, eA⟩ : ∃ x, x = h'.push { cls := .type "tuple", data := .seq (refs (mk s.heap.objs.size as)).toArray } := ⟨_, rfl⟩
      obtain ⟨hB, eB⟩ : ∃ x, x = hA.push { cls := .type "tuple", data := .seq (List.map (fun _ => Value.none) (refs (mk s.heap.objs.size as))).toArray } := ⟨_, rfl⟩
      have sA : hA.objs.size = s.heap.objs.size + as.length + 1 := by rw [eA, Heap.size_push, hz]
      have sB : hB.objs.size = s.heap.objs.size + as.length + 2 := by rw [eB, Heap.size_push, sA]
      rw [← eA, ← eB, sB, sA, hz]
      have gA : hA.get? (s.heap.objs.size + as.length) = some { cls := .type "tuple", data := .seq (refs (mk s.heap.objs.size as)).toArray } := by rw [eA, ← hz]; exact Heap.get?_push_size _ rfl
      have gB : hB.get? (s.heap.objs.size + as.length + 1) = some { cls := .type "tuple", data := .seq (List.map (fun _ => Value.none) (refs (mk s.heap.objs.size as))).toArray } := by rw [eB, ← sA]; exact Heap.get?_push_size _ rfl
      refine h _ ⟨⟨?_, Heap.get?_push_of_some _ (by rw [eB]; exact Heap.get?_push_of_some _ gA), Heap.get?_push_of_some _ ?_, by rw [List.length_map], (fun _ h => nomatch h), fun p hp => ?_, rfl, fun _ _ _ _ _ e => e⟩, fun c o e => ?_, ?_⟩
      · show Heap.get? _ _ = _
        rw [← sB]
        exact Heap.get?_push_size _ rfl
      · refine gB.trans ?_
        rw [List.map_map]
        rfl
      · refine (it p hp).at fun o e => ?_
        refine Heap.get?_push_of_some _ ?_
        rw [eB, eA]
        exact Heap.get?_push_of_some _ (Heap.get?_push_of_some _ e)
      · refine Heap.get?_push_of_some _ ?_
        rw [eB, eA]
        exact Heap.get?_push_of_some _ (Heap.get?_push_of_some _ (kp c o e))
      · rw [Heap.size_push, sB]
section
variable {prog : Program} {w : World} {A : Around} {E : Value → Shared → Prop} {s : Shared}
theorem typeCall_zipN : ∀ vs : List Value, vs ≠ [] → vs.length ≤ 4 → checkTypeCall "zip" ⟨vs, []⟩ = pure ()
  | [], h, _ => absurd rfl h
  | [_], _, _ => by kernel_rfl
  | [_, _], _, _ => by kernel_rfl
  | [_, _, _], _, _ => by kernel_rfl
  | [_, _, _, _], _, _ => by kernel_rfl
  | _ :: _ :: _ :: _ :: _ :: _, _, h => absurd h (by simp)
theorem newCall_zipN : ∀ vs : List Value, vs ≠ [] → vs.length ≤ 4 → checkBuiltinCall "zip.__new__" ⟨.type "zip" :: vs, []⟩ = pure ()
  | [], h, _ => absurd rfl h
  | [_], _, _ => by kernel_rfl
  | [_, _], _, _ => by kernel_rfl
  | [_, _, _], _, _ => by kernel_rfl
  | [_, _, _, _], _, _ => by kernel_rfl
  | _ :: _ :: _ :: _ :: _ :: _, _, h => absurd h (by simp)
theorem args_initN (obj : Value) : ∀ vs : List Value, vs ≠ [] → vs.length ≤ 4 → argsOk "object.__init__" ⟨obj :: vs, []⟩
  | [], h, _ => absurd rfl h
  | [_], _, _ => by unfold argsOk; rw [signature?_of (id := "object.__init__") (n := ['_', '_', 't', 'i', 'n', 'i', '_', '_']) (o := ['t', 'c', 'e', 'j', 'b', 'o']) (by kernel_rfl) F.owner_object]; kernel_rfl
  | [_, _], _, _ => by unfold argsOk; rw [signature?_of (id := "object.__init__") (n := ['_', '_', 't', 'i', 'n', 'i', '_', '_']) (o := ['t', 'c', 'e', 'j', 'b', 'o']) (by kernel_rfl) F.owner_object]; kernel_rfl
  | [_, _, _], _, _ => by unfold argsOk; rw [signature?_of (id := "object.__init__") (n := ['_', '_', 't', 'i', 'n', 'i', '_', '_']) (o := ['t', 'c', 'e', 'j', 'b', 'o']) (by kernel_rfl) F.owner_object]; kernel_rfl
  | [_, _, _, _], _, _ => by unfold argsOk; rw [signature?_of (id := "object.__init__") (n := ['_', '_', 't', 'i', 'n', 'i', '_', '_']) (o := ['t', 'c', 'e', 'j', 'b', 'o']) (by kernel_rfl) F.owner_object]; kernel_rfl
  | _ :: _ :: _ :: _ :: _ :: _, _, h => absurd h (by simp)
theorem call_zipN {as : List Addr} {Q : Value → Shared → Prop} (ne : as ≠ []) (l4 : as.length ≤ 4) (ht : ∀ a ∈ as, ∃ items, IsSq kd s.heap a items)
    (h : ∀ h', Made kd s.heap.objs.size as s.heap h' → Q (.ref (s.heap.objs.size + as.length + 2)) { s with heap := h' }) :
    wpAny (model prog w) A (call (.type "zip") (as.map .ref)) Q E s := by
  have ne' : as.map Value.ref ≠ [] := fun e => ne (List.map_eq_nil_iff.mp e)
  have l4' : (as.map Value.ref).length ≤ 4 := by rw [List.length_map]; exact l4
  refine callType_new F.called_zip (by decide) (typeCall_zipN _ ne' l4') (newCall_zipN _ ne' l4') (fun obj => args_initN obj _ ne' l4') F.entry_zip_new (meets_zipN_new as l4) ⟨ht, fun h' M => ?_⟩
  exact ⟨⟨_, M.st.hz, rfl⟩, h h' M⟩
end
section
variable {prog : Program} {w : World} {A : Around} {E : Value → Shared → Prop} {s : Shared}
/-- the pair is let go by what takes it apart -/
theorem letGoN {elts : List Expr} {x1} {pos : Pos} {z TI TO U : Addr} {f0 : Value} {b : Bool} {Q : Unit → Shared → Prop} (hf : f0 = .none ∨ ∃ a : Nat, f0 = rawInt a) (hz : IsZipF s.heap z TI TO f0 (.bool b))
    (hQ : ∀ h' f0', (f0' = .none ∨ ∃ a : Nat, f0' = rawInt a) → IsZipF h' z TI TO f0' (.bool b) → Heap.SameBut z s.heap h' → Q () { s with heap := h' }) :
    wpAny (model prog w) A (letOwnedTupleGo (.Tuple elts x1 pos) (.ref z) (.ref U)) Q E s := by
  unfold letOwnedTupleGo
  refine wpAny_bind (wpAny_load hz ?_)
  show wpAny _ _ (if (["enumerate", "zip", "dict_itemiterator", "dict_reverseitemiterator", "odict_iterator", "itertools.zip_longest", "itertools.pairwise"].contains "zip" &&
      (#[f0, .bool b, .bool false, .ref TI, .ref TO] : Array Value)[0]? == some (rawInt U)) = true then _ else _) Q E s
  split
  · refine wpAny_bind (wpAny_rule ?_)
    show wpAny _ _ (setField (.ref z) 0 .none) Q E s
    exact wpAny_setField_rec hz (by simp) fun h' hz' hs' => hQ h' _ (.inl rfl) hz' hs'
  · exact wpAny_pure (hQ s.heap f0 hf hz ⟨rfl, fun _ _ => rfl⟩)
end
end ZM
/-! zip of lists and tuples, zip(*rows), at the hand layer -/
namespace ZMS
open PySem PySem.Spec PyProof.Rows L2 ZM
/-- a tuple (true) or a list -/
def SqK (K : PySem.W.Frag) (H : Hp) (b : Bool) (a : Addr) (xs : List V) : Prop := if b = true then SqT K H a xs else SqL K H a xs
/-- the column at i of the things at these addresses -/
def ColAt (K : PySem.W.Frag) (H : Hp) (i : Nat) : List (Bool × Addr) → List V → Prop
  | [], [] => True
  | p :: as, x :: col => (∃ xs, SqK K H p.1 p.2 xs ∧ xs[i]? = some x) ∧ ColAt K H i as col
  | _, _ => False
def ItM (K : PySem.W.Frag) (as : List (Bool × Addr)) : It :=
  ⟨fun i H => ∃ col, ColAt K H i as col, fun i H v H' => ∃ T col, v = .ref T ∧ H T = none ∧ H' = upd H T (.tup col) ∧ ∀ c, ColAt K H i as c → c = col,
    fun i H => ∃ p rest xs, as = p :: rest ∧ SqK K H p.1 p.2 xs ∧ xs.length ≤ i⟩
theorem sq_inj {X : Cx} {pins : List (Addr × Obj)} {σ : L2.St} {H : Hp} {s : Shared} (I : Inv X pins σ H s) {b : Bool} {a : Addr} {xs ys : List V} (h1 : SqK X.K H b a xs) (h2 : SqK X.K H b a ys) : xs = ys := by
  unfold SqK at h1 h2
  by_cases c : b = true
  · rw [if_pos c] at h1 h2; exact I.tuple_inj h1 h2
  · rw [if_neg c] at h1 h2; exact I.list_inj h1 h2
theorem sq_of {X : Cx} {pins : List (Addr × Obj)} {σ : L2.St} {H : Hp} {s : Shared} (I : Inv X pins σ H s) {kd : Addr → Bool} {b : Bool} {a : Addr} {xs : List V} (hk : kd a = b) (h : SqK X.K H b a xs) : ∃ its : List Value, Vals xs its ∧ IsSq kd s.heap a its.toArray := by
  unfold SqK at h
  unfold IsSq
  by_cases c : b = true
  · rw [if_pos c] at h
    obtain ⟨its, rv, p, _⟩ := I.tuple h
    exact ⟨its, rv, by rw [if_pos (by rw [hk]; exact c)]; exact p⟩
  · rw [if_neg c] at h
    obtain ⟨its, rv, p, _⟩ := I.list h
    exact ⟨its, rv, by rw [if_neg (by rw [hk]; exact c)]; exact p.isList⟩
theorem col_inj {X : Cx} {pins : List (Addr × Obj)} {σ : L2.St} {H : Hp} {s : Shared} (I : Inv X pins σ H s) {j : Nat} : ∀ {as : List (Bool × Addr)} {c d : List V}, ColAt X.K H j as c → ColAt X.K H j as d → c = d
  | [], [], [], _, _ => rfl
  | a :: as, x :: c, y :: d, h1, h2 => by
    obtain ⟨⟨xs, hx, ex⟩, h1⟩ := h1
    obtain ⟨⟨ys, hy, ey⟩, h2⟩ := h2
    have e := sq_inj I hx hy
    subst e
    rw [ex] at ey
    cases ey
    rw [col_inj I h1 h2]
  | [], _ :: _, _, h, _ => h.elim
  | [], [], _ :: _, _, h => h.elim
  | _ :: _, [], _, h, _ => h.elim
  | _ :: _, _ :: _, [], _, h => h.elim
theorem Rows.nil {kd : Addr → Bool} {h : Heap} {k : Nat} : Rows kd h k [] [] := ⟨rfl, fun n p e => by simp at e⟩
theorem Rows.cons {kd : Addr → Bool} {h : Heap} {k : Nat} {p : Addr × Addr} {x : Value} {l : List (Addr × Addr)} {xs : List Value} (h1 : ∃ items, IsSq kd h p.2 items ∧ items[k]? = some x) (r : Rows kd h k l xs) : Rows kd h k (p :: l) (x :: xs) := by
  refine ⟨congrArg Nat.succ r.1, fun n q e => ?_⟩
  cases n with
  | zero =>
    simp at e
    subst e
    obtain ⟨items, h2, h3⟩ := h1
    exact ⟨x, items, by simp, h2, h3⟩
  | succ n =>
    obtain ⟨y, items, h2, h3, h4⟩ := r.2 n q (by simpa using e)
    exact ⟨y, items, by simpa using h2, h3, h4⟩
abbrev adr (as : List (Bool × Addr)) : List Addr := as.map (·.2)
theorem rows_of {X : Cx} {pins : List (Addr × Obj)} {σ : L2.St} {H : Hp} {s : Shared} (I : Inv X pins σ H s) {kd : Addr → Bool} {i : Nat} : ∀ {n : Nat} {as : List (Bool × Addr)} {col : List V}, (∀ p ∈ as, kd p.2 = p.1) → ColAt X.K H i as col → ∃ us, Rows kd s.heap i (mk n (adr as)) us ∧ Vals col us
  | _, [], [], _, _ => ⟨[], Rows.nil, .nil⟩
  | n, a :: as, x :: col, hk, h => by
    obtain ⟨⟨xs, hq, hx⟩, h2⟩ := h
    obtain ⟨us, r, v⟩ := rows_of (n := n + 1) I (fun p hp => hk p (List.mem_cons_of_mem _ hp)) h2
    obtain ⟨its, rv, p⟩ := sq_of I (hk a (List.mem_cons_self ..)) hq
    obtain ⟨u, hu, ru⟩ := rv.get hx
    exact ⟨u :: us, Rows.cons ⟨its.toArray, p, by simpa using hu⟩ r, .cons ru v⟩
  | _, [], _ :: _, _, h => h.elim
  | _, _ :: _, [], _, h => h.elim
abbrev fpN (n : Nat) (as : List Addr) : List Addr := (n + as.length + 2) :: (n + as.length) :: (n + as.length + 1) :: (mk n as).map (·.1)
def tnN (kd : Addr → Bool) (n : Nat) (as : List Addr) (i : Nat) (h : Heap) : Prop := ∃ (f0 : Value) (b : Bool) (ys : List Value), (f0 = .none ∨ ∃ a : Nat, f0 = rawInt a) ∧ St kd (n + as.length + 2) (n + as.length) (n + as.length + 1) f0 (.bool b) (mk n as) [] (mk n as) i ys h h 0
/-- a name or a tuple of targets -/
def Tgt : Expr → Prop
  | .Name _ _ => True
  | .Tuple _ _ _ => True
  | _ => False
theorem go_tgt {tg : Expr} (ht : Tgt tg) {prog : Program} {w : World} {A : Around} {E : Value → Shared → Prop} {s : Shared} {z TI TO U : Addr} {f0 : Value} {b : Bool} {Q : Unit → Shared → Prop} (hf : f0 = .none ∨ ∃ a : Nat, f0 = rawInt a) (hz : IsZipF s.heap z TI TO f0 (.bool b))
    (hQ : ∀ h' f0', (f0' = .none ∨ ∃ a : Nat, f0' = rawInt a) → IsZipF h' z TI TO f0' (.bool b) → Heap.SameBut z s.heap h' → Q () { s with heap := h' }) :
    wpAny (model prog w) A (letOwnedTupleGo tg (.ref z) (.ref U)) Q E s := by
  cases tg with
  | Name x p => exact wpAny_pure (hQ s.heap f0 hf hz ⟨rfl, fun _ _ => rfl⟩)
  | Tuple e k p => exact letGoN hf hz hQ
  | _ => exact ht.elim
theorem turnM {P : Program} {w : World} {K : PySem.W.Frag} {tg : Expr} (htg : Tgt tg) {kd : Addr → Bool} {n : Nat} {as : List (Bool × Addr)} (hk : ∀ p ∈ as, kd p.2 = p.1) (ne : as ≠ []) (l4 : as.length ≤ 4) (lt : ∀ a ∈ as, a.2 < n) :
    Turn P w K tg (ItM K as) (fpN n (adr as)) (n + (adr as).length + 2) (tnN kd n (adr as)) where
  mem := List.mem_cons_self ..
  obj := fun i h st c hc => by
    obtain ⟨f0, b, ys, _, S⟩ := st
    rcases List.mem_cons.mp hc with rfl | hc
    · exact ⟨_, S.hz, fun v q => nomatch q⟩
    rcases List.mem_cons.mp hc with rfl | hc
    · exact ⟨_, S.hTI, fun v q => nomatch q⟩
    rcases List.mem_cons.mp hc with rfl | hc
    · exact ⟨_, S.hTO, fun v q => nomatch q⟩
    obtain ⟨p, hp, rfl⟩ := List.mem_map.mp hc
    obtain ⟨o, e, d⟩ := (S.ht p hp).obj
    exact ⟨o, e, fun v q => by rw [d] at q; cases q⟩
  keep := fun i h h' st k => by
    obtain ⟨f0, b, ys, hf, S⟩ := st
    refine ⟨f0, b, ys, hf, k _ (by simp) _ S.hz, k _ (by simp) _ S.hTI, k _ (by simp) _ S.hTO, S.ly, (fun _ h => nomatch h), fun q hq => (S.ht q hq).at fun o e => k q.1 ?_ o e, rfl, fun _ _ _ _ _ e => e⟩
    exact List.mem_cons_of_mem _ (List.mem_cons_of_mem _ (List.mem_cons_of_mem _ (List.mem_map_of_mem hq)))
  item := by
    intro X hP hw hK hc i pins s σ H E I hf st hg
    subst hP hw hK
    obtain ⟨f0, b, ys, hf0, S⟩ := st
    obtain ⟨col, hcol⟩ := hg
    obtain ⟨us, R, ru⟩ := rows_of (kd := kd) (n := n) I hk hcol
    have ll : (mk n (adr as)).length = as.length := (mk_length n _).trans (List.length_map _)
    have lu : us.length ≤ 4 := by rw [← R.1, ll]; exact l4
    have lt' : ∀ a ∈ adr as, a < n := fun a ha => by
      obtain ⟨p, hp, rfl⟩ := List.mem_map.mp ha
      exact lt p hp
    have D := mk_apart lt'
    refine pyNext_zipN_item D (by rw [ll]; exact l4) (fun e => ne (by rw [← List.length_eq_zero_iff, ← ll, e]; rfl)) hf0 S R fun h' f0' b2 zs hf' S' hT => ?_
    refine ⟨_, rfl, go_tgt (s := { s with heap := h' }) htg hf' S'.hz fun h2 f0'' hf2 hz2 sb => ?_⟩
    have hzl : n + (adr as).length + 2 < s.heap.objs.size := Heap.lt_size S.hz
    have S2 : St kd (n + (adr as).length + 2) (n + (adr as).length) (n + (adr as).length + 1) f0'' (.bool b2) (mk n (adr as)) (mk n (adr as)) [] i zs s.heap h2 1 := S'.set D (by simp) hz2 sb
    have hT2 : IsTupV h2 s.heap.objs.size us := (sb.2 _ (Nat.ne_of_gt hzl)).trans hT
    have new : ObjOk X.prog X.w (upd H s.heap.objs.size (.tup col)) h2 s.heap.objs.size (.tup col) :=
      ⟨by show col.length ≤ sizeLine; rw [ru.length]; exact Nat.le_trans lu (by decide), us, ru, ⟨_, hT2, rfl, _, rfl⟩⟩
    have I1 : Inv X pins σ (upd H s.heap.objs.size (.tup col)) { s with heap := h2 } :=
      I.turnedNew (t' := s.toks) (ch := fpN n (adr as)) (fun c o hb q => S2.kp c o (fun q' => hb (by simp [q'])) (fun q' => hb (by simp [q'])) (fun p hp q' => hb (q' ▸ List.mem_cons_of_mem _ (List.mem_cons_of_mem _ (List.mem_cons_of_mem _ (List.mem_map_of_mem hp))))) q) hf (Nat.le_refl _) new
    refine ⟨.ref s.heap.objs.size, _, I1, rfl, ⟨_, col, rfl, I.hok.fresh (Nat.le_refl _), rfl, fun c h => col_inj I h hcol⟩, ⟨f0'', b2, zs, hf2, S2.hz, S2.hTI, S2.hTO, S2.ly, (fun _ h => nomatch h), S2.hd, rfl, fun _ _ _ _ _ e => e⟩, fun c hcm => ?_⟩
    have hlt : c < s.heap.objs.size := by
      rcases List.mem_cons.mp hcm with rfl | hc
      · exact Heap.lt_size S.hz
      rcases List.mem_cons.mp hc with rfl | hc
      · exact Heap.lt_size S.hTI
      rcases List.mem_cons.mp hc with rfl | hc
      · exact Heap.lt_size S.hTO
      obtain ⟨p, hp, rfl⟩ := List.mem_map.mp hc
      obtain ⟨o, e, d⟩ := (S.ht p hp).obj
      exact Heap.lt_size e
    rw [upd_ne (Nat.ne_of_lt hlt)]
    exact (hf c hcm).1
  done := by
    intro X hP hw hK hc i pins s σ H E I hf st hg
    subst hP hw hK
    obtain ⟨f0, b, ys, hf0, S⟩ := st
    obtain ⟨a, rest, xs, rfl, hq, hl⟩ := hg
    obtain ⟨its, rv, p⟩ := sq_of I (hk a (List.mem_cons_self ..)) hq
    have l1 := rv.length
    have lt' : ∀ b ∈ adr (a :: rest), b < n := fun b ha => by
      obtain ⟨p, hp, rfl⟩ := List.mem_map.mp ha
      exact lt p hp
    refine pyNext_zipN_end (p := (n, a.2)) (l := mk (n + 1) (adr rest)) (I.ok.hd hc) (mk_apart lt') hf0 S p (by simp; omega) fun h' hk => ⟨rfl, ?_⟩
    exact I.turnedL (t' := s.toks) (ch := fpN n (adr (a :: rest))) (fun c o hb q => hk c o (fun q' => hb (by rw [q']; simp)) (fun q' => hb (by rw [q']; simp))
      (fun p hp q' => hb (q' ▸ List.mem_cons_of_mem _ (List.mem_cons_of_mem _ (List.mem_cons_of_mem _ (List.mem_map_of_mem hp))))) q) hf
  self := fun A i s Q E st h => by
    obtain ⟨f0, b, ys, _, S⟩ := st
    exact wpAny_pyIter_zipN S.hz h
abbrev refV (as : List (Bool × Addr)) : List V := as.map fun p => V.ref p.2
def AllSq (K : PySem.W.Frag) (H : Hp) (as : List (Bool × Addr)) : Prop := as ≠ [] ∧ as.length ≤ 4 ∧ ∀ p ∈ as, ∃ xs, SqK K H p.1 p.2 xs
theorem vals_refs : ∀ {as : List (Bool × Addr)} {us : List Value}, Vals (refV as) us → us = (adr as).map Value.ref
  | [], _, .nil => rfl
  | a :: as, _, .cons h r => by
    obtain rfl := vals_refs r
    have h' : _ = Value.ref a.2 := h
    subst h'
    rfl
theorem zip_call {X : Cx} {pins : List (Addr × Obj)} {s : Shared} {σ : L2.St} {H : Hp} {Q : Value → Shared → Prop} {as : List (Bool × Addr)} (I : Inv X pins σ H s) (h : AllSq X.K H as)
    (k : ∀ (kd : Addr → Bool) h', Inv X pins σ H { s with heap := h' } → (∀ p ∈ as, kd p.2 = p.1) → as ≠ [] → as.length ≤ 4 → (∀ p ∈ as, p.2 < s.heap.objs.size) → tnN kd s.heap.objs.size (adr as) 0 h' → (∀ c ∈ fpN s.heap.objs.size (adr as), FpOk X pins H c) → Q (.ref (s.heap.objs.size + (adr as).length + 2)) { s with heap := h' }) :
    wpAny (model X.prog X.w) X.A (call (.type "zip") ((adr as).map .ref)) Q X.xe s := by
  obtain ⟨ne, l4, hr⟩ := h
  classical
  let kd : Addr → Bool := fun a => decide (∃ items, s.heap.IsTuple a items)
  have hk : ∀ p ∈ as, kd p.2 = p.1 := fun p hp => by
    obtain ⟨xs, hx⟩ := hr p hp
    unfold SqK at hx
    by_cases c : p.1 = true
    · rw [if_pos c] at hx
      obtain ⟨its, _, q, _⟩ := I.tuple hx
      rw [c]
      exact decide_eq_true ⟨its.toArray, q⟩
    · rw [if_neg c] at hx
      obtain ⟨its, _, q, _⟩ := I.list hx
      rw [Bool.not_eq_true] at c
      rw [c]
      refine decide_eq_false fun ⟨items, o, ho, hc, _⟩ => ?_
      obtain ⟨o2, n, ho2, hc2, _⟩ := q
      rw [ho] at ho2
      cases ho2
      rw [hc] at hc2
      exact absurd hc2 (by decide)
  have ht : ∀ b ∈ adr as, ∃ items, IsSq kd s.heap b items := fun b hb => by
    obtain ⟨p, hp, rfl⟩ := List.mem_map.mp hb
    obtain ⟨xs, h1⟩ := hr p hp
    obtain ⟨its, _, pl⟩ := sq_of I (hk p hp) h1
    exact ⟨its.toArray, pl⟩
  have lt : ∀ p ∈ as, p.2 < s.heap.objs.size := fun p hp => by
    obtain ⟨items, q⟩ := ht p.2 (List.mem_map_of_mem hp)
    obtain ⟨o, ho⟩ := q.obj
    exact Heap.lt_size ho
  have ne' : adr as ≠ [] := fun e => ne (List.map_eq_nil_iff.mp e)
  have l4' : (adr as).length ≤ 4 := by rw [List.length_map]; exact l4
  refine call_zipN ne' l4' ht fun h' M => ?_
  have I3 : Inv X pins σ H { s with heap := h' } := I.kept (t' := s.toks) M.kp
  refine k kd h' I3 hk ne l4 lt ⟨_, _, _, .inl rfl, M.st⟩ fun b hb => ?_
  have hle : s.heap.objs.size ≤ b := by
    rcases List.mem_cons.mp hb with rfl | hb
    · exact Nat.le_trans (Nat.le_add_right _ _) (Nat.le_add_right _ _)
    rcases List.mem_cons.mp hb with rfl | hb
    · exact Nat.le_add_right _ _
    rcases List.mem_cons.mp hb with rfl | hb
    · exact Nat.le_trans (Nat.le_add_right _ _) (Nat.le_add_right _ _)
    obtain ⟨p, hp, rfl⟩ := List.mem_map.mp hb
    exact (mk_mem hp).1
  exact I.fpOk hle (I.hok.fresh hle)
theorem zip_made {X : Cx} {tg : Expr} (htg : Tgt tg) {pins : List (Addr × Obj)} {s : Shared} {σ : L2.St} {H : Hp} {Q : Value → Shared → Prop} {as : List (Bool × Addr)} (I : Inv X pins σ H s) (h : AllSq X.K H as)
    (k : ∀ h' (ch : List Addr) (tn : Nat → Heap → Prop) (it : Addr), Inv X pins σ H { s with heap := h' } → Turn X.prog X.w X.K tg (ItM X.K as) ch it tn → tn 0 h' → (∀ c ∈ ch, FpOk X pins H c) → Q (.ref it) { s with heap := h' }) :
    wpAny (model X.prog X.w) X.A (call (.type "zip") ((adr as).map .ref)) (fun v s1 => wpAny (model X.prog X.w) X.A (pyIter v) Q X.xe s1) X.xe s :=
  zip_call I h fun kd h' I3 hk ne l4 lt st fp => by
    have st' := st
    obtain ⟨_, _, _, _, S⟩ := st
    exact wpAny_pyIter_zipN (s := { s with heap := h' }) S.hz (k h' _ _ _ I3 (turnM htg hk ne l4 lt) st' fp)
/-- zip(e, …) -/
def iZipM (K : PySem.W.Frag) (ta : TA) : TI := fun σ H R => ta σ H fun vs H1 => ∃ as, vs = refV as ∧ AllSq K H1 as ∧ R (ItM K as) H1
theorem pi_zipM {X : Cx} {e : Expr} {es : List Expr} {ta : TA} {p pos : Pos} {tg : Expr} (htg : Tgt tg) (hg : Gl X "zip") (hm : X.mg "zip" = none) (ha : PA X (e :: es) ta)
    (hs : starEach (e :: es) X.env = (false, eval e X.env) :: starEach es X.env := by rfl) (hpl : (backTo pos (starEach es X.env)).any (·.1) = false := by rfl) :
    PI X tg (.Call (.Name "zip" p) (e :: es) [] pos) (iZipM X.K ta) := by
  refine ⟨fun pins s σ H R I h => ?_⟩
  refine Call_ (ld_blt I hg hm PyProof.Rows.boot_zip (PyProof.Rows.callWith_type1 (thn (ha.run pos pins s σ H _ I h) fun us s1 ⟨vs, H1, I1, r1, as, e1, aq, q1⟩ => ?_) hs hpl))
  subst e1
  obtain rfl := vals_refs r1
  exact zip_made htg I1 aq fun h' ch tn it I3 T t0 fp => ⟨it, ch, tn, ItM X.K as, H1, rfl, I3, T, t0, fp, q1⟩
/-- zip(*e) -/
def iZipSM (K : PySem.W.Frag) (te : TE) : TI := fun σ H R => te σ H fun x H1 => ∃ (a : Addr) (as : List (Bool × Addr)), x = .ref a ∧ (SqT K H1 a (refV as) ∨ SqL K H1 a (refV as)) ∧ AllSq K H1 as ∧ R (ItM K as) H1
theorem pi_zipSM {X : Cx} {e : Expr} {te : TE} {p pos sp_ : Pos} {tg : Expr} (htg : Tgt tg) (hg : Gl X "zip") (hm : X.mg "zip" = none) (he : PE X e te)
    (hst : starEach [.Starred e sp_] X.env = [(true, eval e X.env)] := by rfl) :
    PI X tg (.Call (.Name "zip" p) [.Starred e sp_] [] pos) (iZipSM X.K te) := by
  refine ⟨fun pins s σ H R I h => ?_⟩
  refine Call_ (ld_blt I hg hm PyProof.Rows.boot_zip ?_)
  rw [hst]
  refine PySem.W.ks_call (P := fun _ => True) rfl (fun h _ => ⟨.machine, .inr (.inl rfl), PySem.W.Looks.of_pure rfl⟩) (PySem.W.ks_lone (thn (he.run pins s σ H _ I h) fun v s1 ⟨y, H1, I1, ry, a, as, ey, hq, aq, q⟩ => ?_))
  subst ey
  obtain rfl : v = Value.ref a := ry
  refine StX.star_any I1 hq fun us s2 I2 rv => ⟨trivial, ?_⟩
  obtain rfl := vals_refs rv
  exact zip_made htg I2 aq fun h' ch tn it I3 T t0 fp => ⟨it, ch, tn, ItM X.K as, H1, rfl, I3, T, t0, fp, q⟩
end ZMS
/-! QZ: zip of lists and tuples, enumerate. -/
namespace ET
open PySem
open Sem (wp)
open AutoSeq1 (wpAny_loadPart')
theorem meets_new (l : Addr) (items : Array Value) (n : Nat) (dct : Option Addr) (sl : Array (Option Value)) :
    Meets (Builtin.«enumerate.__new__» ⟨[.type "enumerate", .ref l], []⟩) (fun _ R s =>
      s.heap.get? l = some { cls := .type "tuple", dict := dct, data := .seq items n, slots := sl } ∧
      R (.ok (.ret (.ref (s.heap.push { cls := .type "tuple_iterator", data := .fields #[.ref l, .int 0 0] }).objs.size)))
        { s with heap := (s.heap.push { cls := .type "tuple_iterator", data := .fields #[.ref l, .int 0 0] }).push { cls := .type "enumerate", data := .fields #[.none, .bool false, .ref s.heap.objs.size, rawInt 0, .none, .none] } }) := by
  refine .of_wp fun prog w A R s h => ?_
  obtain ⟨hp, g, d, tk, os⟩ := s
  obtain ⟨hl, h⟩ := h
  have hsub := sub_enumerate
  have hT : Heap.IsTuple (Shared.heap ⟨hp, g, d, tk, os⟩) l items := ⟨_, hl, rfl, n, rfl⟩
  wp_walk using wpAny_loadPart' hl
  refine wpAny_stack_any (fun st => wpAny_pure ?_)
  split
  · rename_i c _ _ _ _ _
    cases (c == Value.type "enumerate") <;> (wp_walk using wpAny_loadPart' hl, wpAny_pyIter_tuple hT; exact ⟨_, rfl, h⟩)
  · wp_walk using wpAny_loadPart' hl, wpAny_pyIter_tuple hT
    exact ⟨_, rfl, h⟩
theorem call_new {prog : Program} {w : World} {A : Around} {E : Value → Shared → Prop} {s : Shared} {l : Addr} {items : Array Value} {Q : Value → Shared → Prop} (hL : s.heap.IsTuple l items)
    (h : ∀ h', IsEnum h' (s.heap.objs.size + 1) s.heap.objs.size 0 .none → h'.IsTupleIter s.heap.objs.size l 0 →
      (∀ b o, s.heap.get? b = some o → h'.get? b = some o) → Q (.ref (s.heap.objs.size + 1)) { s with heap := h' }) :
    wpAny (model prog w) A (call (.type "enumerate") [.ref l]) Q E s := by
  obtain ⟨⟨c, dct, dt, sl⟩, hl, hc, n, hd⟩ := hL
  obtain rfl : c = .type "tuple" := hc
  obtain rfl : dt = .seq items n := hd
  refine callType_new F.called_enumerate (by decide) (F.typeCall_enumerate_1 _) (F.newCall_enumerate_1 _)
    (fun obj => F.args_object_init_2 obj _) F.entry_enumerate_new (meets_new l items n dct sl) ⟨hl, ?_⟩
  have hz : (s.heap.push { cls := .type "tuple_iterator", data := .fields #[.ref l, .int 0 0] }).objs.size = s.heap.objs.size + 1 := Heap.size_push ..
  show _ ∧ _
  rw [hz]
  have he := Heap.get?_push_size (s.heap.push { cls := .type "tuple_iterator", data := .fields #[.ref l, .int 0 0] })
    (o := { cls := .type "enumerate", data := .fields #[.none, .bool false, .ref s.heap.objs.size, rawInt 0, .none, .none] }) rfl
  rw [hz] at he
  exact ⟨⟨_, he, rfl⟩, h _ he ⟨_, Heap.get?_push_of_some _ (Heap.get?_push_size _ rfl), rfl, rfl⟩ (fun b o x => Heap.get?_push_of_some _ (Heap.get?_push_of_some _ x))⟩
end ET
namespace QD
open PySem PySem.Spec PyProof.Rows L2 MG ZMS

/-- the tuple at a as it stands at each turn, each item in a new pair -/
def IteT (K : PySem.W.Frag) (a : Addr) : It :=
  ⟨fun i H => ∃ (xs : List V) (x : V), SqT K H a xs ∧ xs[i]? = some x,
   fun i H v H' => ∃ T x, v = .ref T ∧ H T = none ∧ H' = upd H T (.tup [.int (i : Nat), x]) ∧ ∀ xs, SqT K H a xs → xs[i]? = some x,
   fun i H => ∃ xs : List V, SqT K H a xs ∧ xs.length = i⟩
theorem turn_enumT {P : Program} {w : World} {K : PySem.W.Frag} {elts : List Expr} {kk : Nat} {tpos : Pos} (a e it : Addr) :
    Turn P w K (.Tuple elts kk tpos) (IteT K a) [e, it] e (fun i h => (∃ old, IsEnum h e it ((i : Nat) : Int) old) ∧ h.IsTupleIter it a i ∧ e ≠ it) where
  mem := by simp
  obj := fun i h st b hb => by
    obtain ⟨⟨old, he⟩, ⟨o, ho, hc, hd⟩, _⟩ := st
    rcases (show b = e ∨ b = it by simpa using hb) with rfl | rfl
    · exact ⟨_, he, fun v q => nomatch q⟩
    · exact ⟨o, ho, fun v q => by rw [hd] at q; cases q⟩
  keep := fun i h h' st k => by
    obtain ⟨⟨old, he⟩, hi, hne⟩ := st
    exact ⟨⟨old, k e (by simp) _ he⟩, hi.at fun o q => k it (by simp) o q, hne⟩
  item := by
    intro X hP hw hK hc i pins s σ H E I hf st hg
    subst hP hw hK
    obtain ⟨⟨old, he⟩, hit, hne⟩ := st
    obtain ⟨xs, x, hq, hx⟩ := hg
    obtain ⟨its, rv, p, hz⟩ := I.tuple hq
    obtain ⟨u, hu, ru⟩ := rv.get hx
    have hel := Heap.lt_size he
    have hil : it < s.heap.objs.size := by obtain ⟨_, q, _⟩ := hit; exact Heap.lt_size q
    have pT : s.heap.IsTuple a its.toArray := p
    have nai : a ≠ it := fun z => by
      obtain ⟨o1, h1, c1, _⟩ := pT
      obtain ⟨o2, h2, c2, _⟩ := hit
      rw [z, h2] at h1
      cases h1
      rw [c1] at c2
      exact absurd c2 (by decide)
    have nae : e ≠ a := fun z => by
      obtain ⟨o1, h1, c1, _⟩ := pT
      rw [← z, he] at h1
      cases h1
      exact absurd (show Value.type "enumerate" = Value.type "tuple" from c1) (by decide)
    have hlt : i < its.toArray.size := by
      have := (List.getElem?_eq_some_iff.mp hu).1
      simpa using this
    refine wpAny_pyNext_enum_itemD (Draws.tuple (A := X.A.in1) (I.ok.hd hc) it a nai its.toArray) he ⟨hit, pT⟩ hlt hne (by simp [hne, nae]) (fun y h' tk hy ho st' hT hsz hk => ?_)
    have ey : y = u := by
      have h1 : its.toArray[i]? = some y := hy
      have h2 : its.toArray[i]? = some u := by simpa using hu
      rw [h1] at h2
      exact Option.some.inj h2
    subst ey
    refine ⟨_, rfl, wpAny_letOwnedTupleGo_enum (s := { s with heap := h', toks := tk + 1 }) ho (fun h'' he' sb => ?_)⟩
    have hT2 := (sb.2 _ (Nat.ne_of_gt hel)).trans hT
    have new : ObjOk X.prog X.w (upd H s.heap.objs.size (.tup [.int (i : Nat), x])) h'' s.heap.objs.size (.tup [.int (i : Nat), x]) :=
      ⟨by show 2 ≤ sizeLine; decide, [.int i tk, y], .cons ⟨_, rfl⟩ (.cons ru .nil), ⟨_, hT2, rfl, _, rfl⟩⟩
    have I1 : Inv X pins σ (upd H s.heap.objs.size (.tup [.int (i : Nat), x])) { s with heap := h'', toks := tk + 1 } :=
      I.turnedNew (ch := [e, it]) (fun b ob hb q => (sb.2 b (fun z => hb (by simp [z]))).trans (hk b ob (fun z => hb (by simp [z])) (fun z => hb (by simp [z])) q)) hf (Nat.le_refl _) new
    refine ⟨.ref s.heap.objs.size, _, I1, rfl, ⟨_, x, rfl, I.hok.fresh (Nat.le_refl _), rfl, fun ys hy => by rw [I.tuple_inj hy hq]; exact hx⟩, ⟨⟨y, ?_⟩, st'.1.at fun o q => (sb.2 it (Ne.symm hne)).trans q, hne⟩, fun b hb => ?_⟩
    · rw [show ((i + 1 : Nat) : Int) = (i : Int) + 1 by omega]
      exact he'
    · have hb' : b < s.heap.objs.size := by
        rcases (show b = e ∨ b = it by simpa using hb) with z | z
        · rw [z]; exact hel
        · rw [z]; exact hil
      rw [upd_ne (Nat.ne_of_lt hb')]
      exact (hf b hb).1
  done := by
    intro X hP hw hK hc i pins s σ H E I hf st hg
    subst hP hw hK
    obtain ⟨⟨old, he⟩, hit, hne⟩ := st
    obtain ⟨xs, hq, hx⟩ := hg
    obtain ⟨its, rv, p, hz⟩ := I.tuple hq
    obtain ⟨f0, f1, f2, f3, f4, f5⟩ := hf it (by simp)
    have hl := rv.length
    have pT : s.heap.IsTuple a its.toArray := p
    have nai : a ≠ it := fun z => by
      obtain ⟨o1, h1, c1, _⟩ := pT
      obtain ⟨o2, h2, c2, _⟩ := hit
      rw [z, h2] at h1
      cases h1
      rw [c1] at c2
      exact absurd c2 (by decide)
    have ei : i = its.toArray.size := by
      rw [← hx, hl]
      simp
    subst ei
    exact wpAny_pyNext_enum_endD (Draws.tuple (A := X.A.in1) (I.ok.hd hc) it a nai its.toArray) he ⟨hit, pT⟩ (fun h' eb => ⟨rfl, I.turned (t' := s.toks) (fun b o hb q => eb b o hb q) f0 f1 f3 f4 f5⟩)
  self := fun A i s Q E st h => by
    obtain ⟨⟨_, he⟩, _⟩ := st
    exact wpAny_pyIter_enum he h

def iEnumT (K : PySem.W.Frag) (ta : TA) : TI := fun σ H R => ta σ H fun vs H1 => ∃ a xs, vs = [.ref a] ∧ SqT K H1 a xs ∧ R (IteT K a) H1
theorem pi_enumT {X : Cx} {e : Expr} {ta : TA} {p pos tpos : Pos} {elts : List Expr} {kk : Nat} (hg : Gl X "enumerate") (hm : X.mg "enumerate" = none) (ha : PA X [e] ta)
    (hs : starEach [e] X.env = [(false, eval e X.env)] := by rfl) : PI X (.Tuple elts kk tpos) (.Call (.Name "enumerate" p) [e] [] pos) (iEnumT X.K ta) := by
  constructor
  intro pins s σ H R I h
  refine Call_ (ld_blt I hg hm boot_enumerate (PyProof.Rows.callWith_type1 (thn (ha.run pos pins s σ H _ I h) (fun us s1 hh => ?_)) hs rfl))
  obtain ⟨vs, H1, I1, r1, a, xs, ex, hq, q⟩ := hh
  subst ex
  cases r1 with
  | cons r rr =>
    cases rr
    cases r
    obtain ⟨its, rv, p', hz⟩ := I1.tuple hq
    refine ET.call_new (show s1.heap.IsTuple a its.toArray from p') (fun h' he hit hk => wpAny_pyIter_enum he ?_)
    have I2 : Inv X pins σ H1 { s1 with heap := h' } := I1.kept (t' := s1.toks) hk
    refine ⟨s1.heap.objs.size + 1, [s1.heap.objs.size + 1, s1.heap.objs.size], _, _, H1, rfl, I2, turn_enumT a (s1.heap.objs.size + 1) s1.heap.objs.size, ⟨⟨.none, he⟩, hit, Nat.succ_ne_self _⟩, (fun b hb => ?_), q⟩
    have hle : s1.heap.objs.size ≤ b := by
      rcases (show b = s1.heap.objs.size + 1 ∨ b = s1.heap.objs.size by simpa using hb) with z | z
      · rw [z]; exact Nat.le_add_right _ _
      · exact Nat.le_of_eq z.symm
    exact I1.fpOk hle (I1.hok.fresh hle)

section
variable {cf : Cf} {E : XK} {m m1 : Mo} {st : Sto}
/-- a list (false) or a tuple (true) -/
def kndD : D → Option (Bool × List D)
  | .list l => some (false, l)
  | .tuple l => some (true, l)
  | .dict [(.none, .list l)] => some (false, l)
  | _ => none
def kndW : W → Option (Bool × List D)
  | .fz d => kndD d
  | .own l => some (false, l)
  | .loc _ => none
  | .nst _ => none
/-- from the moment m on these data stand at p -/
def At (cf : Cf) (m : Mo) (p : Bool × Addr) (k : Bool × List D) : Prop := p.1 = k.1 ∧ ∀ m', Stb m m' → ∃ xs, SqK cf.K m'.hp p.1 p.2 xs ∧ FzA cf.K cf.ct m' xs k.2
theorem knd_fz {v : V} {d : D} {k : Bool × List D} (r : Fz cf.K cf.ct m v d) (e : kndD d = some k) : ∃ p : Bool × Addr, v = .ref p.2 ∧ At cf m p k := by
  unfold kndD at e
  split at e
  case h_1 l =>
    cases e
    cases r with
    | @lst a xs _ h1 h2 h3 h4 => exact ⟨(false, a), rfl, rfl, fun m' s => ⟨xs, SqL.of (s.keep _ _ h1 h2 h3), h4.tob s⟩⟩
  case h_2 l =>
    cases e
    cases r with
    | @tup a xs _ h1 h2 => exact ⟨(true, a), rfl, rfl, fun m' s => ⟨xs, (h1.tob s).sq, h2.tob s⟩⟩
  case h_3 l =>
    cases e
    cases r with
    | @ro a xs _ h1 h2 => exact ⟨(false, a), rfl, rfl, fun m' s => ⟨xs, (h1.tob s).sq, h2.tob s⟩⟩
  case h_4 => cases e
theorem knd_at {v : V} {w : W} {k : Bool × List D} (r : WR cf.K cf.ct m v w) (e : kndW w = some k) : ∃ p : Bool × Addr, v = .ref p.2 ∧ At cf m p k := by
  cases w with
  | fz d => exact knd_fz r e
  | own l => exact knd_fz (d := .list l) r.fz_of e
  | nst _ => cases e
  | loc n => cases e
def kndWs : List W → Option (List (Bool × List D))
  | [] => some []
  | w :: ws => match kndW w, kndWs ws with
    | some k, some ks => some (k :: ks)
    | _, _ => none
def kndDs : List D → Option (List (Bool × List D))
  | [] => some []
  | w :: ws => match kndD w, kndDs ws with
    | some k, some ks => some (k :: ks)
    | _, _ => none
theorem knds_ok : ∀ {vs : List V} {ws : List W} {ks : List (Bool × List D)}, WRs cf m vs ws → kndWs ws = some ks → ∃ as, vs = refV as ∧ Paired (At cf m) as ks
  | _, _, _, .nil, e => by cases e; exact ⟨[], rfl, .nil⟩
  | _, w :: ws, ks, .cons a b, e => by
    unfold kndWs at e
    cases e1 : kndW w with
    | none => rw [e1] at e; cases e
    | some d =>
      cases e2 : kndWs ws with
      | none => rw [e1, e2] at e; cases e
      | some ds =>
        rw [e1, e2] at e
        cases e
        obtain ⟨p, rfl, hp⟩ := knd_at a e1
        obtain ⟨as, rfl, ha⟩ := knds_ok b e2
        exact ⟨p :: as, rfl, .cons hp ha⟩
theorem kndds_ok : ∀ {vs : List V} {ws : List D} {ks : List (Bool × List D)}, FzA cf.K cf.ct m vs ws → kndDs ws = some ks → ∃ as, vs = refV as ∧ Paired (At cf m) as ks
  | _, _, _, .nil, e => by cases e; exact ⟨[], rfl, .nil⟩
  | _, w :: ws, ks, .cons a b, e => by
    unfold kndDs at e
    cases e1 : kndD w with
    | none => rw [e1] at e; cases e
    | some d =>
      cases e2 : kndDs ws with
      | none => rw [e1, e2] at e; cases e
      | some ds =>
        rw [e1, e2] at e
        cases e
        obtain ⟨p, rfl, hp⟩ := knd_fz a e1
        obtain ⟨as, rfl, ha⟩ := kndds_ok b e2
        exact ⟨p :: as, rfl, .cons hp ha⟩
/-- the rows of a zip -/
def zipD (ks : List (Bool × List D)) : List D := match ks with
  | [] => []
  | k :: _ => (List.range k.2.length).map fun i => .tuple (ks.map fun p => p.2.getD i .none)
def okZ (ks : List (Bool × List D)) : Bool := match ks with
  | [] => false
  | k :: r => decide (r.length ≤ 3) && r.all fun p => decide (p.2.length = k.2.length)
theorem all_at {as : List (Bool × Addr)} {ks : List (Bool × List D)} (h : Paired (At cf m) as ks) : ∀ p ∈ as, ∃ xs, SqK cf.K m.hp p.1 p.2 xs := by
  induction h with
  | nil => exact fun _ h => nomatch h
  | cons a t ih =>
    intro p hp
    rcases List.mem_cons.mp hp with rfl | hp
    · obtain ⟨xs, h1, _⟩ := a.2 m Stp.refl.stb
      exact ⟨xs, h1⟩
    · exact ih p hp
theorem allSq_of {as : List (Bool × Addr)} {ks : List (Bool × List D)} (h : Paired (At cf m) as ks) (o : okZ ks = true) : AllSq cf.K m.hp as := by
  refine ⟨fun e => ?_, ?_, all_at h⟩
  · subst e; cases h; cases o
  · have l := Paired.len h
    cases ks with
    | nil => cases o
    | cons k r =>
      have := (Bool.and_eq_true_iff.mp o).1
      have := of_decide_eq_true this
      rw [l, List.length_cons]
      omega
theorem col_ok {as : List (Bool × Addr)} {ks : List (Bool × List D)} {i : Nat} (h : Paired (At cf m) as ks) (s : Stb m m1) (hi : ∀ k ∈ ks, i < k.2.length) : ∃ col, ColAt cf.K m1.hp i as col ∧ FzA cf.K cf.ct m1 col (ks.map fun p => p.2.getD i .none) := by
  induction h with
  | nil => exact ⟨[], trivial, .nil⟩
  | @cons p k ps ks a t ih =>
    obtain ⟨col, h1, h2⟩ := ih fun k hk => hi k (List.mem_cons_of_mem _ hk)
    obtain ⟨xs, h3, h4⟩ := a.2 m1 s
    have l := hi k (List.mem_cons_self ..)
    obtain ⟨v, hv, fv⟩ := h4.get (i := i) (d := k.2.getD i .none) (by rw [List.getD_eq_getElem?_getD, List.getElem?_eq_getElem l]; rfl)
    exact ⟨v :: col, ⟨⟨xs, h3, hv⟩, h1⟩, .cons fv h2⟩
theorem its_zip {as : List (Bool × Addr)} {ks : List (Bool × List D)} (h : Paired (At cf m) as ks) (o : okZ ks = true) : ItS cf m (ItM cf.K as) ⟨zipD ks, none⟩ := fun m' st' i s S' ok => by
  cases h with
  | nil => cases o
  | @cons p k ps r a t =>
    have len : (zipD (k :: r)).length = k.2.length := by unfold zipD; simp
    refine ⟨fun h1 _ => ?_, fun d hd => ?_⟩
    · obtain ⟨xs, h3, h4⟩ := a.2 m' s
      have h1' : (zipD (k :: r)).length ≤ i := h1
      exact ⟨p, ps, xs, rfl, h3, by rw [h4.length]; omega⟩
    · have hd' : (zipD (k :: r))[i]? = some d := hd
      have hl : i < k.2.length := by
        have := (List.getElem?_eq_some_iff.mp hd').1
        omega
      have hi : ∀ q ∈ k :: r, i < q.2.length := fun q hq => by
        rcases List.mem_cons.mp hq with rfl | hq
        · exact hl
        · have := of_decide_eq_true (List.all_eq_true.mp (Bool.and_eq_true_iff.mp o).2 q hq)
          omega
      have ed : d = .tuple ((k :: r).map fun p => p.2.getD i .none) := by
        unfold zipD at hd'
        rw [List.getElem?_map, List.getElem?_range hl] at hd'
        cases hd'
        rfl
      obtain ⟨col, h1, h2⟩ := col_ok (.cons a t) s hi
      refine ⟨⟨col, h1⟩, fun x H' y => ?_⟩
      obtain ⟨T, c, rfl, hT, rfl, u⟩ := y
      have := u col h1
      subst this
      refine ⟨sameNew hT, ?_⟩
      rw [ed]
      exact .tup (.inl ⟨S'.out hT, fun z => S'.bl T z hT, .inl upd_same⟩) (h2.to (Stp.one hT))
def iZip (a : DnA) : En → Sto → Rt Src := fun en st => (a en st).bind fun ws st1 => match kndWs ws with
  | some ks => if okZ ks = true then .ok ⟨zipD ks, none⟩ st1 else .no
  | none => .no
theorem ei_zip {t : TA} {a : DnA} (ha : Ea cf E t a) : Ei cf E (iZipM cf.K t) (iZip a) := fun m σ en st R er S h => by
  refine ha m σ en st _ er S ?_
  unfold iZip at h
  cases e : a en st with
  | ex c p st1 => rw [e] at h; exact h
  | no => rw [e] at h; exact h
  | ok x st1 =>
    rw [e, Rt.bind_ok] at h
    intro vs m1 s1 S1 r1
    cases e2 : kndWs x with
    | none => rw [e2] at h; exact h.elim
    | some ks =>
      rw [e2] at h
      dsimp only at h
      split at h
      case isFalse => exact h.elim
      case isTrue o =>
        obtain ⟨as, rfl, hp⟩ := knds_ok r1 e2
        exact ⟨as, rfl, allSq_of hp o, h _ m1 s1 S1 (its_zip hp o)⟩
def iZipS (a : Dn) : En → Sto → Rt Src := fun en st => (a en st).bind fun x st1 => match (kndW x).bind fun k => kndDs k.2 with
  | some ks => if okZ ks = true then .ok ⟨zipD ks, none⟩ st1 else .no
  | none => .no
theorem ei_zipS {t : TE} {a : Dn} (ha : Ev cf E t a) : Ei cf E (iZipSM cf.K t) (iZipS a) := fun m σ en st R er S h => by
  refine ha m σ en st _ er S ?_
  unfold iZipS at h
  cases e : a en st with
  | ex c p st1 => rw [e] at h; exact h
  | no => rw [e] at h; exact h
  | ok x st1 =>
    rw [e, Rt.bind_ok] at h
    intro v m1 r1
    cases e2 : kndW x with
    | none => rw [e2] at h; exact h.elim
    | some k =>
      rw [e2, Option.bind_some] at h
      cases e3 : kndDs k.2 with
      | none => rw [e3] at h; exact h.elim
      | some ks =>
        rw [e3] at h
        dsimp only at h
        split at h
        case isFalse => exact h.elim
        case isTrue o =>
          obtain ⟨p, rfl, hk, hp⟩ := knd_at r1.wr e2
          obtain ⟨xs, h1, h2⟩ := hp m1 Stp.refl.stb
          obtain ⟨as, rfl, ha⟩ := kndds_ok h2 e3
          refine ⟨p.2, as, rfl, ?_, allSq_of ha o, h _ m1 r1.stp r1.sr (its_zip ha o)⟩
          unfold SqK at h1
          split at h1
          · exact .inl h1
          · exact .inr h1
/-! ### enumerate -/
def enuD (l : List D) : List D := (List.range l.length).map fun i => .tuple [.int (i : Nat), l.getD i .none]
def iEnu (b : Bool) (a : Dn) : En → Sto → Rt Src := fun en st => (a en st).bind fun x st1 => match kndW x with
  | some k => if k.1 = b then .ok ⟨enuD k.2, none⟩ st1 else .no
  | none => .no
theorem enu_get {l : List D} {i : Nat} {d : D} (h : (enuD l)[i]? = some d) : i < l.length ∧ d = .tuple [.int (i : Nat), l.getD i .none] ∧ l[i]? = some (l.getD i .none) := by
  have hl : i < l.length := by
    have := (List.getElem?_eq_some_iff.mp h).1
    unfold enuD at this
    simpa using this
  unfold enuD at h
  rw [List.getElem?_map, List.getElem?_range hl] at h
  cases h
  exact ⟨hl, rfl, by rw [List.getD_eq_getElem?_getD, List.getElem?_eq_getElem hl]; rfl⟩
theorem ei_enT {t : TE} {a : Dn} (ha : Ev cf E t a) : Ei cf E (iEnumT cf.K (tCons t tNil)) (iEnu true a) := fun m σ en st R er S h => by
  refine ha m σ en st _ er S ?_
  unfold iEnu at h
  cases e : a en st with
  | ex c p st1 => rw [e] at h; exact h
  | no => rw [e] at h; exact h
  | ok x st1 =>
    rw [e, Rt.bind_ok] at h
    intro v m1 r1
    cases e2 : kndW x with
    | none => rw [e2] at h; exact h.elim
    | some k =>
      rw [e2] at h
      dsimp only at h
      split at h
      case isFalse => exact h.elim
      case isTrue o =>
        obtain ⟨⟨b, q⟩, rfl, hk, hp⟩ := knd_at r1.wr e2
        obtain rfl : b = true := hk.trans o
        obtain ⟨xs, h1, h2⟩ := hp m1 Stp.refl.stb
        refine ⟨q, xs, rfl, h1, h _ m1 r1.stp r1.sr fun m' st' i s S' ok => ?_⟩
        obtain ⟨ys, h3, h4⟩ := hp m' s
        have h3 : SqT cf.K m'.hp q ys := h3
        have el : (enuD k.2).length = k.2.length := by unfold enuD; simp
        refine ⟨fun g1 g2 => ⟨ys, h3, ?_⟩, fun d hd => ?_⟩
        · have g1' : (enuD k.2).length ≤ i := g1
          have g2' : i ≤ (enuD k.2).length := g2
          rw [h4.length]; omega
        · obtain ⟨hl, rfl, hg⟩ := enu_get hd
          obtain ⟨v, hv, fv⟩ := h4.get hg
          refine ⟨⟨ys, v, h3, hv⟩, fun x H' y => ?_⟩
          obtain ⟨T, x, rfl, hT, rfl, u⟩ := y
          have := u ys h3
          rw [hv] at this
          cases this
          exact ⟨sameNew hT, .tup (.inl ⟨S'.out hT, fun z => S'.bl T z hT, .inl upd_same⟩) (FzA.to (Stp.one hT) (.cons (.int _) (.cons fv .nil)))⟩
theorem ei_enL {t : TE} {a : Dn} (ha : Ev cf E t a) : Ei cf E (iEnum cf.K (tCons t tNil)) (iEnu false a) := fun m σ en st R er S h => by
  refine ha m σ en st _ er S ?_
  unfold iEnu at h
  cases e : a en st with
  | ex c p st1 => rw [e] at h; exact h
  | no => rw [e] at h; exact h
  | ok x st1 =>
    rw [e, Rt.bind_ok] at h
    intro v m1 r1
    cases e2 : kndW x with
    | none => rw [e2] at h; exact h.elim
    | some k =>
      rw [e2] at h
      dsimp only at h
      split at h
      case isFalse => exact h.elim
      case isTrue o =>
        obtain ⟨⟨b, q⟩, rfl, hk, hp⟩ := knd_at r1.wr e2
        obtain rfl : b = false := hk.trans o
        obtain ⟨xs, h1, h2⟩ := hp m1 Stp.refl.stb
        refine ⟨q, xs, rfl, h1, h _ m1 r1.stp r1.sr fun m' st' i s S' ok => ?_⟩
        obtain ⟨ys, h3, h4⟩ := hp m' s
        have h3 : SqL cf.K m'.hp q ys := h3
        have el : (enuD k.2).length = k.2.length := by unfold enuD; simp
        refine ⟨fun g1 g2 => ⟨ys, h3, ?_⟩, fun d hd => ?_⟩
        · have g1' : (enuD k.2).length ≤ i := g1
          rw [h4.length]; omega
        · obtain ⟨hl, rfl, hg⟩ := enu_get hd
          obtain ⟨v, hv, fv⟩ := h4.get hg
          refine ⟨⟨ys, v, h3, hv⟩, fun x H' y => ?_⟩
          obtain ⟨T, x, rfl, hT, rfl, u⟩ := y
          have := u ys h3
          rw [hv] at this
          cases this
          exact ⟨sameNew hT, .tup (.inl ⟨S'.out hT, fun z => S'.bl T z hT, .inl upd_same⟩) (FzA.to (Stp.one hT) (.cons (.int _) (.cons fv .nil)))⟩
end
section
variable {X : Cx}
/-! with the part named -/
theorem pi_zipMK (K : PySem.W.Frag) {e : Expr} {es : List Expr} {ta : TA} {p pos : Pos} {tg : Expr} (htg : Tgt tg) (hg : Gl X "zip") (hm : X.mg "zip" = none) (ha : PA X (e :: es) ta) (h : X.K = K := by rfl)
    (hs : starEach (e :: es) X.env = (false, eval e X.env) :: starEach es X.env := by rfl) (hpl : (backTo pos (starEach es X.env)).any (·.1) = false := by rfl) :
    PI X tg (.Call (.Name "zip" p) (e :: es) [] pos) (iZipM K ta) := by subst h; exact pi_zipM htg hg hm ha hs hpl
theorem pi_zipSMK (K : PySem.W.Frag) {e : Expr} {te : TE} {p pos sp_ : Pos} {tg : Expr} (htg : Tgt tg) (hg : Gl X "zip") (hm : X.mg "zip" = none) (he : PE X e te) (h : X.K = K := by rfl)
    (hst : starEach [.Starred e sp_] X.env = [(true, eval e X.env)] := by rfl) : PI X tg (.Call (.Name "zip" p) [.Starred e sp_] [] pos) (iZipSM K te) := by subst h; exact pi_zipSM htg hg hm he hst
theorem pi_enTK (K : PySem.W.Frag) {e : Expr} {te : TE} {p pos tpos : Pos} {elts : List Expr} {kk : Nat} (hg : Gl X "enumerate") (hm : X.mg "enumerate" = none) (ha : PE X e te) (h : X.K = K := by rfl)
    (na : starEach [e] X.env = [(false, eval e X.env)] := by rfl) : PI X (.Tuple elts kk tpos) (.Call (.Name "enumerate" p) [e] [] pos) (iEnumT K (tCons te tNil)) := by subst h; exact pi_enumT hg hm (pa_cons ha pa_nil (hs := na)) na
theorem pi_enLK (K : PySem.W.Frag) {e : Expr} {te : TE} {p pos tpos : Pos} {elts : List Expr} {kk : Nat} (hg : Gl X "enumerate") (hm : X.mg "enumerate" = none) (ha : PE X e te) (h : X.K = K := by rfl)
    (na : starEach [e] X.env = [(false, eval e X.env)] := by rfl) : PI X (.Tuple elts kk tpos) (.Call (.Name "enumerate" p) [e] [] pos) (iEnum K (tCons te tNil)) := by subst h; exact pi_enum hg hm (pa_cons ha pa_nil (hs := na)) na
end
end QD
/-! QF2: comprehensions of two clauses. -/
namespace QD
open PySem PySem.Spec PyProof.Rows L2 MG
open Classical in
/-- the inner turns -/
noncomputable def lcI (s : Src) (g : DnG) (t : DnT) (e : Dn) (en0 : En) : List D → List D → Sto → Rt (List D)
  | [], acc, st => if s.ok st then .ok acc st else .no
  | d :: ds, acc, st => if s.ok st then (nox (g (.fz d) en0 st)).bind fun en2 st2 => (nox (t en2 st2)).bind fun b st3 =>
      if b = true then (nox (e en2 st3)).bind fun w st4 => match datW w with
        | some y => if acc.length < sizeLine then lcI s g t e en0 ds (acc ++ [y]) st4 else .no
        | none => .no
      else lcI s g t e en0 ds acc st3
    else .no
open Classical in
noncomputable def lc2L (s : Src) (g : DnG) (t : DnT) (i1 : En → Sto → Rt Src) (g1 : DnG) (t1 : DnT) (e : Dn) (vs1 : List Nat) (en0 : En) : List D → List D → Sto → Rt W
  | [], acc, st => if s.ok st then .ok (.own acc) st else .no
  | d :: ds, acc, st => if s.ok st then (nox (g (.fz d) en0 st)).bind fun en2 st2 => (nox (t en2 st2)).bind fun b st3 =>
      if b = true then (nox (i1 en2 st3)).bind fun s1 st4 => (lcI s1 g1 t1 e (wipeE en2 vs1) s1.l acc st4).bind fun acc2 st5 => lc2L s g t i1 g1 t1 e vs1 en0 ds acc2 st5
      else lc2L s g t i1 g1 t1 e vs1 en0 ds acc st3
    else .no
noncomputable def dLc2 (i : En → Sto → Rt Src) (g : DnG) (t : DnT) (i1 : En → Sto → Rt Src) (g1 : DnG) (t1 : DnT) (e : Dn) (vs vs1 : List Nat) : Dn := fun en st => (i en st).bind fun s st1 => lc2L s g t i1 g1 t1 e vs1 (wipeE en vs) s.l [] st1
section
variable {cf : Cf} {E : XK} {m m1 : Mo} {st : Sto} {q : Addr}
theorem Stb.stp {m' m2 : Mo} (hb : ∀ a, m'.be a → m'.hp a ≠ none) (s : Stb m m') (t : Stp m' m2) : Stb m m2 := by
  obtain ⟨e1, z1, f1⟩ := s.ext
  obtain ⟨e2, z2, f2⟩ := t.ext
  have sub : ∀ a, a ∈ m.rh → a ∈ m'.rh := fun a z => by rw [z1]; exact List.mem_append_left _ z
  have old : ∀ a, a ∉ m'.rh → m'.hp a = none → a ∉ m.rh ∧ m.hp a = none := fun a n e => by
    refine ⟨fun z => n (sub a z), ?_⟩
    cases q : m.hp a with
    | none => rfl
    | some o =>
      by_cases c : m.be a
      · exact absurd e (hb a (s.bl a c))
      · have := s.keep a o (fun z => n (sub a z)) c q
        rw [e] at this
        cases this
  refine ⟨fun a h => t.bl a (s.bl a h), fun a h => ?_, ⟨e1 ++ e2, by rw [z2, z1, List.append_assoc], fun b h => ?_⟩, fun b o n nb e => ?_⟩
  · rcases t.be a h with h | h
    · exact s.be a h
    · exact .inr (old a h.1 h.2)
  · rcases List.mem_append.mp h with h | h
    · exact f1 b h
    · exact old b (f2 b h).1 (f2 b h).2
  · refine t.keep b o (fun z => ?_) (s.keep b o n nb e)
    rw [z1] at z
    rcases List.mem_append.mp z with z | z
    · exact n z
    · rw [(f1 b z).2] at e; cases e
theorem stb_chq {m' : Mo} {o : HO} (s : Stb m m') (h : m.be q) : Stb m (m'.to (upd m'.hp q o)) :=
  ⟨s.bl, s.be, s.ext, fun b u nb ne e => by
    show upd m'.hp q o b = some u
    rw [upd_ne (fun z => ne (by rw [z]; exact h))]; exact s.keep b u nb ne e⟩
theorem ev_lc2 {wi wi1 : TI} {g g1 : TG} {tt tt1 : TT} {te : TE} {vs vs1 : List Nat} {i i1 : En → Sto → Rt Src} {d d1 : DnG} {t t1 : DnT} {e : Dn} (hi : Ei cf E wi i) (hg : Eg cf noE vs g d) (ht : Et cf noE tt t) (hi1 : Ei cf noE wi1 i1) (hg1 : Eg cf noE vs1 g1 d1) (ht1 : Et cf noE tt1 t1) (he : Ev cf noE te e) :
    Ev cf E (tLc2 wi g tt wi1 g1 tt1 te vs vs1) (dLc2 i d t i1 d1 t1 e vs vs1) := fun m σ en st Q er S h => by
  refine hi m σ en st _ er S ?_
  unfold dLc2 at h
  cases e0 : i en st with
  | ex c p st1 => rw [e0] at h; exact h
  | no => rw [e0] at h; exact h
  | ok s st1 =>
    rw [e0, Rt.bind_ok] at h
    intro J m1 s1 S1 it q hq
    have nq : q ∉ m1.rh := S1.out hq
    have nb : ¬ m1.be q := fun z => S1.bl q z hq
    have n0 := (Rs.new (Stp.refl (m := m1)) S1 hq (.nil : FzA cf.K cf.ct m1 [] []))
    obtain ⟨q', eq', _, S2⟩ := n0.nw [] rfl
    cases eq'
    have sM : Stp m1 ((m1.to (upd m1.hp q (.lst []))).sh q) := ⟨fun a h => .inl h, fun a h => h.imp id fun z => by subst z; exact ⟨nq, hq⟩, ⟨[], (List.append_nil _).symm, fun _ h => nomatch h⟩, (Stp.one hq).keep⟩
    refine ⟨fun k n H => ∃ (M : Mo) (xs : List V) (acc : List D) (st' : Sto), n = s.l.length - k ∧ k ≤ s.l.length ∧ H = M.hp ∧ Stp m1 M ∧ M.be q ∧ q ∉ M.rh ∧ M.hp q = some (.lst xs) ∧ FzA cf.K cf.ct M xs acc ∧ SR cf.K cf.ct M st' ∧
      Pe cf E m Q (lc2L s d t i1 d1 t1 e vs1 (wipeE en vs) (s.l.drop k) acc st'), ⟨s.l.length, _, [], [], st1, by simp, Nat.zero_le _, rfl, sM, .inr rfl, nq, upd_same, .nil, S2, h⟩, ?_⟩
    rintro k n _ ⟨M, xs, acc, st', rfl, hk, rfl, sm, bq, nqM, hqM, fa, S', hp⟩
    have er' : ER cf.K cf.ct M (wipe σ vs) (wipeE en vs) := ((er.to s1).to sm).wipe vs
    by_cases c : k < s.l.length
    · have hd : s.l.drop k = s.l[k] :: s.l.drop (k + 1) := List.drop_eq_getElem_cons c
      rw [hd] at hp
      unfold lc2L at hp
      split at hp
      case isFalse => exact hp.elim
      case isTrue ok =>
        obtain ⟨_, go⟩ := it M st' k sm.stb S' ok
        obtain ⟨g1', g2⟩ := go s.l[k] (List.getElem?_eq_getElem c)
        refine .inr ⟨g1', fun H2 => ∃ (M2 : Mo) (xs2 : List V) (acc2 : List D) (st2 : Sto), H2 = M2.hp ∧ Stp m1 M2 ∧ M2.be q ∧ q ∉ M2.rh ∧ M2.hp q = some (.lst xs2) ∧ FzA cf.K cf.ct M2 xs2 acc2 ∧ SR cf.K cf.ct M2 st2 ∧
            Pe cf E m Q (lc2L s d t i1 d1 t1 e vs1 (wipeE en vs) (s.l.drop (k + 1)) acc2 st2),
          fun H2 ⟨M2, xs2, acc2, st2, q1, q2, q3, q4, q5, q6, q7, q8⟩ => ⟨s.l.length - (k + 1), by omega, M2, xs2, acc2, st2, rfl, c, q1, q2, q3, q4, q5, q6, q7, q8⟩, fun x H' y => ?_⟩
        obtain ⟨sH, fx⟩ := g2 x H' y
        have sx : Stp M (M.to H') := .same sH
        have live : M.hp q ≠ none := some_ne hqM
        refine hg (M.to H') (wipe σ vs) (wipeE en vs) st' x (.fz s.l[k]) _ (er'.to sx) (S'.same sH) fx ?_
        cases e2 : nox (d (.fz s.l[k]) (wipeE en vs) st') with
        | ex c p st2 => rw [e2] at hp; cases hr : d (.fz s.l[k]) (wipeE en vs) st' <;> rw [hr] at e2 <;> cases e2
        | no => rw [e2] at hp; exact hp.elim
        | ok en2 st2 =>
          rw [e2, Rt.bind_ok] at hp
          rw [Pe_nox e2]
          intro σ2 M2 s2 er2 S2' k2 l2
          refine ⟨wipe_eq (by rw [l2, wipe_length]) k2, ?_⟩
          refine ht M2 σ2 en2 st2 _ er2 S2' ?_
          have sx2 := sx.trans s2
          cases e3 : nox (t en2 st2) with
          | ex c p st3 => rw [e3] at hp; cases hr : t en2 st2 <;> rw [hr] at e3 <;> cases e3
          | no => rw [e3] at hp; exact hp.elim
          | ok b st3 =>
            rw [e3, Rt.bind_ok] at hp
            rw [Pe_nox e3]
            intro M3 s3 S3
            have sx3 := sx2.trans s3
            cases b with
            | false =>
              rw [if_neg Bool.false_ne_true] at hp ⊢
              exact ⟨M3, xs, acc, st3, rfl, sm.trans sx3, sx3.bl q bq, sx3.out nqM live, sx3.keep q _ nqM hqM, fa.to sx3, S3, hp⟩
            | true =>
              rw [if_pos rfl] at hp ⊢
              refine hi1 M3 σ2 en2 st3 _ (er2.to s3) S3 ?_
              cases e4 : nox (i1 en2 st3) with
              | ex c p st4 => rw [e4] at hp; cases hr : i1 en2 st3 <;> rw [hr] at e4 <;> cases e4
              | no => rw [e4] at hp; exact hp.elim
              | ok s' st4 =>
                rw [e4, Rt.bind_ok] at hp
                rw [Pe_nox e4]
                intro J1 M4 s4 S4 it1
                have sx4 := sx3.trans s4
                have er4 : ER cf.K cf.ct M4 σ2 en2 := (er2.to s3).to s4
                refine ⟨fun j n H => ∃ (N : Mo) (ys : List V) (ac : List D) (su : Sto), n = s'.l.length - j ∧ j ≤ s'.l.length ∧ H = N.hp ∧ Stb M4 N ∧ Stp m1 N ∧ N.be q ∧ q ∉ N.rh ∧ N.hp q = some (.lst ys) ∧ FzA cf.K cf.ct N ys ac ∧ SR cf.K cf.ct N su ∧
                  Pe cf E m Q ((lcI s' d1 t1 e (wipeE en2 vs1) (s'.l.drop j) ac su).bind fun acc2 st5 => lc2L s d t i1 d1 t1 e vs1 (wipeE en vs) (s.l.drop (k + 1)) acc2 st5),
                  ⟨s'.l.length, M4, xs, acc, st4, by simp, Nat.zero_le _, rfl, Stp.refl.stb, sm.trans sx4, sx4.bl q bq, sx4.out nqM live, sx4.keep q _ nqM hqM, fa.to sx4, S4, hp⟩, ?_⟩
                rintro j n _ ⟨N, ys, ac, su, rfl, hj, rfl, sn, stN, bqN, nqN, hqN, fN, SN, hpN⟩
                have erN : ER cf.K cf.ct N (wipe σ2 vs1) (wipeE en2 vs1) := (er4.tob sn).wipe vs1
                have liveN : N.hp q ≠ none := some_ne hqN
                by_cases cj : j < s'.l.length
                · have hdj : s'.l.drop j = s'.l[j] :: s'.l.drop (j + 1) := List.drop_eq_getElem_cons cj
                  rw [hdj] at hpN
                  unfold lcI at hpN
                  split at hpN
                  case isFalse => exact hpN.elim
                  case isTrue ok1 =>
                    obtain ⟨_, go1⟩ := it1 N su j sn SN ok1
                    obtain ⟨f1, f2⟩ := go1 s'.l[j] (List.getElem?_eq_getElem cj)
                    refine .inr ⟨f1, fun H2 => ∃ (N2 : Mo) (ys2 : List V) (ac2 : List D) (su2 : Sto), H2 = N2.hp ∧ Stb M4 N2 ∧ Stp m1 N2 ∧ N2.be q ∧ q ∉ N2.rh ∧ N2.hp q = some (.lst ys2) ∧ FzA cf.K cf.ct N2 ys2 ac2 ∧ SR cf.K cf.ct N2 su2 ∧
                        Pe cf E m Q ((lcI s' d1 t1 e (wipeE en2 vs1) (s'.l.drop (j + 1)) ac2 su2).bind fun acc2 st5 => lc2L s d t i1 d1 t1 e vs1 (wipeE en vs) (s.l.drop (k + 1)) acc2 st5),
                      fun H2 ⟨N2, ys2, ac2, su2, q1, q2, q9, q3, q4, q5, q6, q7, q8⟩ => ⟨s'.l.length - (j + 1), by omega, N2, ys2, ac2, su2, rfl, cj, q1, q2, q9, q3, q4, q5, q6, q7, q8⟩, fun x1 H1' y1 => ?_⟩
                    obtain ⟨sH1, fx1⟩ := f2 x1 H1' y1
                    have tx : Stp N (N.to H1') := .same sH1
                    refine hg1 (N.to H1') (wipe σ2 vs1) (wipeE en2 vs1) su x1 (.fz s'.l[j]) _ (erN.to tx) (SN.same sH1) fx1 ?_
                    cases e5 : nox (d1 (.fz s'.l[j]) (wipeE en2 vs1) su) with
                    | ex c p st2 => rw [e5] at hpN; cases hr : d1 (.fz s'.l[j]) (wipeE en2 vs1) su <;> rw [hr] at e5 <;> cases e5
                    | no => rw [e5] at hpN; exact hpN.elim
                    | ok en3 su2 =>
                      rw [e5, Rt.bind_ok] at hpN
                      rw [Pe_nox e5]
                      intro σ3 N2 t2 er3 SN2 k3 l3
                      refine ⟨wipe_eq (by rw [l3, wipe_length]) k3, ?_⟩
                      refine ht1 N2 σ3 en3 su2 _ er3 SN2 ?_
                      have tx2 := tx.trans t2
                      cases e6 : nox (t1 en3 su2) with
                      | ex c p st3 => rw [e6] at hpN; cases hr : t1 en3 su2 <;> rw [hr] at e6 <;> cases e6
                      | no => rw [e6] at hpN; exact hpN.elim
                      | ok b su3 =>
                        rw [e6, Rt.bind_ok] at hpN
                        rw [Pe_nox e6]
                        intro N3 t3 SN3
                        have tx3 := tx2.trans t3
                        cases b with
                        | false =>
                          rw [if_neg Bool.false_ne_true] at hpN ⊢
                          exact ⟨N3, ys, ac, su3, rfl, sn.stp SN.bl tx3, stN.trans tx3, tx3.bl q bqN, tx3.out nqN liveN, tx3.keep q _ nqN hqN, fN.to tx3, SN3, hpN⟩
                        | true =>
                          rw [if_pos rfl] at hpN ⊢
                          refine he N3 σ3 en3 su3 _ (er3.to t3) SN3 ?_
                          cases e7 : nox (e en3 su3) with
                          | ex c p st4 => rw [e7] at hpN; cases hr : e en3 su3 <;> rw [hr] at e7 <;> cases e7
                          | no => rw [e7] at hpN; exact hpN.elim
                          | ok w su4 =>
                            rw [e7, Rt.bind_ok] at hpN
                            rw [Pe_nox e7]
                            intro v N4 r4
                            have tx4 := tx3.trans r4.stp
                            cases e8 : datW w with
                            | none => rw [e8] at hpN; exact hpN.elim
                            | some y =>
                              rw [e8] at hpN
                              dsimp only at hpN
                              split at hpN
                              case isFalse => exact hpN.elim
                              case isTrue hl =>
                                have hq4 : N4.hp q = some (.lst ys) := tx4.keep q _ nqN hqN
                                have bq4 : N4.be q := tx4.bl q bqN
                                have nq4 : q ∉ N4.rh := tx4.out nqN liveN
                                have fa4 : FzA cf.K cf.ct N4 (ys ++ [v]) (ac ++ [y]) := (fN.to tx4).append (.cons (dat_ok r4.wr e8) .nil)
                                have sq : Stb M4 (N4.to (upd N4.hp q (.lst (ys ++ [v])))) := stb_chq (sn.stp SN.bl tx4) (sx4.bl q bq)
                                refine ⟨ys, hq4, by rw [fN.length]; exact hl, N4.to (upd N4.hp q (.lst (ys ++ [v]))), ys ++ [v], ac ++ [y], su4, rfl, sq, (stN.trans tx4).chq hq nq, bq4, nq4, upd_same, fa4.mv (mv_q bq4), r4.sr.chq bq4 nq4, hpN⟩
                · have ej : j = s'.l.length := by omega
                  subst ej
                  rw [List.drop_length] at hpN
                  unfold lcI at hpN
                  split at hpN
                  case isFalse => exact hpN.elim
                  case isTrue ok1 =>
                    rw [Rt.bind_ok] at hpN
                    exact .inl ⟨(it1 N su _ sn SN ok1).1 (Nat.le_refl _) (Nat.le_refl _), N, ys, ac, su, rfl, stN, bqN, nqN, hqN, fN, SN, hpN⟩
    · have ek : k = s.l.length := by omega
      subst ek
      rw [List.drop_length] at hp
      unfold lc2L at hp
      split at hp
      case isFalse => exact hp.elim
      case isTrue ok =>
        refine .inl ⟨(it M st' _ sm.stb S' ok).1 (Nat.le_refl _) (Nat.le_refl _), ?_⟩
        have hA : ∀ a u, Rdy M a u → ¬ ((⟨m1.be, M.rh, M.hp⟩ : Mo).sh q).be a ∧ a ∉ ((⟨m1.be, M.rh, M.hp⟩ : Mo).sh q).rh := fun a u h => ⟨fun z => h.2.1 (Or.elim z (sm.bl a) fun e => by rw [e]; exact bq), h.1⟩
        refine hp (.ref q) ⟨m1.be, M.rh, M.hp⟩ ⟨s1.trans ⟨fun _ h => h, fun _ h => .inl h, sm.ext, sm.keep⟩, ?_, ⟨q, xs, rfl, nqM, nb, hqM, fa.avo hA rfl⟩, fun _ _ => ⟨q, rfl, s1.new nq hq, ?_⟩⟩
        · exact SR.avo (m' := ⟨m1.be, M.rh, M.hp⟩) S' rfl (fun a u h => ⟨fun z => h.2.1 (sm.bl a z), h.1⟩) rfl (fun a h => S'.bl a (sm.bl a h)) fun a h => S'.dj a (sm.bl a h)
        · exact SR.avo (m' := (⟨m1.be, M.rh, M.hp⟩ : Mo).sh q) S' rfl hA rfl (fun a h => S'.bl a (Or.elim h (sm.bl a) fun e => by rw [e]; exact bq)) fun a h => S'.dj a (Or.elim h (sm.bl a) fun e => by rw [e]; exact bq)
end
end QD
/-! list(zip(…)) -/
namespace ZL
open PySem PySem.Spec PyProof.Rows L2 ZM ZMS
theorem noLen_zip : typeLookup (.type "zip") "__len__" = pure none := by rw [typeLookup_type, builtinLookup_eq_fast]; kernel_rfl
theorem noHint_zip : typeLookup (.type "zip") "__length_hint__" = pure none := by rw [typeLookup_type, builtinLookup_eq_fast]; kernel_rfl
theorem hint_zip {prog : Program} {w : World} {A : Around} {E : Value → Shared → Prop} {s : Shared} {r : Addr} {Q : Bool → Shared → Prop} (hT : s.TypeIs (.ref r) "zip") (h : Q true s) : wpAny (model prog w) A (Builtin.List.listLengthHint (.ref r)) Q E s := by
  unfold Builtin.List.listLengthHint
  refine wpAny_bind (wpAny_specialOf hT noLen_zip ?_)
  refine PySem.W.KFB.if_not rfl ?_
  refine PySem.W.KFB.if_not rfl ?_
  refine wpAny_bind (wpAny_specialOf hT noHint_zip ?_)
  exact wpAny_pure h
/-- what list(zip(…)) goes through: i turns are done, acc stands in the list at q -/
def ZRun (K : PySem.W.Frag) (as : List (Bool × Addr)) (q : Addr) (R : Hp → Prop) (P : Nat → Nat → List V → Hp → Prop) : Prop :=
  ∀ n i acc H, P n i acc H → H q = some (.lst acc) ∧ ((∃ p rest xs, as = p :: rest ∧ SqK K H p.1 p.2 xs ∧ xs.length ≤ i ∧ R H) ∨
    ∃ col, ColAt K H i as col ∧ acc.length < sizeLine ∧ ∃ n', n' < n ∧ ∀ T, H T = none → P n' (i + 1) (acc ++ [.ref T]) (upd (upd H T (.tup col)) q (.lst (acc ++ [.ref T]))))
section
variable {X : Cx} {pins : List (Addr × Obj)} {σ : L2.St} {as : List (Bool × Addr)} {kd : Addr → Bool} {n0 : Nat} {q : Addr}
theorem zloop {P : Nat → Nat → List V → Hp → Prop} {R : Hp → Prop} {Rs : Result → Shared → Prop} {A1 : Around} (hh : A1.in1.handled = none) (hk : ∀ p ∈ as, kd p.2 = p.1) (ne : as ≠ []) (l4 : as.length ≤ 4) (lt : ∀ a ∈ as, a.2 < n0)
    (hrun : ZRun X.K as q R P) (hdone : ∀ H s, Inv X pins σ H s → R H → Rs (.ok (.ret .none)) s) :
    ∀ (m i : Nat) (acc : List V) (H : Hp) (s : Shared), Inv X pins σ H s → (∀ c ∈ fpN n0 (adr as), FpOk X pins H c) → tnN kd n0 (adr as) i s.heap → P m i acc H →
      codeAny (model X.prog X.w) A1 (.builtin "list.extend.loop" ⟨[.ref q, .ref (n0 + (adr as).length + 2), .none], []⟩) Rs s := by
  have T := turnM (P := X.prog) (w := X.w) (K := X.K) (tg := .Name "x" ⟨0, 0, 0, 0⟩) True.intro hk ne l4 lt
  intro m
  induction m using Nat.strongRecOn with
  | _ m ih =>
    intro i acc H s I hf st hP
    obtain ⟨hq, hr⟩ := hrun m i acc H hP
    have nq : ∀ c ∈ fpN n0 (adr as), q ≠ c := fun c hc e => by
      have := (hf c hc).1
      rw [← e, hq] at this
      cases this
    have lt' : ∀ a ∈ adr as, a < n0 := fun a ha => by
      obtain ⟨p, hp, rfl⟩ := List.mem_map.mp ha
      exact lt p hp
    have ll : (mk n0 (adr as)).length = as.length := (mk_length n0 _).trans (List.length_map _)
    refine codeAny_builtin PySem.F.entry_extend_loop ?_
    rw [Around.under_plainId PySem.F.plain_extend_loop _]
    show wpAny _ A1.in1 (pyNext (.ref (n0 + (adr as).length + 2)) >>= _) _ _ s
    obtain ⟨f0, b, ys, hf0, S⟩ := st
    rcases hr with ⟨p, rest, xs, rfl, hs, hl, hR⟩ | ⟨col, hcol, hlen, n', hn', k⟩
    · obtain ⟨its, rv, pz⟩ := sq_of I (hk p (List.mem_cons_self ..)) hs
      have l1 := rv.length
      refine wpAny_bind (pyNext_zipN_end (p := (n0, p.2)) (l := mk (n0 + 1) (adr rest)) hh (mk_apart lt') hf0 S pz (by simp; omega) fun h' hkp => ?_)
      have I1 : Inv X pins σ H { s with heap := h' } := I.turnedL (t' := s.toks) (ch := fpN n0 (adr (p :: rest))) (fun c o hb q => hkp c o (fun q' => hb (by rw [q']; simp)) (fun q' => hb (by rw [q']; simp))
        (fun p hp q' => hb (q' ▸ List.mem_cons_of_mem _ (List.mem_cons_of_mem _ (List.mem_cons_of_mem _ (List.mem_map_of_mem hp))))) q) hf
      exact wpAny_pure (hdone H _ I1 hR)
    · obtain ⟨us, Rw, ru⟩ := rows_of (kd := kd) (n := n0) I hk hcol
      have lu : us.length ≤ 4 := by rw [← Rw.1, ll]; exact l4
      refine wpAny_bind (pyNext_zipN_item (mk_apart lt') (by rw [ll]; exact l4) (fun e => ne (by rw [← List.length_eq_zero_iff, ← ll, e]; rfl)) hf0 S Rw fun h' f0' b2 zs hf' S' hT => ?_)
      have new : ObjOk X.prog X.w (upd H s.heap.objs.size (.tup col)) h' s.heap.objs.size (.tup col) :=
        ⟨by show col.length ≤ sizeLine; rw [ru.length]; exact Nat.le_trans lu (by decide), us, ru, ⟨_, hT, rfl, _, rfl⟩⟩
      have I1 : Inv X pins σ (upd H s.heap.objs.size (.tup col)) { s with heap := h' } :=
        I.turnedNew (t' := s.toks) (ch := fpN n0 (adr as)) (fun c o hb q => S'.kp c o (fun q' => hb (by simp [q'])) (fun q' => hb (by simp [q'])) (fun p hp q' => hb (q' ▸ List.mem_cons_of_mem _ (List.mem_cons_of_mem _ (List.mem_cons_of_mem _ (List.mem_map_of_mem hp))))) q) hf (Nat.le_refl _) new
      have st1 : tnN kd n0 (adr as) (i + 1) h' := ⟨f0', b2, zs, hf', S'.hz, S'.hTI, S'.hTO, S'.ly, (fun _ h => nomatch h), S'.hd, rfl, fun _ _ _ _ _ e => e⟩
      have fresh : H s.heap.objs.size = none := I.hok.fresh (Nat.le_refl _)
      have hq1 : upd H s.heap.objs.size (.tup col) q = some (.lst acc) := (upd_ne (ne_of_none hq fresh)).trans hq
      show wpAny _ A1.in1 (updateSeq q (·.push (.ref s.heap.objs.size)) >>= _) _ _ _
      obtain ⟨z, its, kk, r2, hl, e⟩ := I1.lstM hq1
      refine wpAny_bind (wpAny_updateSeq e rfl (wpAny_pure ⟨plainId_quiet PySem.F.plain_extend_loop _, ?_⟩) (by rw [List.size_toArray]; omega) (by show (its.toArray.push _).size ≤ sizeLine + 1; rw [Array.size_push, List.size_toArray]; omega))
      have I2 := I1.lset (f := (·.push (Value.ref s.heap.objs.size))) (its' := its ++ [Value.ref s.heap.objs.size]) (ys := acc ++ [V.ref s.heap.objs.size]) (t' := s.toks) hq1 e (by simp) (r2.append (.cons (show RelV (.ref s.heap.objs.size) (.ref s.heap.objs.size) from rfl) .nil)) (by rw [List.length_append, List.length_singleton]; omega)
      refine ih n' hn' (i + 1) (acc ++ [.ref s.heap.objs.size]) _ _ I2 (fun c hc => ?_) (T.keep (i + 1) _ _ st1 fun c hc o e' => (Heap.get?_update_other _ _ (nq c hc)).trans e') (k _ fresh)
      have f := hf c hc
      have hlt : c < s.heap.objs.size := by
        rcases List.mem_cons.mp hc with rfl | hc
        · exact Heap.lt_size S.hz
        rcases List.mem_cons.mp hc with rfl | hc
        · exact Heap.lt_size S.hTI
        rcases List.mem_cons.mp hc with rfl | hc
        · exact Heap.lt_size S.hTO
        obtain ⟨p, hp, rfl⟩ := List.mem_map.mp hc
        obtain ⟨o, e, d⟩ := (S.ht p hp).obj
        exact Heap.lt_size e
      refine ⟨?_, f.2⟩
      rw [upd_ne (Ne.symm (nq c hc)), upd_ne (Nat.ne_of_lt hlt)]
      exact f.1
theorem zextend {P : Nat → Nat → List V → Hp → Prop} {R : Hp → Prop} {Rs : Result → Shared → Prop} {A1 : Around} {H : Hp} {s : Shared} {m : Nat} (hh : A1.in1.handled = none) (hk : ∀ p ∈ as, kd p.2 = p.1) (ne : as ≠ []) (l4 : as.length ≤ 4) (lt : ∀ a ∈ as, a.2 < n0)
    (hrun : ZRun X.K as q R P) (hdone : ∀ H s, Inv X pins σ H s → R H → Rs (.ok (.ret .none)) s) (I : Inv X pins σ H s) (hf : ∀ c ∈ fpN n0 (adr as), FpOk X pins H c) (st : tnN kd n0 (adr as) 0 s.heap) (hq : H q = some (.lst [])) (hP : P m 0 [] H) :
    wpAny (model X.prog X.w) A1.in1 (Builtin.List.listExtendWith (.ref q) (.ref (n0 + (adr as).length + 2)) .none)
      (fun fin s' => match fin with | .done f => Rs (.ok f) s' | .again c' => c'.quiet = true ∧ codeAny (model X.prog X.w) A1 c' Rs s') (fun e s' => Rs (.error e) s') s := by
  have T := turnM (P := X.prog) (w := X.w) (K := X.K) (tg := .Name "x" ⟨0, 0, 0, 0⟩) True.intro hk ne l4 lt
  have nq : ∀ c ∈ fpN n0 (adr as), q ≠ c := fun c hc e => by
    have := (hf c hc).1
    rw [← e, hq] at this
    cases this
  have st' := st
  obtain ⟨f0, b, ys, hf0, S⟩ := st
  have hT : s.TypeIs (.ref (n0 + (adr as).length + 2)) "zip" := ⟨_, S.hz, rfl⟩
  have hne : q ≠ n0 + (adr as).length + 2 := nq _ (List.mem_cons_self ..)
  unfold Builtin.List.listExtendWith
  refine wpAny_bind (wpAny_typeOf hT ?_)
  have h1 : Builtin.List.listSameRef (.ref q) (.ref (n0 + (adr as).length + 2)) = false := beq_false_of_ne hne
  have h2 : (Value.type "zip" == Value.type "list") = false := by decide +kernel
  have h3 : (Value.type "zip" == Value.type "tuple") = false := by decide +kernel
  simp only [h1, h2, h3, Bool.or_false, Bool.false_eq_true, if_false]
  refine wpAny_bind (wpAny_pyIter_zipN S.hz ?_)
  refine wpAny_bind (wpAny_holding (hint_zip hT ?_))
  obtain ⟨z, its, k, r3, hl3, e3⟩ := I.lstM hq
  cases r3
  refine wpAny_ite_split (fun _ => ?_) (fun _ => wpAny_pure ⟨plainId_quiet PySem.F.plain_extend_loop _, zloop hh hk ne l4 lt hrun hdone m 0 [] H s I hf st' hP⟩)
  refine wpAny_bind (wpAny_rule ?_)
  refine wpAny_bind ?_
  show wpAny _ _ (updateSeq q (·.push .none) >>= fun _ => updateSeq q (·.pop)) _ _ _
  refine wpAny_bind (wpAny_updateSeq e3 rfl ?_)
  have I2 := I.lset (f := (·.push Value.none)) (its' := [Value.none]) (ys := [.non]) (t' := s.toks) hq e3 (by simp) (.cons rfl .nil) (by rw [List.length_singleton, sizeLine_eq]; decide)
  obtain ⟨z4, its4, k4, r4, hl4, e4⟩ := I2.lstM upd_same
  obtain ⟨u4, rfl, ru4⟩ := r4.one
  refine wpAny_updateSeq e4 rfl ?_ (by show 1 ≤ sizeLine; rw [sizeLine_eq]; decide) (by show 0 ≤ sizeLine + 1; exact Nat.zero_le _)
  have I3 := I2.lset (f := (·.pop)) (its := [u4]) (its' := []) (ys := []) (t' := s.toks) upd_same e4 (by rfl) .nil (Nat.zero_le _)
  rw [upd_upd] at I3
  have hH : upd H q (.lst []) = H := by
    funext b
    by_cases hb : b = q
    · rw [hb, upd_same, hq]
    · rw [upd_ne hb]
  rw [hH] at I3
  refine wpAny_pure ⟨plainId_quiet PySem.F.plain_extend_loop _, zloop hh hk ne l4 lt hrun hdone m 0 [] H _ I3 hf ?_ hP⟩
  exact T.keep 0 _ _ st' fun c hc o e' => (Heap.get?_update_other _ _ (nq c hc)).trans ((Heap.get?_update_other _ _ (nq c hc)).trans e')
/-- list(z), z the new zip -/
theorem call_list_zip {Q : VK} {H : Hp} {s : Shared} (hh : X.A.handled = none) (hk : ∀ p ∈ as, kd p.2 = p.1) (ne : as ≠ []) (l4 : as.length ≤ 4) (lt : ∀ a ∈ as, a.2 < n0) (I : Inv X pins σ H s) (hf : ∀ c ∈ fpN n0 (adr as), FpOk X pins H c) (st : tnN kd n0 (adr as) 0 s.heap)
    (hq : ∀ q, H q = none → ∃ (P : Nat → Nat → List V → Hp → Prop) (m : Nat), P m 0 [] (upd H q (.lst [])) ∧ ZRun X.K as q (fun H' => Q (.ref q) H') P) :
    wpAny (model X.prog X.w) X.A (call (.type "list") [.ref (n0 + (adr as).length + 2)]) (EP X pins σ Q) X.xe s := by
  have T := turnM (P := X.prog) (w := X.w) (K := X.K) (tg := .Name "x" ⟨0, 0, 0, 0⟩) True.intro hk ne l4 lt
  refine callType_codes (Q₁ := fun obj s₁ => obj = .ref s.heap.objs.size ∧ s₁ = { s with heap := s.heap.push { cls := .type "list", data := .seq #[] } }) PySem.F.called_list (PySem.F.typeCall_list_1 _) PySem.F.entry_list_init
    (code_list_new _ ⟨rfl, rfl⟩) fun obj s₁ h₁ => ?_
  obtain ⟨rfl, rfl⟩ := h₁
  have hS : (s.heap.push { cls := .type "list", data := .seq #[] }).get? s.heap.objs.size = some { cls := .type "list", data := .seq #[] } := Heap.get?_push_size _ rfl
  refine ⟨⟨_, hS, rfl⟩, PySem.F.args_list_init_2 _ _, ?_⟩
  have fr : H s.heap.objs.size = none := I.hok.fresh (Nat.le_refl _)
  obtain ⟨P, m, hP, hrun⟩ := hq _ fr
  have I1 : Inv X pins σ (upd H s.heap.objs.size (.lst [])) { s with heap := s.heap.push { cls := .type "list", data := .seq #[] } } := I.lnew (its := []) (t' := s.toks) .nil (Nat.zero_le _)
  show wpAny _ _ (do let old ← Builtin.List.listItems (.ref s.heap.objs.size); Builtin.List.listUpdate (.ref s.heap.objs.size) (fun _ => #[]); letGo old.toList.reverse; Builtin.List.listExtendWith (.ref s.heap.objs.size) (.ref _) .none) _ _ _
  refine wpAny_bind ?_
  unfold Builtin.List.listItems
  refine wpAny_bind (wpAny_seqItems hS rfl (wpAny_pure ?_))
  show wpAny _ _ (updateSeq s.heap.objs.size (fun _ => #[]) >>= fun _ => letGo (#[] : Array Value).toList.reverse >>= fun _ => Builtin.List.listExtendWith (.ref s.heap.objs.size) (.ref _) .none) _ _ _
  refine wpAny_bind (wpAny_updateSeq hS rfl ?_)
  have I2 := I1.lset (f := fun _ => #[]) (its := []) (its' := []) (ys := []) (t' := s.toks) upd_same hS rfl .nil (Nat.zero_le _)
  rw [upd_upd] at I2
  refine wpAny_bind (wpAny_letGo ?_)
  have hlt : ∀ c ∈ fpN n0 (adr as), c < s.heap.objs.size := fun c hc => by
    obtain ⟨f0, b, ys, hf0, S⟩ := st
    rcases List.mem_cons.mp hc with rfl | hc
    · exact Heap.lt_size S.hz
    rcases List.mem_cons.mp hc with rfl | hc
    · exact Heap.lt_size S.hTI
    rcases List.mem_cons.mp hc with rfl | hc
    · exact Heap.lt_size S.hTO
    obtain ⟨p, hp, rfl⟩ := List.mem_map.mp hc
    obtain ⟨o, e, d⟩ := (S.ht p hp).obj
    exact Heap.lt_size e
  refine zextend (A1 := X.A.in1) (q := s.heap.objs.size) (Rs := wants (fun r s₂ => r = .none ∧ EP X pins σ Q (.ref s.heap.objs.size) s₂) X.xe) hh hk ne l4 lt hrun
    (fun H' s' I' hR => ⟨rfl, .ref s.heap.objs.size, H', I', rfl, hR⟩) I2 (fun c hc => ⟨?_, (hf c hc).2⟩) ?_ upd_same hP
  · rw [upd_ne (Nat.ne_of_lt (hlt c hc))]
    exact (hf c hc).1
  · exact T.keep 0 _ _ st fun c hc o e' => (Heap.get?_update_other _ _ (Nat.ne_of_gt (hlt c hc))).trans (Heap.get?_push_of_some _ e')
end
/-- list(zip(e, …)) -/
def tListZip (K : PySem.W.Frag) (ta : TA) : TE := fun σ H Q => ta σ H fun vs H1 => ∃ as, vs = refV as ∧ AllSq K H1 as ∧ ∀ q, H1 q = none → ∃ (P : Nat → Nat → List V → Hp → Prop) (m : Nat), P m 0 [] (upd H1 q (.lst [])) ∧ ZRun K as q (fun H' => Q (.ref q) H') P
theorem pe_listZip {X : Cx} {e : Expr} {es : List Expr} {ta : TA} {p p2 q pos : Pos} (hg : Gl X "list") (hm : X.mg "list" = none) (hg2 : Gl X "zip") (hm2 : X.mg "zip" = none) (ha : PA X (e :: es) ta) (hc : X.calm = true := by rfl)
    (na : starEach [.Call (.Name "zip" p2) (e :: es) [] q] X.env = (false, eval (.Call (.Name "zip" p2) (e :: es) [] q) X.env) :: starEach [] X.env := by rfl)
    (hs : starEach (e :: es) X.env = (false, eval e X.env) :: starEach es X.env := by rfl) (hpl : (backTo q (starEach es X.env)).any (·.1) = false := by rfl) :
    PE X (.Call (.Name "list" p) [.Call (.Name "zip" p2) (e :: es) [] q] [] pos) (tListZip X.K ta) := by
  refine ⟨fun pins s σ H Q I h => ?_⟩
  refine Call_ (ld_blt I hg hm (u := .type "list") (by rfl) ?_)
  refine PyProof.Rows.callWith_type1 (PyProof.Rows.args_cons ?_ na) na rfl
  refine Call_ (ld_blt I hg2 hm2 PyProof.Rows.boot_zip (PyProof.Rows.callWith_type1 (thn (ha.run q pins s σ H _ I h) fun us s1 ⟨vs, H1, I1, r1, as, e1, aq, q1⟩ => ?_) hs hpl))
  subst e1
  obtain rfl := vals_refs r1
  refine zip_call I1 aq fun kd h' I2 hk ne l4 lt st hf => PyProof.Rows.args_nil ?_
  exact call_list_zip (I1.ok.hd hc) hk ne l4 lt I2 hf st q1
end ZL
/-! QX: promises for anywhere, defaults, isinstance, op=, list(zip), own special methods. -/
namespace QD
open PySem PySem.Spec PyProof.Rows L2 MG ZMS ZL
section
variable {P : Program} {w : World} {K : PySem.W.Frag} {mg : Str → Option Value} {base : Heap}
/-- a def that lets nothing out and needs no guards -/
theorem fnK {cf : Cf} {x qual : Str} {st : Stmt} {f : Addr} {fd : FuncData} {N ps : List Str} {k n : Nat} {b : DnS} (F : Fun K x qual st f fd) (S : FnScope N ps (defScope st)) (hp : ps.length = n)
    (hbody : ∀ (cdv : Value) (A : Around) (outer : List Env) (s : Shared) (H : Hp) (E : XK), Room k (A.deeper (envOfC qual (defScope st) s.heap.objs.size f cdv)) →
      ∃ t, PSs (cxOf CX0 P w K mg base N qual (defScope st) f cdv A outer s H E).nox (defBody st) t ∧ Es cf noE t b) :
    FnOk P w K mg base CX0 (k + 1) f fd ps (spD cf n fun ws st => nox (fnD N.length b ws st)) := by
  refine F.ok S (fun vs H Q E h => (spD_len h).trans hp.symm) fun cdv A outer s H vs Q E hr h => ?_
  obtain ⟨t, ht, he⟩ := hbody cdv A outer s H E hr
  obtain ⟨m, st', ws, rfl, r, kp, S', hl, q⟩ := h
  exact ⟨t, ht, he m _ _ st' _ (ER.start r kp rfl) S' (Px_exit S' (Pe_noxE q))⟩
/-- .. with defaults -/
theorem fnKD {cf : Cf} {x qual : Str} {params : Arguments} {body : List Stmt} {scope : Scope} {dvs : List V} {kws : List (Str × V)} {f : Addr} {fd : FuncData} {N ps : List Str} {k n : Nat} {b : DnS} (F : FunD K x qual params body scope dvs kws f fd) (S : FnScope N ps scope) (hp : ps.length = n)
    (hbody : ∀ (cdv : Value) (A : Around) (outer : List Env) (s : Shared) (H : Hp) (E : XK), Room k (A.deeper (envOfC qual scope s.heap.objs.size f cdv)) →
      ∃ t, PSs (cxOf CX0 P w K mg base N qual scope f cdv A outer s H E).nox body t ∧ Es cf noE t b) :
    FnOk P w K mg base CX0 (k + 1) f fd ps (spD cf n fun ws st => nox (fnD N.length b ws st)) := by
  refine F.ok S (fun vs H Q E h => (spD_len h).trans hp.symm) fun cdv A outer s H vs Q E hr h => ?_
  obtain ⟨t, ht, he⟩ := hbody cdv A outer s H E hr
  obtain ⟨m, st', ws, rfl, r, kp, S', hl, q⟩ := h
  exact ⟨t, ht.nox, he m _ _ st' _ (ER.start r kp rfl) S' (Px_exit S' (Pe_noxE q))⟩
end
section
variable {cf : Cf} {E : XK} {m m1 : Mo} {st : Sto} {v u : V} {w x : W}
theorem non_ds : ∀ m : Mo, WRs cf m [.non] [.fz .none] ∧ ∀ w ∈ ([.fz .none] : List W), w.stays := fun _ => ⟨.cons .non .nil, fun w h => by rw [List.mem_singleton] at h; subst h; trivial⟩
/-! ### op= -/
def sAug (i : Nat) (f : W → W → Sto → Rt W) (a : Dn) : DnS := fun en st => match en[i]? with
  | some (some x) => sBind (a en st) fun y st1 => sBind (f x y st1) fun z st2 => .go (en.set i (some (frz z))) st2
  | _ => .no
theorem es_aug {i : Nat} {t : TE} {r : TIp} {f : W → W → Sto → Rt W} {a : Dn} (o : Op2 cf E r f) (ha : Ev cf E t a) : Es cf E (tAug i t r) (sAug i f a) := fun m σ en st D er S h => by
  unfold sAug at h
  cases e : en[i]? with
  | none => rw [e] at h; exact h.elim
  | some p =>
    cases p with
    | none => rw [e] at h; exact h.elim
    | some x =>
      rw [e] at h
      dsimp only at h
      obtain ⟨v, hv, rv, _⟩ := er.at_ i x e
      refine ⟨v, hv, ha m σ en st _ er S ?_⟩
      cases e2 : a en st with
      | ex c p st1 => rw [e2] at h; exact h
      | no => rw [e2] at h; exact h
      | ok y st1 =>
        rw [e2, sBind_ok] at h
        intro u m1 r1
        refine o m1 st1 v u x y _ r1.sr (rv.to r1.stp) r1.wr ?_
        cases e3 : f x y st1 with
        | ex c p st2 => rw [e3] at h; exact Xe.pre r1.stp h
        | no => rw [e3] at h; exact h
        | ok z st2 =>
          rw [e3, sBind_ok] at h
          intro z' m2 r2
          obtain ⟨r', k⟩ := frz_ok r2.wr
          exact h _ m2 (r1.stp.trans r2.stp) ((er.to (r1.stp.trans r2.stp)).set i r' k) r2.sr
theorem ip_of {g : Int → Int → Int} {f : W → W → Sto → Rt W} (o : Op2 cf E (rI0 fun i j => .int (g i j)) f) : Op2 cf E (ipI g) f := fun m st v1 v2 w1 w2 Q S r1 r2 h => by
  obtain ⟨i, j, e1, e2, q⟩ := o m st v1 v2 w1 w2 Q S r1 r2 h
  exact ⟨i, j, e1, e2, q⟩
/-! ### gcd -/
def fGcd (a b : W) (st : Sto) : Rt W := match intW a, intW b with
  | some i, some j => .ok (.fz (.int ((Nat.gcd i.natAbs j.natAbs : Nat) : Int))) st
  | _, _ => .no
theorem q_gcd : OpN cf E rGcd (f2 fGcd) := opN2 fun m st v u w x Q S r1 r2 h => by
  unfold fGcd at h
  cases e1 : intW w with
  | none => rw [e1] at h; exact h.elim
  | some i =>
    cases e2 : intW x with
    | none => rw [e1, e2] at h; exact h.elim
    | some j =>
      rw [e1, e2] at h
      obtain rfl := intW_ok r1 e1
      obtain rfl := intW_ok r2 e2
      exact ⟨i, j, rfl, h.fz S (.int _)⟩
/-! ### list(zip(…)) -/
def dListZip (a : DnA) : Dn := fun en st => (a en st).bind fun ws st1 => match kndWs ws with
  | some ks => if okZ ks = true ∧ (zipD ks).length < sizeLine then .ok (.own (zipD ks)) st1 else .no
  | none => .no
theorem ev_listZip {t : TA} {a : DnA} (ha : Ea cf E t a) : Ev cf E (tListZip cf.K t) (dListZip a) := fun m σ en st Q er S h => by
  refine ha m σ en st _ er S ?_
  unfold dListZip at h
  cases e : a en st with
  | ex c p st1 => rw [e] at h; exact h
  | no => rw [e] at h; exact h
  | ok ws st1 =>
    rw [e, Rt.bind_ok] at h
    intro vs m1 s1 S1 r1
    cases e2 : kndWs ws with
    | none => rw [e2] at h; exact h.elim
    | some ks =>
      rw [e2] at h
      dsimp only at h
      split at h
      case isFalse => exact h.elim
      case isTrue o =>
        obtain ⟨o, hlen⟩ := o
        obtain ⟨as, rfl, hp⟩ := knds_ok r1 e2
        refine ⟨as, rfl, allSq_of hp o, fun q hq => ?_⟩
        have nq : q ∉ m1.rh := S1.out hq
        have nb : ¬ m1.be q := fun z => S1.bl q z hq
        have n0 := (Rs.new (Stp.refl (m := m1)) S1 hq (.nil : FzA cf.K cf.ct m1 [] []))
        obtain ⟨q', eq', _, S2⟩ := n0.nw [] rfl
        cases eq'
        have sM : Stp m1 ((m1.to (upd m1.hp q (.lst []))).sh q) := ⟨fun a h => .inl h, fun a h => h.imp id fun z => by subst z; exact ⟨nq, hq⟩, ⟨[], (List.append_nil _).symm, fun _ h => nomatch h⟩, (Stp.one hq).keep⟩
        have it := its_zip hp o
        refine ⟨fun n i acc H => ∃ (M : Mo) (su : Sto), n = (zipD ks).length - i ∧ i ≤ (zipD ks).length ∧ H = M.hp ∧ Stp m1 M ∧ M.be q ∧ q ∉ M.rh ∧ M.hp q = some (.lst acc) ∧ FzA cf.K cf.ct M acc ((zipD ks).take i) ∧ SR cf.K cf.ct M st1,
          _, ⟨_, st1, rfl, Nat.zero_le _, rfl, sM, .inr rfl, nq, upd_same, .nil, S2⟩, ?_⟩
        rintro n i acc _ ⟨M, su, rfl, hi, rfl, sm, bq, nqM, hqM, fa, S'⟩
        refine ⟨hqM, ?_⟩
        cases hp with
        | nil => cases o
        | @cons p k ps r a t =>
          have len : (zipD (k :: r)).length = k.2.length := by unfold zipD; simp
          by_cases c : i < (zipD (k :: r)).length
          · have hk : ∀ z ∈ k :: r, i < z.2.length := fun z hz => by
              rcases List.mem_cons.mp hz with rfl | hz
              · omega
              · have := of_decide_eq_true (List.all_eq_true.mp (Bool.and_eq_true_iff.mp o).2 z hz)
                omega
            obtain ⟨col, h1, h2⟩ := col_ok (.cons a t) sm.stb hk
            refine .inr ⟨col, h1, by rw [fa.length, List.length_take]; omega, (zipD (k :: r)).length - (i + 1), by omega, fun T hT => ?_⟩
            have one : Stp M (M.to (upd M.hp T (.tup col))) := Stp.one hT
            have live : M.hp q ≠ none := some_ne hqM
            have ed : (zipD (k :: r))[i]? = some (.tuple ((k :: r).map fun p => p.2.getD i .none)) := by
              unfold zipD
              rw [List.getElem?_map, List.getElem?_range (by omega)]
              rfl
            have fT : Fz cf.K cf.ct (M.to (upd M.hp T (.tup col))) (.ref T) (.tuple ((k :: r).map fun p => p.2.getD i .none)) := .tup (.inl ⟨S'.out hT, fun z => S'.bl T z hT, .inl upd_same⟩) (h2.to one)
            have f2 := (fa.to one).append (.cons fT .nil)
            have bq' : (M.to (upd M.hp T (.tup col))).be q := bq
            refine ⟨(M.to (upd M.hp T (.tup col))).to (upd (upd M.hp T (.tup col)) q (.lst (acc ++ [.ref T]))), su, rfl, c, rfl, (sm.trans one).chq hq nq, bq, nqM, upd_same, ?_, (S'.new hT).chq bq' nqM⟩
            rw [List.take_add_one, ed]
            exact f2.mv (mv_q bq')
          · have ei : i = (zipD (k :: r)).length := by omega
            subst ei
            obtain ⟨xs, h3, h4⟩ := a.2 M sm.stb
            refine .inl ⟨p, ps, xs, rfl, h3, by rw [h4.length]; omega, ?_⟩
            rw [List.take_length] at fa
            have hA : ∀ a u, Rdy M a u → ¬ ((⟨m1.be, M.rh, M.hp⟩ : Mo).sh q).be a ∧ a ∉ ((⟨m1.be, M.rh, M.hp⟩ : Mo).sh q).rh := fun a u h => ⟨fun z => h.2.1 (Or.elim z (sm.bl a) fun e => by rw [e]; exact bq), h.1⟩
            refine h (.ref q) ⟨m1.be, M.rh, M.hp⟩ ⟨s1.trans ⟨fun _ h => h, fun _ h => .inl h, sm.ext, sm.keep⟩, ?_, ⟨q, acc, rfl, nqM, nb, hqM, fa.avo hA rfl⟩, fun _ _ => ⟨q, rfl, s1.new nq hq, ?_⟩⟩
            · exact SR.avo (m' := ⟨m1.be, M.rh, M.hp⟩) S' rfl (fun a u h => ⟨fun z => h.2.1 (sm.bl a z), h.1⟩) rfl (fun a h => S'.bl a (sm.bl a h)) fun a h => S'.dj a (sm.bl a h)
            · exact SR.avo (m' := (⟨m1.be, M.rh, M.hp⟩ : Mo).sh q) S' rfl hA rfl (fun a h => S'.bl a (Or.elim h (sm.bl a) fun e => by rw [e]; exact bq)) fun a h => S'.dj a (Or.elim h (sm.bl a) fun e => by rw [e]; exact bq)
/-! ### isinstance -/
/-- an own class as a type -/
structure ClsT (K : PySem.W.Frag) (C : Addr) : Prop where
  cl : Cls K C
  ha : PySem.W.findIn K (.ref C) "__class__" = some (some (.builtin "object.__class__"))
  hn : PySem.W.specialIn K (.builtin "object.__class__") "__get__" = some (some (.builtin "getset_descriptor.__get__"))
  htk : PySem.W.takesIn K (.builtin "object.__class__") = some true
  hm : PySem.W.mroIn K C (.type "object") = some true
def bts : List String := ["NoneType", "bool", "int", "str", "list", "tuple", "dict"]
structure KitT (K : PySem.W.Frag) (ct : CTab) : Prop where
  own : ∀ (k : Nat) (C : Addr) (ns : List Str), ct k = some (C, ns) → ClsT K C
  self : ∀ (k k' : Nat) (C C' : Addr) (ns ns' : List Str), ct k = some (C, ns) → ct k' = some (C', ns') → PySem.W.kitOne K (.ref C) (.ref C') = some (decide (k = k'))
  bo : ∀ b ∈ bts, ∀ (k : Nat) (C : Addr) (ns : List Str), ct k = some (C, ns) → PySem.W.kitOne K (.type b) (.ref C) = some false
  ob : ∀ b ∈ bts, ∀ (k : Nat) (C : Addr) (ns : List Str), ct k = some (C, ns) → PySem.W.kitOne K (.ref C) (.type b) = some false
/-- the type of a value: a built-in one, an own one -/
inductive Tyk where
  | b (n : String)
  | o (k : Nat)
def tykD : D → Option Tyk
  | .none => some (.b "NoneType")
  | .bool _ => some (.b "bool")
  | .int _ => some (.b "int")
  | .str _ => some (.b "str")
  | .list _ => some (.b "list")
  | .tuple _ => some (.b "tuple")
  | .dict [] => some (.b "dict")
  | .dict [(.none, .list _)] => some (.b "list")
  | .dict [(.int k, .tuple _)] => if 0 ≤ k then some (.o k.toNat) else none
  | _ => none
def tykW (st : Sto) : W → Option Tyk
  | .fz d => tykD d
  | .own _ => some (.b "list")
  | .loc n => match st[n]? with
    | some (.lst _) => some (.b "list")
    | some (.dk _) => some (.b "dict")
    | some (.ins k _) => some (.o k)
    | none => none
  | .nst _ => none
def clsW : W → Option Tyk
  | .fz (.dict [(.bool true, .str n)]) => (bts.find? fun b => decide (Str.ofString b = n)).map .b
  | .fz (.dict [(.bool false, .int k)]) => if 0 ≤ k then some (.o k.toNat) else none
  | _ => none
def isB (a b : String) : Bool := a == b || (a == "bool" && b == "int")
def isT : Tyk → Tyk → Bool
  | .b x, .b y => isB x y
  | .o x, .o y => decide (x = y)
  | _, _ => false
def fIsi (w x : W) (st : Sto) : Rt W := match tykW st w, clsW x with
  | some a, some b => .ok (.fz (.bool (isT a b))) st
  | _, _ => .no
theorem ofStr_inj {a b : String} (h : Str.ofString a = Str.ofString b) : a = b := by
  rw [Str.ofString_eq_toList, Str.ofString_eq_toList] at h
  have h1 : (a.toList.map Char.toNat).toArray = (b.toList.map Char.toNat).toArray := congrArg Str.cps h
  have h2 : a.toList.map Char.toNat = b.toList.map Char.toNat := by simpa using h1
  have h3 : ∀ (l k : List Char), l.map Char.toNat = k.map Char.toNat → l = k := fun l => by
    induction l with
    | nil => intro k e; cases k with
      | nil => rfl
      | cons _ _ => cases e
    | cons c l ih => intro k e; cases k with
      | nil => cases e
      | cons d k =>
        rw [List.map_cons, List.map_cons] at e
        injection e with e1 e2
        rw [ih k e2, show c = d from Char.ext (UInt32.toNat_inj.mp e1)]
  have h4 := h3 _ _ h2
  exact String.toList_inj.mp h4
theorem kitB_all : ∀ a ∈ bts, ∀ b ∈ bts, kitB a b = some (isB a b) := by decide +kernel
def TykV (ct : CTab) (t : Tyk) (u : Value) : Prop := match t with
  | .b n => u = .type n ∧ n ∈ bts
  | .o k => ∃ C ns, ct k = some (C, ns) ∧ u = .ref C
theorem tykD_ok (KT : KitT cf.K cf.ct) {d : D} {t : Tyk} (r : Fz cf.K cf.ct m v d) (e : tykD d = some t) : ∃ u, TyX cf.K m.hp v u ∧ TykV cf.ct t u := by
  cases r with
  | non => cases e; exact ⟨_, .base .non, rfl, by decide⟩
  | bl b => cases e; exact ⟨_, .base (.bl b), rfl, by decide⟩
  | int b => cases e; exact ⟨_, .base (.int b), rfl, by decide⟩
  | str b => cases e; exact ⟨_, .base (.str b), rfl, by decide⟩
  | tup h1 h2 =>
    cases e
    refine ⟨.type "tuple", ?_, rfl, by decide⟩
    rcases h1 with ⟨_, _, h | ⟨o, h⟩⟩ | (h | ⟨_, h⟩) | ⟨o, its, n, l, c, _⟩
    · exact .base (.tup h)
    · exact .fTuple h
    · cases h
    · cases h
    · exact .kTuple l c
  | lst h1 h2 h3 h4 => cases e; exact ⟨_, .base (.lst h3), rfl, by decide⟩
  | ro h1 h2 =>
    cases e
    refine ⟨.type "list", ?_, rfl, by decide⟩
    rcases h1 with ⟨_, _, h | ⟨o, h⟩⟩ | (h | ⟨_, h⟩) | ⟨o, its, n, l, c, _⟩
    · exact .base (.lst h)
    · exact .base (.frz h)
    · cases h
    · cases h
    · exact .kList l c
  | ty n => cases e
  | cls h => cases e
  | emp h =>
    cases e
    refine ⟨.type "dict", ?_, rfl, by decide⟩
    rcases h with ⟨_, _, h | ⟨o, h⟩⟩
    · exact .base (.dK h)
    · exact .fDict h
  | @ob a C dx c ns xs ds h1 h2 h3 h4 h5 h6 =>
    unfold tykD at e
    dsimp only at e
    split at e
    case isTrue z =>
      cases e
      have T := KT.own c C ns h1
      have hk : ((c : Int)).toNat = c := by omega
      exact ⟨.ref C, .base (.ins h4 T.cl T.ha T.hn T.htk T.hm), C, ns, by rw [hk]; exact h1, rfl⟩
    case isFalse => cases e
theorem tykW_ok (KT : KitT cf.K cf.ct) {t : Tyk} (S : SR cf.K cf.ct m st) (r : WR cf.K cf.ct m v w) (e : tykW st w = some t) : ∃ u, TyX cf.K m.hp v u ∧ TykV cf.ct t u := by
  cases w with
  | fz d => exact tykD_ok KT r e
  | own l => exact tykD_ok KT (d := .list l) r.fz_of e
  | nst _ => cases e
  | loc n =>
    obtain ⟨a, rfl, ha⟩ := r
    obtain ⟨o, ho, u, eu, hr⟩ := S.get ha
    unfold tykW at e
    dsimp only at e
    rw [ho] at e
    cases o with
    | lst l =>
      cases e
      obtain ⟨xs, rfl, _⟩ := hr.lst_of
      exact ⟨_, .base (.lst eu), rfl, by decide⟩
    | dk l =>
      cases e
      obtain ⟨xs, rfl, _⟩ := hr.dk_of
      exact ⟨_, .base (.dK eu), rfl, by decide⟩
    | ins k fs =>
      cases e
      obtain ⟨C, dx, ns, vs, rfl, h1, h2⟩ := hr.ins_of
      have T := KT.own k C ns h1
      exact ⟨.ref C, .base (.ins eu T.cl T.ha T.hn T.htk T.hm), C, ns, h1, rfl⟩
theorem clsW_ok {t : Tyk} (r : WR cf.K cf.ct m v w) (e : clsW w = some t) : ∃ u, ClsV v u ∧ TykV cf.ct t u := by
  unfold clsW at e
  split at e
  case h_1 n =>
    cases r with
    | ty n' =>
      cases q : bts.find? fun b => decide (Str.ofString b = (n' : Str)) with
      | none => rw [q] at e; cases e
      | some b =>
        rw [q] at e
        cases e
        have h1 := of_decide_eq_true (List.find?_some (p := fun b => decide (Str.ofString b = (n' : Str))) q)
        have hb : b = n' := ofStr_inj h1
        subst hb
        exact ⟨_, .ty _, rfl, List.mem_of_find?_eq_some q⟩
  case h_2 k =>
    cases r with
    | @cls C c ns h =>
      split at e
      case isTrue z =>
        cases e
        have hk : ((c : Int)).toNat = c := by omega
        exact ⟨_, .own C, C, ns, by rw [hk]; exact h, rfl⟩
      case isFalse => cases e
  case h_3 => cases e
theorem q_isi (KT : KitT cf.K cf.ct) : OpN cf E (rIsi cf.K) (f2 fIsi) := opN2 fun m st v u w x Q S r1 r2 h => by
  unfold fIsi at h
  cases e1 : tykW st w with
  | none => rw [e1] at h; exact h.elim
  | some a =>
    cases e2 : clsW x with
    | none => rw [e1, e2] at h; exact h.elim
    | some b =>
      rw [e1, e2] at h
      obtain ⟨z1, t1, k1⟩ := tykW_ok KT S r1 e1
      obtain ⟨z2, t2, k2⟩ := clsW_ok r2 e2
      refine ⟨v, u, z1, z2, isT a b, rfl, t2, t1, ?_, h.fz S (.bl _)⟩
      cases a with
      | b p =>
        obtain ⟨rfl, hp⟩ := k1
        cases b with
        | b q =>
          obtain ⟨rfl, hq⟩ := k2
          exact kit_ty (kitB_all p hp q hq)
        | o q =>
          obtain ⟨C, ns, hC, rfl⟩ := k2
          exact KT.bo p hp q C ns hC
      | o p =>
        obtain ⟨C, ns, hC, rfl⟩ := k1
        cases b with
        | b q =>
          obtain ⟨rfl, hq⟩ := k2
          exact KT.ob q hq p C ns hC
        | o q =>
          obtain ⟨C', ns', hC', rfl⟩ := k2
          exact KT.self p q C C' ns ns' hC hC'
/-! ### slices of tuples -/
def fSlT (w : W) (lo hi : Option Int) (st : Sto) : Rt W := match tupW w with
  | some l => if HT.sIx l.length 0 lo = 0 ∧ HT.sIx l.length l.length hi = l.length then .ok (.fz (.tuple l)) st else .ok (.fz (.tuple (cutD l lo hi))) st
  | none => .no
theorem q_slT : OpSl cf E (rSlA cf.K) fSlT := fun m st v w lo hi Q S r h => by
  unfold fSlT at h
  cases e : tupW w with
  | none => rw [e] at h; exact h.elim
  | some l =>
    rw [e] at h
    dsimp only at h
    have r0 := r
    obtain rfl : w = .fz (.tuple l) := by
      cases w with
      | fz d => cases d <;> first | (cases e; rfl) | cases e
      | own _ => cases e
      | nst _ => cases e
      | loc _ => cases e
    cases r with
    | @tup a xs _ h1 h2 =>
      refine ⟨a, xs, rfl, h1.sq, fun c => ?_, fun c p hp => ?_⟩
      · rw [h2.length] at c
        rw [if_pos c] at h
        exact h.fz S (.tup h1 h2)
      · rw [h2.length] at c
        rw [if_neg c] at h
        exact h _ _ (Rs.newTup S hp (cut_rel h2))
/-! ### repetition -/
noncomputable def fRep (w x : W) (st : Sto) : Rt W := match seqW st w, intW x with
  | some l, some k => @ite _ (-(2 ^ 63) ≤ k ∧ k < 2 ^ 63 ∧ l.length * k.toNat ≤ sizeLine) (Classical.propDecidable _) (.ok (.own (List.replicate k.toNat l).flatten) st) .no
  | _, _ => .no
theorem rep_rel {xs : List V} {l : List D} (f : FzA cf.K cf.ct m xs l) : ∀ n : Nat, FzA cf.K cf.ct m (List.replicate n xs).flatten (List.replicate n l).flatten
  | 0 => .nil
  | n + 1 => by
    rw [List.replicate_succ, List.replicate_succ, List.flatten_cons, List.flatten_cons]
    exact f.append (rep_rel f n)
theorem q_rep : Op2 cf E rRep fRep := fun m st v1 v2 w1 w2 Q S r1 r2 h => by
  unfold fRep at h
  cases e1 : seqW st w1 with
  | none => rw [e1] at h; exact h.elim
  | some l =>
    cases e2 : intW w2 with
    | none => rw [e1, e2] at h; exact h.elim
    | some k =>
      rw [e1, e2] at h
      dsimp only at h
      split at h
      case isFalse => exact h.elim
      case isTrue c =>
        obtain ⟨a, xs, rfl, hq, f⟩ := seq_ok S r1 e1
        obtain rfl := intW_ok r2 e2
        exact ⟨a, k, xs, rfl, rfl, hq, c.1, c.2.1, by rw [f.length]; exact c.2.2, fun p hp => h _ _ (Rs.new Stp.refl S hp (rep_rel f _))⟩
def fRepT (w x : W) (st : Sto) : Rt W := match tupW w, intW x with
  | some l, some k => if l ≠ [] ∧ 2 ≤ k ∧ k ≤ 1000 ∧ l.length ≤ 1000 then .ok (.fz (.tuple (List.replicate k.toNat l).flatten)) st else .no
  | _, _ => .no
end
section
variable {X : Cx} {o e : Expr} {es : List Expr} {to : TE} {t : TA} {name : Str} {apos cpos : Pos} {T id : String} {r : V → List V → Hp → VK → Prop}
theorem op_repTK (K : PySem.W.Frag) (h : X.K = K := by rfl) : OpR X (binaryOp .Mult) (rRepT K) := by subst h; exact op_repT
theorem pe_bm0N (K : PySem.W.Frag) (pa : PlainAttrs T) (slot : Slot T name id) (hty : typeOf (.builtin id) = pure (.type "method_descriptor")) (hm : MtR X id r) (ho : PE X o to) (h : X.K = K := by rfl)
    (hbase : attributeBase o name X.env (eval o X.env) = eval o X.env := by rfl) (hline : (apos.endLine == cpos.line) = true := by rfl) : PE X (.Call (.Attribute o name apos) [] [] cpos) (tBM0 K T r to) := by subst h; exact pe_bm0 pa slot hty hm ho hbase hline
theorem pe_bmN (K : PySem.W.Frag) (pa : PlainAttrs T) (slot : Slot T name id) (hty : typeOf (.builtin id) = pure (.type "method_descriptor")) (hm : MtR X id r) (ho : PE X o to) (ha : PA X (e :: es) t) (h : X.K = K := by rfl)
    (hbase : attributeBase o name X.env (eval o X.env) = eval o X.env := by rfl)
    (hfew : ((backTo cpos (starEach (e :: es) X.env)).all (fun x => !x.1) && (backToKw cpos (keywordEach [] X.env)).all (fun x => x.1.isSome)
      && decide ((e :: es).length + ([] : List Keyword).length + (if ([] : List Keyword).isEmpty then 0 else 1) < 30)) = true := by rfl)
    (hline : (apos.endLine == cpos.line) = true := by rfl) (hs : starEach (e :: es) X.env = (false, eval e X.env) :: starEach es X.env := by rfl) (hplain : (backTo cpos (starEach es X.env)).any (·.1) = false := by rfl) :
    PE X (.Call (.Attribute o name apos) (e :: es) [] cpos) (tBM K T r to t) := by subst h; exact pe_bm pa slot hty hm ho ha hbase hfew hline hs hplain
end
end QD
/-! LKq: a def called by keywords alone; fields with the part named. -/
namespace KW
open PySem PySem.Spec PyProof.Rows L2
section
variable {X : Cx} {CX : CXT} {k : Nat} {f : Addr} {fd : FuncData} {ps ks : List Str} {sp : Sp} {E : XK} {x : Str} {p pos : Pos} {kws : List Keyword} {tk : TA} {g : List Value → List Value → List Value} {gV : List V → List V → List V}
theorem pe_callK0 (F : FnOk X.prog X.w X.K X.mg X.base CX k f fd ps sp) (hr : Room k X.A) (hg : Gl X x) (hm : X.mg x = some (.ref f)) (hk : PySem.W.keepIn X.K (.ref f) = true) (hb : KBn X.K fd ps 0 ks g gV) (hx : Passes CX X E)
    (hkw : PK X kws tk) (hall : (backToKw pos (keywordEach kws X.env)).all (·.1.isSome) = true := by rfl) (hks : (backToKw pos (keywordEach kws X.env)).filterMap (·.1) = ks := by rfl)
    (hdb : (x == ("__debug__" : Str)) = false := by decide)
    (hpl : ((backTo pos (starEach [] X.env)).any (·.1) || (backToKw pos (keywordEach kws X.env)).any (·.1.isNone)) = false := by rfl) :
    PE X (.Call (.Name x p) [] kws pos) (fun σ H Q => tk σ H fun zs H2 => zs.length = ks.length ∧ sp (gV [] zs) H2 Q E) := by
  refine ⟨fun pins s σ H Q I h => ?_⟩
  refine wpAny_Call_Name_kw (ld_glob I hg hm ?_ hdb)
  refine PySem.W.callWith_KW0 (h₀ := X.base) I.ok.mod.kin hk hall ?_ hpl
  refine thn (hkw.run pos pins s σ H _ I h) fun ws s2 ⟨zs, H2, I2, rz, lz, q2⟩ => ⟨I2.kIn, ?_⟩
  rw [hks]
  have r2 := hb.rel (vs := []) (us := []) .nil rz
  have hl : (g [] ws).length = ps.length := by rw [← r2.length]; exact F.len _ _ _ _ q2
  refine wpAny_call (codeAny_mono (F.run X.A X.stack s2 H2 ⟨[], ks.zip ws⟩ (g [] ws) (gV [] zs) Q E hr I2.env0 (hb.to s2 [] ws I2.kIn rfl (by rw [← rz.length]; exact lz)) r2 q2) fun r s' hq => ?_)
  cases r with
  | error e => exact hx pins σ H2 s2 e s' I2 hq
  | ok fl =>
    cases fl with
    | ret u => exact I2.after hq
    | next => exact False.elim hq
    | brk => exact False.elim hq
    | cont => exact False.elim hq
end
end KW
namespace QD
open PySem PySem.Spec PyProof.Rows L2 MG
section
variable {X : Cx} {e : Expr} {f : Str} {ta : TE} {pos : Pos}
theorem pe_fldK (K : PySem.W.Frag) (he : PE X e ta) (hb : attributeBase e f X.env (eval e X.env) = eval e X.env) (h : X.K = K := by rfl) : PE X (.Attribute e f pos) (tFld K ta f) := by subst h; exact pe_fld he hb
end
/-- how keywords bind that are put in order by π -/
theorem kb_gP {K : PySem.W.Frag} {x qual : Str} {st : Stmt} {f : Addr} {fd : FuncData} {ps ks : List Str} (π : List Nat) (F : Fun K x qual st f fd)
    (h : ∀ (kV doc pm : Value) (an : Option Addr) (cdv ct : Value) (ws : List Value), ws.length = ks.length → bindArgs (PySem.W.fnOf x qual (defArgs st) (defBody st) (defScope st) .none kV doc pm an cdv ct) ⟨[], ks.zip ws⟩ = pure (ps.zip (gP π [] ws))) :
    KBn K fd ps 0 ks (gP π) (gP π) := by
  obtain ⟨oc, od, kV, doc, pm, an, cdv, ct, osl, rfl, lk, hcd⟩ := F.ex
  refine ⟨fun s us ws X l1 l2 => ?_, fun {vs us zs ws} r1 r2 => gP_rel r1 r2⟩
  obtain rfl : us = [] := List.length_eq_zero_iff.mp l1
  exact .of_eq (h kV doc pm an cdv ct ws l2)
end QD
/-! QM: loops and comprehensions of denotations, reckoned. -/
namespace QD
open PySem PySem.Spec PyProof.Rows L2 MG
section
variable {en : En} {st : Sto} {a : Dn} {s : Src} {g : DnG} {b : DnS} {e : Dn} {t : DnT}
@[simp] theorem ok_none {l : List D} : Src.ok ⟨l, none⟩ st = True := (rfl)
theorem ok_some {l : List D} {n : Nat} : Src.ok ⟨l, some n⟩ st = (st[n]? = some (.lst l)) := rfl
@[simp] theorem iSeq_eq {f : Sto → W → Option Src} : iSeq f a en st = (a en st).bind fun x st1 => match f st1 x with
  | some s => .ok s st1
  | none => .no := (rfl)
@[simp] theorem srcW_fz {l : List D} : srcW st (.fz (.list l)) = some ⟨l, none⟩ := (rfl)
@[simp] theorem srcW_own {l : List D} : srcW st (.own l) = some ⟨l, none⟩ := (rfl)
theorem srcW_loc {n : Nat} {l : List D} (h : st[n]? = some (.lst l)) : srcW st (.loc n) = some ⟨l, some n⟩ := by unfold srcW; dsimp only; rw [h]
@[simp] theorem srcT_fz {l : List D} : srcT st (.fz (.tuple l)) = some ⟨l, none⟩ := (rfl)
@[simp] theorem srcS_fz {x : Str} : srcS st (.fz (.str x)) = some ⟨x.cps.toList.map fun c => .str ⟨#[c]⟩, none⟩ := (rfl)
@[simp] theorem sFor_eq {i : En → Sto → Rt Src} : sFor i g b en st = sBind (i en st) fun s st1 => forL s g b s.l en st1 := (rfl)
@[simp] theorem dLc_eq {i : En → Sto → Rt Src} {vs : List Nat} : dLc i g t e vs en st = (i en st).bind fun s st1 => lcL s g t e (wipeE en vs) s.l [] st1 := (rfl)
theorem iR_ok {f : List Int → Option Src} {x : DnA} {ws : List W} {st1 : Sto} {l : List Int} {sr : Src} (h1 : x en st = .ok ws st1) (h2 : intsW ws = some l) (h3 : f l = some sr) : iR f x en st = .ok sr st1 := by
  unfold iR
  rw [h1, Rt.bind_ok, h2, Option.bind_some, h3]
theorem iR_eq {f : List Int → Option Src} {x : DnA} : iR f x en st = (x en st).bind fun ws st1 => match (intsW ws).bind f with
  | some s => .ok s st1
  | none => .no := (rfl)
@[simp] theorem intsW_nil : intsW [] = some [] := (rfl)
@[simp] theorem intsW_cons {i : Int} {ws : List W} : intsW (.fz (.int i) :: ws) = (intsW ws).map fun l => i :: l := (rfl)
theorem r1S_j (j : Int) : r1S [j] = @ite _ (-(2 ^ 62) ≤ j ∧ j < 2 ^ 62) (Classical.propDecidable _) (some (rngS 0 j.toNat)) none := rfl
theorem r1S_n {n : Nat} (h : n < 2 ^ 62) : r1S [(n : Int)] = some (rngS 0 n) := by
  rw [r1S_j, if_pos ⟨Int.le_trans (by decide) (Int.natCast_nonneg n), by have := Int.ofNat_lt.mpr h; simpa using this⟩, Int.toNat_natCast]
theorem r1S_k {n : Nat} (h : n ≤ 1000000) : r1S [(n : Int)] = some (rngS 0 n) := by
  rw [r1S_j, if_pos ⟨Int.le_trans (by decide) (Int.natCast_nonneg n), Int.lt_of_le_of_lt (Int.ofNat_le.mpr h) (by decide)⟩, Int.toNat_natCast]
theorem r1S_i {i : Int} (h0 : 0 ≤ i) (h : i < 1000000) : r1S [i] = some (rngS 0 i.toNat) := by
  rw [r1S_j, if_pos ⟨Int.le_trans (by decide) h0, Int.lt_trans h (by decide)⟩]
@[simp] theorem iEnu_eq {x : Bool} : iEnu x a en st = (a en st).bind fun y st1 => match kndW y with
  | some k => if k.1 = x then .ok ⟨enuD k.2, none⟩ st1 else .no
  | none => .no := (rfl)
@[simp] theorem kndW_fz {d : D} : kndW (.fz d) = kndD d := (rfl)
@[simp] theorem kndW_own {l : List D} : kndW (.own l) = some (false, l) := (rfl)
@[simp] theorem kndD_list {l : List D} : kndD (.list l) = some (false, l) := (rfl)
@[simp] theorem kndD_tup {l : List D} : kndD (.tuple l) = some (true, l) := (rfl)
@[simp] theorem kndD_ro {l : List D} : kndD (roD l) = some (false, l) := (rfl)
@[simp] theorem iZip_eq {x : DnA} : iZip x en st = (x en st).bind fun ws st1 => match kndWs ws with
  | some ks => if okZ ks = true then .ok ⟨zipD ks, none⟩ st1 else .no
  | none => .no := (rfl)
@[simp] theorem iZipS_eq : iZipS a en st = (a en st).bind fun x st1 => match (kndW x).bind fun k => kndDs k.2 with
  | some ks => if okZ ks = true then .ok ⟨zipD ks, none⟩ st1 else .no
  | none => .no := (rfl)
@[simp] theorem dListZip_eq {x : DnA} : dListZip x en st = (x en st).bind fun ws st1 => match kndWs ws with
  | some ks => if okZ ks = true ∧ (zipD ks).length < sizeLine then .ok (.own (zipD ks)) st1 else .no
  | none => .no := (rfl)
@[simp] theorem kndWs_nil : kndWs [] = some [] := (rfl)
@[simp] theorem kndWs_cons {w : W} {ws : List W} : kndWs (w :: ws) = match kndW w, kndWs ws with
  | some k, some ks => some (k :: ks)
  | _, _ => none := (rfl)
@[simp] theorem dFld_eq {c : Nat} {ns : List Str} {f : Str} : dFld c ns f a en st = (a en st).bind fun x st1 => match fldW c ns f st1 x with
  | some d => .ok (.fz d) st1
  | none => .no := (rfl)
@[simp] theorem dProp_eq {c : Nat} {ns : List Str} {F : Fd} : dProp c ns F a en st = (a en st).bind fun x st1 => match obW c ns st1 x with
  | some _ => F [x] st1
  | none => .no := (rfl)
@[simp] theorem sNo_eq : sNo en st = .no := (rfl)
@[simp] theorem dMeth_eq {c : Nat} {ns : List Str} {f : Str} {n : Nat} {F : Fd} {ds : List W} {x : DnA} : dMeth c ns f n F ds a x en st = (a en st).bind fun x' st1 => match obW c ns st1 x' with
  | some l => if l.contains f = false then (x en st1).bind fun ws st2 => if (ws.map frz ++ ds).length + 1 = n then F (x' :: (ws.map frz ++ ds)) st2 else .no else .no
  | none => .no := (rfl)
@[simp] theorem dM_eq {ty : Sto → W → Bool} {f : W → List W → Sto → Rt W} {x : DnA} : dM ty f a x en st = (a en st).bind fun o st1 => if ty st1 o = true then (x en st1).bind fun ws st2 => f o ws st2 else .no := (rfl)
@[simp] theorem f2I_def : (f2 fIsi) = f2 fIsi := (rfl)
/-! ### turns -/
theorem forL_inv (I : Nat → En → Sto → Prop) : ∀ (l : List D) (k : Nat) (en : En) (st : Sto), I k en st →
    (∀ i en st d, l[i]? = some d → I (k + i) en st → s.ok st ∧ ∃ en1 st1, g (.fz d) en st = .ok en1 st1 ∧ ∃ en2 st2, (b en1 st1 = .go en2 st2 ∨ b en1 st1 = .ct en2 st2) ∧ I (k + i + 1) en2 st2) →
    (∀ en st, I (k + l.length) en st → s.ok st) → ∃ en2 st2, forL s g b l en st = .go en2 st2 ∧ I (k + l.length) en2 st2
  | [], k, en, st, h0, _, he => by
    unfold forL
    rw [if_pos (he en st h0)]
    exact ⟨en, st, rfl, h0⟩
  | d :: l, k, en, st, h0, hs, he => by
    obtain ⟨ok, en1, st1, e1, en2, st2, e2, h2⟩ := hs 0 en st d rfl h0
    unfold forL
    rw [if_pos ok, e1]
    have ih := forL_inv I l (k + 1) en2 st2 h2 (fun i en st d hd hi => by
      have hi' : I (k + (i + 1)) en st := by rw [show k + (i + 1) = k + 1 + i by omega]; exact hi
      have := hs (i + 1) en st d (by simpa using hd) hi'
      rw [show k + (i + 1) + 1 = k + 1 + i + 1 by omega] at this
      exact this) (fun en st hi => he en st (by rw [List.length_cons, show k + (l.length + 1) = k + 1 + l.length by omega]; exact hi))
    rw [show k + (d :: l).length = k + 1 + l.length by rw [List.length_cons]; omega]
    rcases e2 with e2 | e2 <;> (dsimp only; rw [e2]; exact ih)
theorem lcL_inv {en0 : En} (I : Nat → List D → Sto → Prop) : ∀ (l : List D) (k : Nat) (acc : List D) (st : Sto), I k acc st →
    (∀ i acc st d, l[i]? = some d → I (k + i) acc st → s.ok st ∧ ∃ en2 st2 x st3, g (.fz d) en0 st = .ok en2 st2 ∧ t en2 st2 = .ok x st3 ∧
      ((x = false ∧ I (k + i + 1) acc st3) ∨ (x = true ∧ acc.length < sizeLine ∧ ∃ w st4 y, e en2 st3 = .ok w st4 ∧ datW w = some y ∧ I (k + i + 1) (acc ++ [y]) st4))) →
    (∀ acc st, I (k + l.length) acc st → s.ok st) → ∃ acc2 st2, lcL s g t e en0 l acc st = .ok (.own acc2) st2 ∧ I (k + l.length) acc2 st2
  | [], k, acc, st, h0, _, he => by
    unfold lcL
    rw [if_pos (he acc st h0)]
    exact ⟨acc, st, rfl, h0⟩
  | d :: l, k, acc, st, h0, hs, he => by
    obtain ⟨ok, en2, st2, x, st3, e1, e2, h⟩ := hs 0 acc st d rfl h0
    have rest : ∀ acc' st', I (k + 0 + 1) acc' st' → ∃ acc2 st2, lcL s g t e en0 l acc' st' = .ok (.own acc2) st2 ∧ I (k + (d :: l).length) acc2 st2 := fun acc' st' h' => by
      have ih := lcL_inv I l (k + 1) acc' st' h' (fun i en st d hd hi => by
        have hi' : I (k + (i + 1)) en st := by rw [show k + (i + 1) = k + 1 + i by omega]; exact hi
        have := hs (i + 1) en st d (by simpa using hd) hi'
        rw [show k + (i + 1) + 1 = k + 1 + i + 1 by omega] at this
        exact this) (fun en st hi => he en st (by rw [List.length_cons, show k + (l.length + 1) = k + 1 + l.length by omega]; exact hi))
      rw [show k + (d :: l).length = k + 1 + l.length by rw [List.length_cons]; omega]
      exact ih
    unfold lcL
    rw [if_pos ok, e1, nox_ok, Rt.bind_ok, e2, nox_ok, Rt.bind_ok]
    rcases h with ⟨rfl, h⟩ | ⟨rfl, hl, w, st4, y, e3, e4, h⟩
    · rw [if_neg Bool.false_ne_true]
      exact rest _ _ h
    · rw [if_pos rfl, e3, nox_ok, Rt.bind_ok, e4]
      dsimp only
      rw [if_pos hl]
      exact rest _ _ h
/-- where the walked list is not watched it matters not -/
theorem lcL_src {l1 l2 : List D} {en0 : En} : ∀ (l : List D), lcL ⟨l1, none⟩ g t e en0 l = lcL ⟨l2, none⟩ g t e en0 l
  | [] => by funext acc st; unfold lcL; rfl
  | d :: l => by
    funext acc st
    unfold lcL
    rw [lcL_src l]
    rfl
theorem forL_src {l1 l2 : List D} : ∀ (l : List D), forL ⟨l1, none⟩ g b l = forL ⟨l2, none⟩ g b l
  | [] => by funext en st; unfold forL; rfl
  | d :: l => by
    funext en st
    unfold forL
    rw [forL_src l]
    rfl
abbrev yesT : DnT := fun _ st => .ok true st
/-- items each by itself, the store as it was -/
theorem lcL_map {en0 : En} {f : D → D} : ∀ (l acc : List D), s.g = none →
    (∀ d ∈ l, ∃ en2 w, g (.fz d) en0 st = .ok en2 st ∧ e en2 st = .ok w st ∧ datW w = some (f d)) → acc.length + l.length ≤ sizeLine → lcL s g (fun _ st => .ok true st) e en0 l acc st = .ok (.own (acc ++ l.map f)) st
  | [], acc, hg, _, _ => by
    unfold lcL
    rw [if_pos (by unfold Src.ok; rw [hg]; trivial), List.map_nil, List.append_nil]
  | d :: l, acc, hg, h, hl => by
    obtain ⟨en2, w, e1, e2, e3⟩ := h d (List.mem_cons_self ..)
    unfold lcL
    rw [List.length_cons] at hl
    rw [if_pos (by unfold Src.ok; rw [hg]; trivial), e1, nox_ok, Rt.bind_ok, nox_ok, Rt.bind_ok, if_pos rfl, e2, nox_ok, Rt.bind_ok, e3]
    dsimp only
    rw [if_pos (by omega), lcL_map l _ hg (fun d' hd' => h d' (List.mem_cons_of_mem _ hd')) (by rw [List.length_append, List.length_singleton]; omega), List.append_assoc]
    rfl
/-- .. with a test -/
theorem lcL_filter {en0 : En} {f : D → D} {p : D → Bool} : ∀ (l acc : List D), s.g = none →
    (∀ d ∈ l, ∃ en2, g (.fz d) en0 st = .ok en2 st ∧ t en2 st = .ok (p d) st ∧ (p d = true → ∃ w, e en2 st = .ok w st ∧ datW w = some (f d))) → acc.length + l.length ≤ sizeLine → lcL s g t e en0 l acc st = .ok (.own (acc ++ (l.filter p).map f)) st
  | [], acc, hg, _, _ => by
    unfold lcL
    rw [if_pos (by unfold Src.ok; rw [hg]; trivial), List.filter_nil, List.map_nil, List.append_nil]
  | d :: l, acc, hg, h, hl => by
    obtain ⟨en2, e1, e2, h3⟩ := h d (List.mem_cons_self ..)
    unfold lcL
    rw [List.length_cons] at hl
    rw [if_pos (by unfold Src.ok; rw [hg]; trivial), e1, nox_ok, Rt.bind_ok, e2, nox_ok, Rt.bind_ok]
    cases hp : p d with
    | false =>
      rw [if_neg Bool.false_ne_true, lcL_filter l _ hg (fun d' hd' => h d' (List.mem_cons_of_mem _ hd')) (by omega), List.filter_cons, hp]
      rfl
    | true =>
      obtain ⟨w, e3, e4⟩ := h3 hp
      rw [if_pos rfl, e3, nox_ok, Rt.bind_ok, e4]
      dsimp only
      rw [if_pos (by omega), lcL_filter l _ hg (fun d' hd' => h d' (List.mem_cons_of_mem _ hd')) (by rw [List.length_append, List.length_singleton]; omega), List.filter_cons, hp, List.append_assoc]
      rfl
def natF (i : Nat) : En → Sto → Nat := fun en _ => match en[i]? with
  | some (some (.fz (.int k))) => k.toNat + 1
  | _ => 0
end
end QD
/-! QY: several names at once where some are shared with inner scopes (a real tuple, taken apart again). -/
namespace QD
open PySem PySem.Spec PyProof.Rows L2 MG
def gNs : List Nat → TGs
  | [] => gNil
  | i :: is => gCons (gName i) (gNs is)
def setW : En → List Nat → List W → Option En
  | en, [], [] => some en
  | en, i :: is, w :: ws => setW (en.set i (some (frz w))) is ws
  | _, _, _ => none
section
variable {cf : Cf} {E : XK} {m : Mo}
theorem gNs_ok : ∀ {is : List Nat} {vs : List V} {ws : List W} {en en' : En} {σ : L2.St} {Q : L2.St → Hp → Prop}, WRs cf m vs ws → ER cf.K cf.ct m σ en → setW en is ws = some en' → (∀ σ', ER cf.K cf.ct m σ' en' → Q σ' m.hp) → gNs is vs σ m.hp Q
  | [], _, _, _, _, _, _, .nil, er, h, k => by
    cases h
    exact ⟨rfl, k _ er⟩
  | i :: is, _, _, _, _, _, _, .cons r rs, er, h, k => by
    obtain ⟨r', q⟩ := frz_ok r
    exact ⟨_, _, rfl, gNs_ok rs (er.set i r' q) h k⟩
  | [], _, _, _, _, _, _, .cons _ _, _, h, _ => by cases h
  | _ :: _, _, _, _, _, _, _, .nil, _, h, _ => by cases h
theorem setW_len : ∀ {is : List Nat} {ws : List W} {en en' : En}, setW en is ws = some en' → ws.length = is.length
  | [], [], _, _, _ => rfl
  | _ :: _, _ :: _, _, _, h => congrArg Nat.succ (setW_len h)
  | [], _ :: _, _, _, h => by cases h
  | _ :: _, [], _, _, h => by cases h
def sParL (is : List Nat) (a : DnA) : DnS := fun en st => sBind (a en st) fun xs st1 => match setW en is xs with
  | some en' => .go en' st1
  | none => .no
theorem es_parT {t : TA} {a : DnA} {is : List Nat} (hl : is.length ≤ 100) (ha : Ea cf E t a) : Es cf E (tAsg (tTup t) (gTup cf.K is.length (gNs is))) (sParL is a) := fun m σ en st D er S h => by
  refine ha m σ en st _ er S ?_
  unfold sParL at h
  cases e : a en st with
  | ex c p st1 => rw [e] at h; exact h
  | no => rw [e] at h; exact h
  | ok xs st1 =>
    rw [e, sBind_ok] at h
    intro vs m1 s1 S1 r1
    split at h
    case h_2 => exact h.elim
    case h_1 en' e2 =>
      have hv : vs.length = is.length := r1.length.trans (setW_len e2)
      refine ⟨by rw [hv]; exact Nat.le_trans hl (by decide), fun p hp => ?_⟩
      have sp : Stp m1 (m1.to (upd m1.hp p (.tup vs))) := Stp.one hp
      have S2 : SR cf.K cf.ct (m1.to (upd m1.hp p (.tup vs))) st1 := S1.new hp
      have rd : FT cf.K (m1.to (upd m1.hp p (.tup vs))) p vs := .inl ⟨S1.out hp, fun z => S1.bl p z hp, .inl upd_same⟩
      refine ⟨p, vs, rfl, rd.sq, hv, ?_⟩
      exact gNs_ok (m := m1.to (upd m1.hp p (.tup vs))) (r1.to sp) ((er.to s1).to sp) e2 fun σ' er' => h σ' _ (s1.trans sp) er' S2
@[simp] theorem sParL_eq {is : List Nat} {a : DnA} {en : En} {st : Sto} : sParL is a en st = sBind (a en st) fun xs st1 => match setW en is xs with
  | some en' => .go en' st1
  | none => .no := (rfl)
@[simp] theorem setW_nil {en : En} : setW en [] [] = some en := (rfl)
@[simp] theorem setW_cons {en : En} {i : Nat} {is : List Nat} {w : W} {ws : List W} : setW en (i :: is) (w :: ws) = setW (en.set i (some (frz w))) is ws := (rfl)
end
end QD
/-! QV: a tuple some times, once too. -/
namespace QD
open PySem PySem.Spec PyProof.Rows L2 MG
theorem tuple_mul1 (l : Addr) (items : Array Value) (n : Nat) (dd : Option Addr) (sl : Array (Option Value)) (x : Int) (u : Tok) (c0 : (decide (x < -(2 ^ 63)) || decide (x ≥ 2 ^ 63)) = false) (c1 : (items.isEmpty || x == 1) = true) :
    Meets (Builtin.«tuple.__mul__» ⟨[.ref l, .int x u], []⟩) (fun _ R s => s.heap.get? l = some { cls := .type "tuple", dict := dd, data := .seq items n, slots := sl } ∧
      R (.ok (.ret (Value.ref l))) s) :=
  .of_wp fun prog w A R s h => by
    obtain ⟨hp, g, d, tk, os⟩ := s
    obtain ⟨hl, h⟩ := h
    have f1 := AutoSeq1.idx_int
    wp_walk using wpAny_loadPart' hl
    repeat (first
      | (refine wpAny_ite_false (decide_eq_false (by rw [c0]; exact Bool.false_ne_true)) ?_; wp_walk using wpAny_loadPart' hl)
      | (refine wpAny_ite_true (decide_eq_true c1) ?_; wp_walk using wpAny_loadPart' hl))
    exact ⟨_, rfl, h⟩
def rRep2 (K : PySem.W.Frag) : R2 := fun x y H Q => ∃ l k xs, x = .ref l ∧ y = .int k ∧ SqT K H l xs ∧ xs ≠ [] ∧ 1 ≤ k ∧ k ≤ 1000 ∧ xs.length ≤ 1000 ∧ (k = 1 → Q (.ref l) H) ∧ (2 ≤ k → ∀ p, H p = none → Q (.ref p) (upd H p (.tup (List.replicate k.toNat xs).flatten)))
section
variable {X : Cx}
theorem op_rep2 : OpR X (binaryOp .Mult) (rRep2 X.K) := by
  intro pins s σ H x y v u Q I rx ry h
  obtain ⟨l, k, xs, rfl, rfl, hT, hne, h1, h2, hz, q1, q2⟩ := h
  by_cases hk : k = 1
  · subst hk
    have q0 := q1 rfl
    cases rx
    obtain ⟨t, rfl⟩ := ry
    obtain ⟨its, r, ⟨⟨cls, dd, data, sl⟩, ho, hc, n, hd⟩, hs⟩ := I.tuple hT
    simp only at hc hd
    subst hc hd
    have c0 : (decide ((1 : Int) < -(2 ^ 63)) || decide ((1 : Int) ≥ 2 ^ 63)) = false := by decide
    have c1 : (its.toArray.isEmpty || (1 : Int) == 1) = true := by
      rw [show ((1 : Int) == 1) = true from rfl, Bool.or_true]
    exact wpAny_binaryOp_repeat_ref (T := "tuple") (U := "int") (by decide) ⟨_, ho, rfl⟩ (fun s' => typeIs_int s' 1 t) noFill_tuple_mul PySem.F.fills_int_mul PySem.F.slot_int_rmul repeat_tuple PySem.F.slot_int_index.lookup
      (call_meets PySem.F.slot_int_rmul (typeIs_int s 1 t) PySem.F.entry_int_rmul (PySem.F.args_int_rmul_2 _ _) (int_rmul_tuple 1 t l its.toArray n dd sl)
        ⟨ho, rfl, ⟨_, ho, rfl⟩, call_meets PySem.F.slot_tuple_mul ⟨_, ho, rfl⟩ PySem.F.entry_tuple_mul (PySem.F.args_tuple_mul_2 _ _) (tuple_mul1 l its.toArray n dd sl 1 t c0 c1) ⟨ho, ⟨.ref l, H, I, rfl, q0⟩⟩⟩)
  · exact op_repT pins s σ H _ _ v u Q I rx ry ⟨l, k, xs, rfl, rfl, hT, hne, by omega, h2, hz, fun p np => q2 (by omega) p np⟩
theorem op_repUK (K : PySem.W.Frag) (h : X.K = K := by rfl) : OpR X (binaryOp .Mult) (rRep2 K) := by subst h; exact op_rep2
end
def fRepU (w x : W) (st : Sto) : Rt W := match tupW w, intW x with
  | some l, some k => if l ≠ [] ∧ 1 ≤ k ∧ k ≤ 1000 ∧ l.length ≤ 1000 then .ok (.fz (.tuple (List.replicate k.toNat l).flatten)) st else .no
  | _, _ => .no
section
variable {cf : Cf} {E : XK}
theorem q_repU : Op2 cf E (rRep2 cf.K) fRepU := fun m st v1 v2 w1 w2 Q S r1 r2 h => by
  unfold fRepU at h
  cases e1 : tupW w1 with
  | none => rw [e1] at h; exact h.elim
  | some l =>
    cases e2 : intW w2 with
    | none => rw [e1, e2] at h; exact h.elim
    | some k =>
      rw [e1, e2] at h
      dsimp only at h
      split at h
      case isFalse => exact h.elim
      case isTrue c =>
        obtain ⟨a, xs, rfl, ha, fa⟩ := tupW_ok r1 e1
        obtain rfl := intW_ok r2 e2
        refine ⟨a, k, xs, rfl, rfl, ha.sq, fun e => c.1 ?_, c.2.1, c.2.2.1, by rw [fa.length]; exact c.2.2.2, fun e => ?_, fun _ p hp => ?_⟩
        · subst e
          cases fa
          rfl
        · subst e
          rw [show (List.replicate (1 : Int).toNat l).flatten = l by rw [show (1 : Int).toNat = 1 from rfl, List.replicate_one, List.flatten_cons, List.flatten_nil, List.append_nil]] at h
          exact h.fz S (.tup ha fa)
        · exact h _ _ (Rs.newTup S hp (rep_rel fa _))
end
/-! a list taken apart -/
section
variable {X : Cx} {pos : Pos}
theorem pg_lstK (K : PySem.W.Frag) {es : List Expr} {k : Nat} {t : TGs} {n : Nat} (hc : X.calm = true) (h : PGs X es t) (hn : (assignEach es X.env).length = n := by rfl) (hst : (assignEach es X.env).findIdx? (·.1) = none := by rfl)
    (hk : X.K = K := by rfl) : PG X (.Tuple es k pos) (gLst K n t) := by subst hk; exact pg_lst hc h hn hst
end
def gL (n : Nat) (gs : List D → En → Sto → Rt En) : DnG := fun w en st => match seqW st w with
  | some ds => if ds.length = n then gs ds en st else .no
  | none => .no
section
variable {cf : Cf} {E : XK}
theorem eg_lst {vs : List Nat} {n : Nat} {g : TGs} {a : List D → En → Sto → Rt En} (ha : Egs cf E vs g a) : Eg cf E vs (gLst cf.K n g) (gL n a) := fun m σ en st v w Q er S r h => by
  unfold gL at h
  cases e : seqW st w with
  | none => rw [e] at h; exact h.elim
  | some ds =>
    rw [e] at h
    dsimp only at h
    split at h
    case isTrue c =>
      obtain ⟨a', xs, rfl, hq, f⟩ := seq_ok S r e
      exact ⟨_, _, rfl, SqL.of hq, f.length.trans c, ha m σ en st _ ds Q er S f h⟩
    case isFalse c => exact h.elim
@[simp] theorem gL_own {n : Nat} {gs : List D → En → Sto → Rt En} {ds : List D} {en : En} {st : Sto} : gL n gs (.own ds) en st = if ds.length = n then gs ds en st else .no := (rfl)
@[simp] theorem gL_fz {n : Nat} {gs : List D → En → Sto → Rt En} {ds : List D} {en : En} {st : Sto} : gL n gs (.fz (.list ds)) en st = if ds.length = n then gs ds en st else .no := (rfl)
end
end QD
/-! QN: methods called by keywords alone, defaults that are ints, several classes. -/
namespace QD
open PySem PySem.Spec PyProof.Rows L2 MG
theorem int_ds (i : Int) {cf : Cf} : ∀ m : Mo, WRs cf m [.int i] [.fz (.int i)] ∧ ∀ w ∈ ([.fz (.int i)] : List W), w.stays := fun _ => ⟨.cons (.int i) .nil, fun w h => by rw [List.mem_singleton] at h; subst h; trivial⟩
def tMethK (C : Addr) (m : Str) (nk : Nat) (sp : Sp) (gV : List V → List V → List V) (E : XK) (ta : TE) (tk : TA) : TE := fun σ H Q => ta σ H fun x H1 => ∃ (a dx : Addr) (fs : List (Str × V)), x = .ref a ∧ H1 a = some (.ins C dx fs) ∧ fs.lookup m = none ∧ tk σ H1 fun zs H2 => zs.length = nk ∧ sp (gV [.ref a] zs) H2 Q E
section
variable {X : Cx} {CX : CXT} {k : Nat} {f C : Addr} {fd : FuncData} {ps ks : List Str} {sp : Sp} {E : XK} {m : Str} {pos apos : Pos} {o : Expr} {kws : List Keyword} {ta : TE} {tk : TA} {g : List Value → List Value → List Value} {gV : List V → List V → List V}
theorem pe_methK {pl : Sem Bool} (he : PE X o ta) (c : Cls X.K C) (hm : Meth X.K C m f) (F : FnOk X.prog X.w X.K X.mg X.base CX k f fd ps sp) (hr : Room k X.A) (hb : KBn X.K fd ps 1 ks g gV) (hx : Passes CX X E)
    (hkw : PK X kws tk) (hall : (backToKw pos (keywordEach kws X.env)).all (·.1.isSome) = true := by rfl) (hks : (backToKw pos (keywordEach kws X.env)).filterMap (·.1) = ks := by rfl)
    (hpl : ((backTo pos (starEach [] X.env)).any (·.1) || (backToKw pos (keywordEach kws X.env)).any (·.1.isNone)) = false := by rfl)
    (ht : eval (.Call (.Attribute o m apos) [] kws pos) X.env = (do
      let ov ← eval o X.env
      standAt apos.atName
      let (f, first) ← holding [ov] (getMethod ov m pl)
      callWith pos f first (backTo pos (starEach [] X.env)) (backToKw pos (keywordEach kws X.env))) := by rfl) :
    PE X (.Call (.Attribute o m apos) [] kws pos) (tMethK C m ks.length sp gV E ta tk) := by
  refine ⟨fun pins s σ H Q I h => ?_⟩
  refine PySem.W.methodCall_KW (pl := pl) (thn (he.run pins s σ H _ I h) fun u s1 ⟨x, H1, I1, rx, a, dx, fs, ex, ea, l, q⟩ => ?_) ht
  subst ex
  obtain rfl : u = Value.ref a := rx
  refine getmeth_ok I1 ea c hm l ?_
  refine PySem.W.callWith_KW0 (first := [.ref a]) (h₀ := X.base) I1.ok.mod.kin hm.kp hall ?_ hpl
  refine thn (hkw.run pos pins s1 σ H1 _ I1 q) fun ws s2 ⟨zs, H2, I2, rz, lz, q2⟩ => ⟨I2.kIn, ?_⟩
  rw [hks]
  have r2 := hb.rel (vs := [.ref a]) (us := [.ref a]) (.cons rfl .nil) rz
  have hl : (g [.ref a] ws).length = ps.length := by rw [← r2.length]; exact F.len _ _ _ _ q2
  refine wpAny_call (codeAny_mono (F.run X.A X.stack s2 H2 ⟨[.ref a], ks.zip ws⟩ (g [.ref a] ws) (gV [.ref a] zs) Q E hr I2.env0 (hb.to s2 [.ref a] ws I2.kIn rfl (by rw [← rz.length]; exact lz)) r2 q2) fun r s' hq => ?_)
  cases r with
  | error e => exact hx pins σ H2 s2 e s' I2 hq
  | ok fl =>
    cases fl with
    | ret u => exact I2.after hq
    | next => exact False.elim hq
    | brk => exact False.elim hq
    | cont => exact False.elim hq
end
/-- o.m(k = ..): places by π of the values written, then defaults -/
def dMethK (c : Nat) (ns : List Str) (f : Str) (n k : Nat) (π : List Nat) (F : Fd) (ds : List W) (a : Dn) (b : DnA) : Dn := fun en st => (a en st).bind fun x st1 => match obW c ns st1 x with
  | some l => if l.contains f = false then (b en st1).bind fun ws st2 => if ws.length = k ∧ (gP π [] (ws.map frz) ++ ds).length + 1 = n then F (x :: (gP π [] (ws.map frz) ++ ds)) st2 else .no else .no
  | none => .no
section
variable {cf : Cf} {E : XK}
theorem ev_methK {c n k : Nat} {C : Addr} {ns : List Str} {f : Str} {π : List Nat} {F : Fd} {dvs : List V} {ds : List W} {ta : TE} {t : TA} {a : Dn} {b : DnA} (hc : cf.ct c = some (C, ns)) (hd : ∀ m, WRs cf m dvs ds ∧ ∀ w ∈ ds, w.stays) (ha : Ev cf E ta a) (hb : Ea cf E t b) :
    Ev cf E (tMethK C f k (spD cf n F) (fun us zs => us ++ (gP π [] zs ++ dvs)) E ta t) (dMethK c ns f n k π F ds a b) := fun m σ en st Q er S h => by
  refine ha m σ en st _ er S ?_
  unfold dMethK at h
  cases e : a en st with
  | ex c p st1 => rw [e] at h; exact h
  | no => rw [e] at h; exact h
  | ok x st1 =>
    rw [e, Rt.bind_ok] at h
    intro v m1 r1
    cases e2 : obW c ns st1 x with
    | none => rw [e2] at h; exact h.elim
    | some l =>
      rw [e2] at h
      dsimp only at h
      split at h
      case isFalse => exact h.elim
      case isTrue hl =>
        obtain ⟨q, dx, fs, rfl, hq, hn⟩ := obW_ok hc r1.sr r1.wr e2
        refine ⟨q, dx, fs, rfl, hq, lookup_none (by rw [hn]; exact hl), ?_⟩
        refine hb m1 σ en st1 _ (er.to r1.stp) r1.sr ?_
        cases e3 : b en st1 with
        | ex c p st2 => rw [e3] at h; exact Xe.pre r1.stp h
        | no => rw [e3] at h; exact h
        | ok ws st2 =>
          rw [e3, Rt.bind_ok] at h
          intro vs m2 s2 S2 r2
          split at h
          case isFalse => exact h.elim
          case isTrue c =>
            obtain ⟨r, kk⟩ := r2.frz
            obtain ⟨r3, k3⟩ := gP_WRs (π := π) r kk
            obtain ⟨r', k'⟩ := hd m2
            refine ⟨by rw [r2.length, c.1], m2, st2, x :: (gP π [] (ws.map frz) ++ ds), rfl, .cons (r1.wr.to s2) (r3.append r'), fun w hw => ?_, S2, c.2, Pe.pre (r1.stp.trans s2) h⟩
            rcases List.mem_cons.mp hw with rfl | hw
            · exact ob_stays e2
            · exact (List.mem_append.mp hw).elim (k3 w) (k' w)
@[simp] theorem dMethK_eq {c n k : Nat} {ns : List Str} {f : Str} {π : List Nat} {F : Fd} {ds : List W} {a : Dn} {b : DnA} {en : En} {st : Sto} : dMethK c ns f n k π F ds a b en st = (a en st).bind fun x st1 => match obW c ns st1 x with
  | some l => if l.contains f = false then (b en st1).bind fun ws st2 => if ws.length = k ∧ (gP π [] (ws.map frz) ++ ds).length + 1 = n then F (x :: (gP π [] (ws.map frz) ++ ds)) st2 else .no else .no
  | none => .no := (rfl)
end
/-- several classes -/
theorem kitT_list {K : PySem.W.Frag} {cs : List (Addr × List Str)} (own : ∀ p ∈ cs, ClsT K p.1) (self : ∀ (i j : Nat) (p q : Addr × List Str), cs[i]? = some p → cs[j]? = some q → PySem.W.kitOne K (.ref p.1) (.ref q.1) = some (decide (i = j)))
    (bo : ∀ b ∈ bts, ∀ p ∈ cs, PySem.W.kitOne K (.type b) (.ref p.1) = some false) (ob : ∀ b ∈ bts, ∀ p ∈ cs, PySem.W.kitOne K (.ref p.1) (.type b) = some false) : KitT K (fun k => cs[k]?) :=
  ⟨fun k C ns h => own _ (List.mem_of_getElem? h), fun k k' C C' ns ns' h h' => self k k' _ _ h h', fun b hb k C ns h => bo b hb _ (List.mem_of_getElem? h), fun b hb k C ns h => ob b hb _ (List.mem_of_getElem? h)⟩
/-! a list, a tuple or a text -/
def fIxA (a b : W) (st : Sto) : Rt W := match strW a with
  | some _ => fIxS a b st
  | none => match tupW a with
    | some _ => fIxT a b st
    | none => fIxL a b st
def rIxA (K : PySem.W.Frag) : R2 := fun x y H Q => rIxS x y H Q ∨ rIxT K x y H Q ∨ rIxL K x y H Q
section
variable {X : Cx}
theorem ix_any (K : PySem.W.Frag) (h : X.K = K := by rfl) : IxR X (rIxA K) := fun value slice pins s σ H x y v u Q I r1 r2 hr hs => by
  subst h
  rcases hr with hr | hr | hr
  · exact ix_str value slice pins s σ H x y v u Q I r1 r2 hr hs
  · exact ix_tup value slice pins s σ H x y v u Q I r1 r2 hr hs
  · exact ix_list value slice pins s σ H x y v u Q I r1 r2 hr hs
def rLenA (K : PySem.W.Frag) : List V → Hp → VK → Prop := fun xs H Q => rLenV K xs H Q ∨ rLenQ K xs H Q
theorem call_lenA (K : PySem.W.Frag) (h : X.K = K := by rfl) : CallR X (.builtin "len") (rLenA K) := fun pins s σ H xs us Q I r hr => by
  subst h
  rcases hr with hr | hr
  · exact call_len pins s σ H xs us Q I r hr
  · exact call_len_seq pins s σ H xs us Q I r hr
end
def fLenA (w : W) (st : Sto) : Rt W := match strW w with
  | some _ => fLenS w st
  | none => fLen w st
section
variable {cf : Cf} {E : XK}
theorem q_ixA : Op2 cf E (rIxA cf.K) fIxA := fun m st v1 v2 w1 w2 Q S r1 r2 h => by
  unfold fIxA at h
  split at h
  · exact .inl (q_ixS m st v1 v2 w1 w2 Q S r1 r2 h)
  · split at h
    · exact .inr (.inl (q_ixT m st v1 v2 w1 w2 Q S r1 r2 h))
    · exact .inr (.inr (q_ixL m st v1 v2 w1 w2 Q S r1 r2 h))
theorem q_lenA : OpN cf E (rLenA cf.K) (f1 fLenA) := opN1 fun m st v w Q S r h => by
  unfold fLenA at h
  have go : ∀ {f : W → Sto → Rt W} {rr : List V → Hp → VK → Prop}, OpN cf E rr (f1 f) → Pe cf E m Q (f w st) → rr [v] m.hp Q := fun o hh => o m st [v] [w] Q S (.cons r .nil) hh
  split at h
  · exact .inl (go q_lenS h)
  · exact .inr (go q_len h)
@[simp] theorem fIxA_str {x : Str} {b : W} {st : Sto} : fIxA (.fz (.str x)) b st = fIxS (.fz (.str x)) b st := (rfl)
@[simp] theorem fIxA_tup {l : List D} {b : W} {st : Sto} : fIxA (.fz (.tuple l)) b st = fIxT (.fz (.tuple l)) b st := (rfl)
@[simp] theorem fIxA_lst {l : List D} {b : W} {st : Sto} : fIxA (.fz (.list l)) b st = fIxL (.fz (.list l)) b st := (rfl)
@[simp] theorem fLenA_str {x : Str} {st : Sto} : fLenA (.fz (.str x)) st = fLenS (.fz (.str x)) st := (rfl)
@[simp] theorem fLenA_tup {l : List D} {st : Sto} : fLenA (.fz (.tuple l)) st = fLen (.fz (.tuple l)) st := (rfl)
@[simp] theorem fLenA_lst {l : List D} {st : Sto} : fLenA (.fz (.list l)) st = fLen (.fz (.list l)) st := (rfl)
end
end QD
/-! QJ: lists of lists that change: made by a comprehension, an item, walked in a comprehension. -/
namespace QD
open PySem PySem.Spec PyProof.Rows L2 MG
section
variable {cf : Cf} {E : XK} {m m1 : Mo} {st : Sto} {q : Addr}
open Classical in
noncomputable def lcN (s : Src) (g : DnG) (e : Dn) (en0 : En) : List D → List Nat → Sto → Rt W
  | [], acc, st => if s.ok st then .ok (.nst acc) st else .no
  | d :: ds, acc, st => if s.ok st then (nox (g (.fz d) en0 st)).bind fun en2 st2 => (nox (e en2 st2)).bind fun w st4 => match w with
        | .own l => if acc.length < sizeLine then lcN s g e en0 ds (acc ++ [st4.length]) (st4 ++ [.lst l]) else .no
        | _ => .no
    else .no
/-- a list of new lists -/
noncomputable def dLcN (i : En → Sto → Rt Src) (g : DnG) (e : Dn) (vs : List Nat) : Dn := fun en st => (i en st).bind fun s st1 => lcN s g e (wipeE en vs) s.l [] st1
theorem KsR.len {m : Mo} {xs : List V} {ks : List Nat} (h : KsR m xs ks) : xs.length = ks.length := by
  induction h with
  | nil => rfl
  | cons _ _ ih => rw [List.length_cons, List.length_cons, ih]
theorem KsR.app {m : Mo} {xs : List V} {ks : List Nat} (h : KsR m xs ks) {v : V} {k : Nat} (hv : ∃ a, v = .ref a ∧ m.rh[k]? = some a) : KsR m (xs ++ [v]) (ks ++ [k]) := by
  induction h with
  | nil => exact .cons hv .nil
  | cons a _ ih => exact .cons a ih
theorem KsR.at_ {m : Mo} : ∀ {xs : List V} {ks : List Nat}, KsR m xs ks → ∀ {i k : Nat}, ks[i]? = some k → ∃ a, xs[i]? = some (.ref a) ∧ m.rh[k]? = some a
  | _, _, .nil, _, _, e => by cases e
  | _, _, .cons ⟨a, ea, ha⟩ t, i, k, e => by
    cases i with
    | zero => cases e; exact ⟨a, by rw [ea]; rfl, ha⟩
    | succ i => exact KsR.at_ t e
theorem ev_lcN {wi : TI} {g : TG} {te : TE} {vs : List Nat} {i : En → Sto → Rt Src} {d : DnG} {e : Dn} (hi : Ei cf E wi i) (hg : Eg cf noE vs g d) (he : Ev cf noE te e) : Ev cf E (tLc wi g tYes te vs) (dLcN i d e vs) := fun m σ en st Q er S h => by
  refine hi m σ en st _ er S ?_
  unfold dLcN at h
  cases e0 : i en st with
  | ex c p st1 => rw [e0] at h; exact h
  | no => rw [e0] at h; exact h
  | ok s st1 =>
    rw [e0, Rt.bind_ok] at h
    intro J m1 s1 S1 it q hq
    have nq : q ∉ m1.rh := S1.out hq
    have nb : ¬ m1.be q := fun z => S1.bl q z hq
    have n0 := (Rs.new (Stp.refl (m := m1)) S1 hq (.nil : FzA cf.K cf.ct m1 [] []))
    obtain ⟨q', eq', _, S2⟩ := n0.nw [] rfl
    cases eq'
    have sM : Stp m1 ((m1.to (upd m1.hp q (.lst []))).sh q) := ⟨fun a h => .inl h, fun a h => h.imp id fun z => by subst z; exact ⟨nq, hq⟩, ⟨[], (List.append_nil _).symm, fun _ h => nomatch h⟩, (Stp.one hq).keep⟩
    refine ⟨fun k n H => ∃ (M : Mo) (xs : List V) (acc : List Nat) (st' : Sto), n = s.l.length - k ∧ k ≤ s.l.length ∧ H = M.hp ∧ Stp m1 M ∧ M.be q ∧ q ∉ M.rh ∧ M.hp q = some (.lst xs) ∧ KsR M xs acc ∧ SR cf.K cf.ct M st' ∧
      Pe cf E m Q (lcN s d e (wipeE en vs) (s.l.drop k) acc st'), ⟨s.l.length, _, [], [], st1, by simp, Nat.zero_le _, rfl, sM, .inr rfl, nq, upd_same, .nil, S2, h⟩, ?_⟩
    rintro k n _ ⟨M, xs, acc, st', rfl, hk, rfl, sm, bq, nqM, hqM, fa, S', hp⟩
    have er' : ER cf.K cf.ct M (wipe σ vs) (wipeE en vs) := ((er.to s1).to sm).wipe vs
    by_cases c : k < s.l.length
    · have hd : s.l.drop k = s.l[k] :: s.l.drop (k + 1) := List.drop_eq_getElem_cons c
      rw [hd] at hp
      unfold lcN at hp
      split at hp
      case isFalse => exact hp.elim
      case isTrue ok =>
        obtain ⟨_, go⟩ := it M st' k sm.stb S' ok
        obtain ⟨g1, g2⟩ := go s.l[k] (List.getElem?_eq_getElem c)
        refine .inr ⟨g1, fun H2 => ∃ (M2 : Mo) (xs2 : List V) (acc2 : List Nat) (st2 : Sto), H2 = M2.hp ∧ Stp m1 M2 ∧ M2.be q ∧ q ∉ M2.rh ∧ M2.hp q = some (.lst xs2) ∧ KsR M2 xs2 acc2 ∧ SR cf.K cf.ct M2 st2 ∧
            Pe cf E m Q (lcN s d e (wipeE en vs) (s.l.drop (k + 1)) acc2 st2),
          fun H2 ⟨M2, xs2, acc2, st2, q1, q2, q3, q4, q5, q6, q7, q8⟩ => ⟨s.l.length - (k + 1), by omega, M2, xs2, acc2, st2, rfl, c, q1, q2, q3, q4, q5, q6, q7, q8⟩, fun x H' y => ?_⟩
        obtain ⟨sH, fx⟩ := g2 x H' y
        have sx : Stp M (M.to H') := .same sH
        refine hg (M.to H') (wipe σ vs) (wipeE en vs) st' x (.fz s.l[k]) _ (er'.to sx) (S'.same sH) fx ?_
        cases e2 : nox (d (.fz s.l[k]) (wipeE en vs) st') with
        | ex c p st2 => rw [e2] at hp; cases hr : d (.fz s.l[k]) (wipeE en vs) st' <;> rw [hr] at e2 <;> cases e2
        | no => rw [e2] at hp; exact hp.elim
        | ok en2 st2 =>
          rw [e2, Rt.bind_ok] at hp
          rw [Pe_nox e2]
          intro σ2 M2 s2 er2 S2' k2 l2
          refine ⟨wipe_eq (by rw [l2, wipe_length]) k2, ?_⟩
          refine et_yes (E := noE) M2 σ2 en2 st2 _ er2 S2' ?_
          have sx2 := sx.trans s2
          intro M3 s3 S3
          have sx3 := sx2.trans s3
          have live : M.hp q ≠ none := some_ne hqM
          rw [if_pos rfl]
          refine he M3 σ2 en2 st2 _ (er2.to s3) S3 ?_
          cases e4 : nox (e en2 st2) with
          | ex c p st4 => rw [e4] at hp; cases hr : e en2 st2 <;> rw [hr] at e4 <;> cases e4
          | no => rw [e4] at hp; exact hp.elim
          | ok w st4 =>
            rw [e4, Rt.bind_ok] at hp
            rw [Pe_nox e4]
            intro v M4 r4
            have sx4 := sx3.trans r4.stp
            cases w with
            | fz _ => exact hp.elim
            | loc _ => exact hp.elim
            | nst _ => exact hp.elim
            | own l =>
              dsimp only at hp
              split at hp
              case isFalse => exact hp.elim
              case isTrue hl =>
                obtain ⟨q', rfl, s5, S5, h5⟩ := r4.add
                have sx5 := sx3.trans s5
                have hq5 : (M4.add q').hp q = some (.lst xs) := sx5.keep q _ nqM hqM
                have bq5 : (M4.add q').be q := sx5.bl q bq
                have nq5 : q ∉ (M4.add q').rh := sx5.out nqM live
                have fa5 : KsR (M4.add q') (xs ++ [.ref q']) (acc ++ [st4.length]) := (fa.to sx5).app ⟨q', rfl, h5⟩
                exact ⟨xs, hq5, by rw [fa.len]; exact hl, (M4.add q').to (upd (M4.add q').hp q (.lst (xs ++ [.ref q']))), xs ++ [.ref q'], acc ++ [st4.length], st4 ++ [.lst l], rfl, (sm.trans sx5).chq hq nq, bq5, nq5, upd_same, (show KsR ((M4.add q').to (upd (M4.add q').hp q (.lst (xs ++ [.ref q'])))) (xs ++ [.ref q']) (acc ++ [st4.length]) from fa5), S5.chq bq5 nq5, hp⟩
    · have ek : k = s.l.length := by omega
      subst ek
      rw [List.drop_length] at hp
      unfold lcN at hp
      split at hp
      case isFalse => exact hp.elim
      case isTrue ok =>
        refine .inl ⟨(it M st' _ sm.stb S' ok).1 (Nat.le_refl _) (Nat.le_refl _), ?_⟩
        refine hp (.ref q) ⟨m1.be, M.rh, M.hp⟩ ⟨s1.trans ⟨fun _ h => h, fun _ h => .inl h, sm.ext, sm.keep⟩, ?_, ⟨q, xs, rfl, nqM, nb, hqM, fa⟩, fun _ z => nomatch z⟩
        exact SR.avo (m' := ⟨m1.be, M.rh, M.hp⟩) S' rfl (fun a u h => ⟨fun z => h.2.1 (sm.bl a z), h.1⟩) rfl (fun a h => S'.bl a (sm.bl a h)) fun a h => S'.dj a (sm.bl a h)
/-- int(x) of an integer or a truth value -/
def fIntB (w : W) (st : Sto) : Rt W := match w with
  | .fz (.bool k) => .ok (.fz (.int (if k = true then 1 else 0))) st
  | w => f1I (fun i => .int i) w st
theorem q_intB : OpN cf E (fun xs H Q => (∃ i, xs = [.int i] ∧ Q (.int i) H) ∨ ∃ k, xs = [.bl k] ∧ Q (.int (if k then 1 else 0)) H) (f1 fIntB) := opN1 fun m st v w Q S r h => by
  unfold fIntB at h
  split at h
  case h_1 k =>
    cases r
    exact .inr ⟨k, rfl, h.fz S (.int _)⟩
  case h_2 => exact q_int m st [v] [w] Q S (.cons r .nil) h
@[simp] theorem fIntB_bool {k : Bool} {st : Sto} : fIntB (.fz (.bool k)) st = .ok (.fz (.int (if k = true then 1 else 0))) st := (rfl)
@[simp] theorem fIntB_int {k : Int} {st : Sto} : fIntB (.fz (.int k)) st = .ok (.fz (.int k)) st := (rfl)
/-! min, max of three -/
def f3I (g : Int → Int → Int → Int) (ws : List W) (st : Sto) : Rt W := match ws with
  | [a, b, c] => match intW a, intW b, intW c with
    | some i, some j, some k => .ok (.fz (.int (g i j k))) st
    | _, _, _ => .no
  | _ => .no
def min3I (i j k : Int) : Int := if k < (if j < i then j else i) then k else (if j < i then j else i)
def max3I (i j k : Int) : Int := if (if i < j then j else i) < k then k else (if i < j then j else i)
theorem nuMin3_int (i j k : Int) : nuMin3 (.int i) (.int j) (.int k) = some (.int (min3I i j k)) := by
  have h2 : ∀ i j : Int, nuMin2 (.int i) (.int j) = some (.int (if j < i then j else i)) := fun i j => by
    show some (if decide (j < i) = true then V.int j else V.int i) = _
    by_cases c : j < i <;> simp [c]
  unfold nuMin3 min3I
  rw [h2, Option.bind_some, h2]
theorem nuMax3_int (i j k : Int) : nuMax3 (.int i) (.int j) (.int k) = some (.int (max3I i j k)) := by
  have h2 : ∀ i j : Int, nuMax2 (.int i) (.int j) = some (.int (if i < j then j else i)) := fun i j => by
    show some (if decide (i < j) = true then V.int j else V.int i) = _
    by_cases c : i < j <;> simp [c]
  unfold nuMax3 max3I
  rw [h2, Option.bind_some, h2]
theorem q_3I {f : V → V → V → Option V} {g : Int → Int → Int → Int} (hf : ∀ i j k : Int, f (.int i) (.int j) (.int k) = some (.int (g i j k))) : OpN cf E (rNuC3 f) (f3I g) := fun m st vs ws Q S r h => by
  unfold f3I at h
  split at h
  case h_2 => exact h.elim
  case h_1 a b c =>
    cases e1 : intW a with
    | none => rw [e1] at h; exact h.elim
    | some i =>
      cases e2 : intW b with
      | none => rw [e1, e2] at h; exact h.elim
      | some j =>
        cases e3 : intW c with
        | none => rw [e1, e2, e3] at h; exact h.elim
        | some k =>
          rw [e1, e2, e3] at h
          cases r with
          | cons r1 r =>
            cases r with
            | cons r2 r =>
              cases r with
              | cons r3 r =>
                cases r
                obtain rfl := intW_ok r1 e1
                obtain rfl := intW_ok r2 e2
                obtain rfl := intW_ok r3 e3
                exact ⟨_, _, _, _, rfl, hf i j k, h.fz S (.int _)⟩
theorem q_min3 : OpN cf E (rNuC3 nuMin3) (f3I min3I) := q_3I nuMin3_int
theorem q_max3 : OpN cf E (rNuC3 nuMax3) (f3I max3I) := q_3I nuMax3_int
@[simp] theorem f3I_eq {g : Int → Int → Int → Int} {i j k : Int} {st : Sto} : f3I g [.fz (.int i), .fz (.int j), .fz (.int k)] st = .ok (.fz (.int (g i j k))) st := (rfl)
/-- an item -/
def fIxN (a b : W) (st : Sto) : Rt W := match a, intW b with
  | .nst ks, some i => match atI ks i with
    | some k => .ok (.loc k) st
    | none => .no
  | _, _ => .no
theorem q_ixN : Op2 cf E (rIxL cf.K) fIxN := fun m st v1 v2 w1 w2 Q S r1 r2 h => by
  unfold fIxN at h
  cases w1 with
  | fz _ => exact h.elim
  | own _ => exact h.elim
  | loc _ => exact h.elim
  | nst ks =>
    cases e2 : intW w2 with
    | none => rw [e2] at h; exact h.elim
    | some i =>
      rw [e2] at h
      dsimp only at h
      cases e3 : atI ks i with
      | none => rw [e3] at h; exact h.elim
      | some k =>
        rw [e3] at h
        obtain ⟨p, xs, rfl, n, nb, hp, kk⟩ := r1
        unfold atI at e3
        cases e4 : ixN ks.length i with
        | none => rw [e4] at e3; cases e3
        | some j =>
          rw [e4] at e3
          obtain ⟨a, ha, hk⟩ := kk.at_ e3
          refine ⟨p, xs, i, .ref a, rfl, intW_ok r2 e2, SqL.of hp, ?_, h _ m (.loc Stp.refl S hk)⟩
          unfold atI
          rw [kk.len, e4]
          exact ha
noncomputable def lcG (g : DnG) (t : DnT) (e : Dn) (en0 : En) : List Nat → List D → Sto → Rt W
  | [], acc, st => .ok (.own acc) st
  | k :: ks, acc, st => (nox (g (.loc k) en0 st)).bind fun en2 st2 => (nox (t en2 st2)).bind fun b st3 =>
      if b = true then (nox (e en2 st3)).bind fun w st4 => match datW w with
        | some y => if acc.length < sizeLine then lcG g t e en0 ks (acc ++ [y]) st4 else .no
        | none => .no
      else lcG g t e en0 ks acc st3
noncomputable def dLcG (a : Dn) (g : DnG) (t : DnT) (e : Dn) (vs : List Nat) : Dn := fun en st => (a en st).bind fun x st1 => match x with
  | .nst ks => lcG g t e (wipeE en vs) ks [] st1
  | _ => .no
theorem ev_lcG {ta : TE} {g : TG} {tt : TT} {te : TE} {vs : List Nat} {a : Dn} {d : DnG} {t : DnT} {e : Dn} (ha : Ev cf E ta a) (hg : Eg cf noE vs g d) (ht : Et cf noE tt t) (he : Ev cf noE te e) : Ev cf E (tLc (iList cf.K ta) g tt te vs) (dLcG a d t e vs) := fun m σ en st Q er S h => by
  refine ha m σ en st _ er S ?_
  unfold dLcG at h
  cases e0 : a en st with
  | ex c p st1 => rw [e0] at h; exact h
  | no => rw [e0] at h; exact h
  | ok x st1 =>
    rw [e0, Rt.bind_ok] at h
    intro v0 m1 r1
    cases x with
    | fz _ => exact h.elim
    | own _ => exact h.elim
    | loc _ => exact h.elim
    | nst ks =>
    dsimp only at h
    obtain ⟨p0, ys, rfl, np, nbp, hp0, kk⟩ := r1.wr
    have s1 := r1.stp
    have S1 := r1.sr
    refine ⟨p0, rfl, ⟨ys, SqL.of hp0⟩, ?_⟩
    intro q hq
    have nq : q ∉ m1.rh := S1.out hq
    have nb : ¬ m1.be q := fun z => S1.bl q z hq
    have n0 := (Rs.new (Stp.refl (m := m1)) S1 hq (.nil : FzA cf.K cf.ct m1 [] []))
    obtain ⟨q', eq', _, S2⟩ := n0.nw [] rfl
    cases eq'
    have sM : Stp m1 ((m1.to (upd m1.hp q (.lst []))).sh q) := ⟨fun a h => .inl h, fun a h => h.imp id fun z => by subst z; exact ⟨nq, hq⟩, ⟨[], (List.append_nil _).symm, fun _ h => nomatch h⟩, (Stp.one hq).keep⟩
    refine ⟨fun k n H => ∃ (M : Mo) (xs : List V) (acc : List D) (st' : Sto), n = ks.length - k ∧ k ≤ ks.length ∧ H = M.hp ∧ Stp m1 M ∧ M.be q ∧ q ∉ M.rh ∧ M.hp q = some (.lst xs) ∧ FzA cf.K cf.ct M xs acc ∧ SR cf.K cf.ct M st' ∧
      Pe cf E m Q (lcG d t e (wipeE en vs) (ks.drop k) acc st'), ⟨ks.length, _, [], [], st1, by simp, Nat.zero_le _, rfl, sM, .inr rfl, nq, upd_same, .nil, S2, h⟩, ?_⟩
    rintro k n _ ⟨M, xs, acc, st', rfl, hk, rfl, sm, bq, nqM, hqM, fa, S', hp⟩
    have er' : ER cf.K cf.ct M (wipe σ vs) (wipeE en vs) := ((er.to s1).to sm).wipe vs
    have hpM : M.hp p0 = some (.lst ys) := sm.keep _ _ np hp0
    by_cases c : k < ks.length
    · have hd : ks.drop k = ks[k] :: ks.drop (k + 1) := List.drop_eq_getElem_cons c
      rw [hd] at hp
      unfold lcG at hp
      obtain ⟨a, hy, hr⟩ := kk.at_ (List.getElem?_eq_getElem c)
      refine .inr ⟨⟨ys, .ref a, SqL.of hpM, hy⟩, fun H2 => ∃ (M2 : Mo) (xs2 : List V) (acc2 : List D) (st2 : Sto), H2 = M2.hp ∧ Stp m1 M2 ∧ M2.be q ∧ q ∉ M2.rh ∧ M2.hp q = some (.lst xs2) ∧ FzA cf.K cf.ct M2 xs2 acc2 ∧ SR cf.K cf.ct M2 st2 ∧
            Pe cf E m Q (lcG d t e (wipeE en vs) (ks.drop (k + 1)) acc2 st2),
          fun H2 ⟨M2, xs2, acc2, st2, q1, q2, q3, q4, q5, q6, q7, q8⟩ => ⟨ks.length - (k + 1), by omega, M2, xs2, acc2, st2, rfl, c, q1, q2, q3, q4, q5, q6, q7, q8⟩, fun x H' y => ?_⟩
      obtain ⟨rfl, y⟩ := y
      have := y ys (SqL.of hpM)
      rw [hy] at this
      cases this
      refine hg M (wipe σ vs) (wipeE en vs) st' (.ref a) (.loc ks[k]) _ er' S' ⟨a, rfl, sm.get hr⟩ ?_
      cases e2 : nox (d (.loc ks[k]) (wipeE en vs) st') with
      | ex c p st2 => rw [e2] at hp; cases hr : d (.loc ks[k]) (wipeE en vs) st' <;> rw [hr] at e2 <;> cases e2
      | no => rw [e2] at hp; exact hp.elim
      | ok en2 st2 =>
        rw [e2, Rt.bind_ok] at hp
        rw [Pe_nox e2]
        intro σ2 M2 s2 er2 S2' k2 l2
        refine ⟨wipe_eq (by rw [l2, wipe_length]) k2, ?_⟩
        refine ht M2 σ2 en2 st2 _ er2 S2' ?_
        cases e3 : nox (t en2 st2) with
        | ex c p st3 => rw [e3] at hp; cases hr : t en2 st2 <;> rw [hr] at e3 <;> cases e3
        | no => rw [e3] at hp; exact hp.elim
        | ok b st3 =>
          rw [e3, Rt.bind_ok] at hp
          rw [Pe_nox e3]
          intro M3 s3 S3
          have sx3 := s2.trans s3
          have live : M.hp q ≠ none := some_ne hqM
          cases b with
          | false =>
            rw [if_neg Bool.false_ne_true] at hp ⊢
            exact ⟨M3, xs, acc, st3, rfl, sm.trans sx3, sx3.bl q bq, sx3.out nqM live, sx3.keep q _ nqM hqM, fa.to sx3, S3, hp⟩
          | true =>
            rw [if_pos rfl] at hp ⊢
            refine he M3 σ2 en2 st3 _ (er2.to s3) S3 ?_
            cases e4 : nox (e en2 st3) with
            | ex c p st4 => rw [e4] at hp; cases hr : e en2 st3 <;> rw [hr] at e4 <;> cases e4
            | no => rw [e4] at hp; exact hp.elim
            | ok w st4 =>
              rw [e4, Rt.bind_ok] at hp
              rw [Pe_nox e4]
              intro v M4 r4
              have sx4 := sx3.trans r4.stp
              cases e5 : datW w with
              | none => rw [e5] at hp; exact hp.elim
              | some y =>
                rw [e5] at hp
                dsimp only at hp
                split at hp
                case isFalse => exact hp.elim
                case isTrue hl =>
                  have hq4 : M4.hp q = some (.lst xs) := sx4.keep q _ nqM hqM
                  have bq4 : M4.be q := sx4.bl q bq
                  have nq4 : q ∉ M4.rh := sx4.out nqM live
                  have fa4 : FzA cf.K cf.ct M4 (xs ++ [v]) (acc ++ [y]) := (fa.to sx4).append (.cons (dat_ok r4.wr e5) .nil)
                  exact ⟨xs, hq4, by rw [fa.length]; exact hl, M4.to (upd M4.hp q (.lst (xs ++ [v]))), xs ++ [v], acc ++ [y], st4, rfl, (sm.trans sx4).chq hq nq, bq4, nq4, upd_same, fa4.mv (mv_q bq4), r4.sr.chq bq4 nq4, hp⟩
    · have ek : k = ks.length := by omega
      subst ek
      rw [List.drop_length] at hp
      unfold lcG at hp
      refine .inl ⟨⟨ys, SqL.of hpM, by rw [kk.len]; exact Nat.le_refl _⟩, ?_⟩
      have hA : ∀ a u, Rdy M a u → ¬ ((⟨m1.be, M.rh, M.hp⟩ : Mo).sh q).be a ∧ a ∉ ((⟨m1.be, M.rh, M.hp⟩ : Mo).sh q).rh := fun a u h => ⟨fun z => h.2.1 (Or.elim z (sm.bl a) fun e => by rw [e]; exact bq), h.1⟩
      refine hp (.ref q) ⟨m1.be, M.rh, M.hp⟩ ⟨s1.trans ⟨fun _ h => h, fun _ h => .inl h, sm.ext, sm.keep⟩, ?_, ⟨q, xs, rfl, nqM, nb, hqM, fa.avo hA rfl⟩, fun _ _ => ⟨q, rfl, s1.new nq hq, ?_⟩⟩
      · exact SR.avo (m' := ⟨m1.be, M.rh, M.hp⟩) S' rfl (fun a u h => ⟨fun z => h.2.1 (sm.bl a z), h.1⟩) rfl (fun a h => S'.bl a (sm.bl a h)) fun a h => S'.dj a (sm.bl a h)
      · exact SR.avo (m' := (⟨m1.be, M.rh, M.hp⟩ : Mo).sh q) S' rfl hA rfl (fun a h => S'.bl a (Or.elim h (sm.bl a) fun e => by rw [e]; exact bq)) fun a h => S'.dj a (Or.elim h (sm.bl a) fun e => by rw [e]; exact bq)
end
section
variable {en : En} {st : Sto}
@[simp] theorem frz_nst {ks : List Nat} : frz (.nst ks) = .nst ks := (rfl)
@[simp] theorem dLcN_eq {i : En → Sto → Rt Src} {g : DnG} {e : Dn} {vs : List Nat} : dLcN i g e vs en st = (i en st).bind fun s st1 => lcN s g e (wipeE en vs) s.l [] st1 := (rfl)
@[simp] theorem dLcG_eq {a : Dn} {g : DnG} {t : DnT} {e : Dn} {vs : List Nat} : dLcG a g t e vs en st = (a en st).bind fun x st1 => match x with
  | .nst ks => lcG g t e (wipeE en vs) ks [] st1
  | _ => .no := (rfl)
@[simp] theorem fIxN_eq {ks : List Nat} {i : Int} : fIxN (.nst ks) (.fz (.int i)) st = match atI ks i with
  | some k => .ok (.loc k) st
  | none => .no := (rfl)
end
end QD
namespace K14
open PySem PySem.Spec PyProof.Rows L2 MG QD ZMS
def top (i : Nat) : Stmt := PySem.Challenge.pw_meetrounds_k14_whole_tables_needed.main.body.getD i (.Pass ⟨0, 0, 0, 0⟩)
def ns_Fair : List Str := ["_hosts", "_guests", "_tables", "_names", "_text"]
abbrev s_is_integer : Stmt := top 17
theorem sc_is_integer : FnScope ["value", "least", "most"] ["value", "least", "most"] (defScope s_is_integer) := ⟨rfl, rfl, rfl, by decide +kernel, rfl, by decide +kernel, by decide +kernel⟩
abbrev s_is_name : Stmt := top 18
theorem sc_is_name : FnScope ["value", "sign"] ["value"] (defScope s_is_name) := ⟨rfl, rfl, rfl, by decide +kernel, rfl, by decide +kernel, by decide +kernel⟩
abbrev s_is_pair : Stmt := top 19
theorem sc_is_pair : FnScope ["value"] ["value"] (defScope s_is_pair) := ⟨rfl, rfl, rfl, by decide +kernel, rfl, by decide +kernel, by decide +kernel⟩
abbrev s_names_of : Stmt := top 23
theorem sc_names_of : FnScope ["side", "member"] ["side"] (defScope s_names_of) := ⟨rfl, rfl, rfl, by decide +kernel, rfl, by decide +kernel, by decide +kernel⟩
abbrev s_text_of : Stmt := top 24
theorem sc_text_of : FnScope ["hosts", "guests", "tables", "lines", "name", "bound"] ["hosts", "guests", "tables"] (defScope s_text_of) := ⟨rfl, rfl, rfl, by decide +kernel, rfl, by decide +kernel, by decide +kernel⟩
abbrev s_Fair_hosts : Stmt := inClass (top 27) 2
theorem sc_Fair_hosts : FnScope ["self"] ["self"] (defScope s_Fair_hosts) := ⟨rfl, rfl, rfl, by decide +kernel, rfl, by decide +kernel, by decide +kernel⟩
abbrev s_Fair_guests : Stmt := inClass (top 27) 3
theorem sc_Fair_guests : FnScope ["self"] ["self"] (defScope s_Fair_guests) := ⟨rfl, rfl, rfl, by decide +kernel, rfl, by decide +kernel, by decide +kernel⟩
abbrev s_Fair_tables : Stmt := inClass (top 27) 4
theorem sc_Fair_tables : FnScope ["self"] ["self"] (defScope s_Fair_tables) := ⟨rfl, rfl, rfl, by decide +kernel, rfl, by decide +kernel, by decide +kernel⟩
abbrev s_sum_of : Stmt := top 31
theorem sc_sum_of : FnScope ["table", "row"] ["table"] (defScope s_sum_of) := ⟨rfl, rfl, rfl, by decide +kernel, rfl, by decide +kernel, by decide +kernel⟩
abbrev s_ceiling : Stmt := top 32
theorem sc_ceiling : FnScope ["number", "by"] ["number", "by"] (defScope s_ceiling) := ⟨rfl, rfl, rfl, by decide +kernel, rfl, by decide +kernel, by decide +kernel⟩
abbrev s_check_fair : Stmt := top 34
theorem sc_check_fair : FnScope ["fair"] ["fair"] (defScope s_check_fair) := ⟨rfl, rfl, rfl, by decide +kernel, rfl, by decide +kernel, by decide +kernel⟩
abbrev s_l_jug : Stmt := top 45
theorem sc_l_jug : FnScope ["_law_script", "_law_at", "_law_own", "_law_mixed", "_law_each"] ["_law_script", "_law_at"] (defScope s_l_jug) := ⟨rfl, rfl, rfl, by decide +kernel, rfl, by decide +kernel, by decide +kernel⟩
abbrev s_l_pour : Stmt := top 46
theorem sc_l_pour : FnScope ["_law_jug_here", "_law_many", "_law_digit", "_law_mixed"] ["_law_jug_here", "_law_many"] (defScope s_l_pour) := ⟨rfl, rfl, rfl, by decide +kernel, rfl, by decide +kernel, by decide +kernel⟩
abbrev s_l_in_rows : Stmt := top 53
theorem sc_l_in_rows : FnScope ["_law_grid_here", "_law_row"] ["_law_grid_here"] (defScope s_l_in_rows) := ⟨rfl, rfl, rfl, by decide +kernel, rfl, by decide +kernel, by decide +kernel⟩
abbrev s_l_in_columns : Stmt := top 54
theorem sc_l_in_columns : FnScope ["_law_grid_here", "_law_at", "_law_row"] ["_law_grid_here"] (defScope s_l_in_columns) := ⟨rfl, rfl, rfl, by decide +kernel, rfl, by decide +kernel, by decide +kernel⟩
abbrev s_l_within : Stmt := top 57
theorem sc_l_within : FnScope ["_law_thing", "_law_least", "_law_most"] ["_law_thing", "_law_least", "_law_most"] (defScope s_l_within) := ⟨rfl, rfl, rfl, by decide +kernel, rfl, by decide +kernel, by decide +kernel⟩
abbrev s_is_member : Stmt := top 21
theorem sc_is_member : FnScope ["value"] ["value"] (defScope s_is_member) := ⟨rfl, rfl, rfl, by decide +kernel, rfl, by decide +kernel, by decide +kernel⟩
abbrev s_is_row : Stmt := top 29
theorem sc_is_row : FnScope ["value", "guests", "most", "number"] ["value", "guests", "most"] (defScope s_is_row) := ⟨rfl, rfl, rfl, by decide +kernel, rfl, by decide +kernel, by decide +kernel⟩
abbrev s_check_number : Stmt := top 37
theorem sc_check_number : FnScope ["given"] ["given"] (defScope s_check_number) := ⟨rfl, rfl, rfl, by decide +kernel, rfl, by decide +kernel, by decide +kernel⟩
abbrev s_l_word : Stmt := top 47
theorem sc_l_word : FnScope ["_law_jug_here", "_law_signs", "_law_words_here", "_law_word_here", "_law_more"] ["_law_jug_here"] (defScope s_l_word) := ⟨rfl, rfl, rfl, by decide +kernel, rfl, by decide +kernel, by decide +kernel⟩
abbrev s_l_number : Stmt := top 51
theorem sc_l_number : FnScope ["_law_jug_here", "_law_way", "_law_any_here"] ["_law_jug_here", "_law_way"] (defScope s_l_number) := ⟨rfl, rfl, rfl, by decide +kernel, rfl, by decide +kernel, by decide +kernel⟩
abbrev s_l_shares : Stmt := top 55
theorem sc_l_shares : FnScope ["_law_parts_here", "_law_grid_here", "_law_found", "_law_sums", "_law_side", "_law_at", "_law_word_here", "_law_bound"] ["_law_parts_here", "_law_grid_here"] (defScope s_l_shares) := ⟨rfl, rfl, rfl, by decide +kernel, rfl, by decide +kernel, by decide +kernel⟩
abbrev s_fault : Stmt := top 22
theorem sc_fault : FnScope ["side", "taken", "seen", "index", "member"] ["side", "taken"] (defScope s_fault) := ⟨rfl, rfl, rfl, by decide +kernel, rfl, by decide +kernel, by decide +kernel⟩
abbrev s_table_fault : Stmt := top 30
theorem sc_table_fault : FnScope ["value", "hosts", "guests", "most", "index", "row"] ["value", "hosts", "guests", "most"] (defScope s_table_fault) := ⟨rfl, rfl, rfl, by decide +kernel, rfl, by decide +kernel, by decide +kernel⟩
abbrev s_reasons : Stmt := top 40
theorem sc_reasons : FnScope ["fair", "meetings", "columns", "pairs", "column", "name", "bound", "row", "many"] ["fair", "meetings"] (defScope s_reasons) := ⟨rfl, rfl, rfl, by decide +kernel, rfl, by decide +kernel, by decide +kernel⟩
abbrev s_l_words : Stmt := top 48
theorem sc_l_words : FnScope ["_law_jug_here", "_law_many", "_law_found", "_law_at", "_law_word_here", "_law_each", "_law_number_here"] ["_law_jug_here", "_law_many"] (defScope s_l_words) := ⟨rfl, rfl, rfl, by decide +kernel, rfl, by decide +kernel, by decide +kernel⟩
abbrev s_l_grid : Stmt := top 52
theorem sc_l_grid : FnScope ["_law_jug_here", "_law_parts_here", "_law_way", "_law_two", "_law_one"] ["_law_jug_here", "_law_parts_here", "_law_way"] (defScope s_l_grid) := ⟨rfl, rfl, rfl, by decide +kernel, rfl, by decide +kernel, by decide +kernel⟩
abbrev s_l_due : Stmt := top 56
theorem sc_l_due : FnScope ["_law_parts_here", "_law_grid_here", "_law_share"] ["_law_parts_here", "_law_grid_here"] (defScope s_l_due) := ⟨rfl, rfl, rfl, by decide +kernel, rfl, by decide +kernel, by decide +kernel⟩
abbrev s_Fairu_initu : Stmt := inClass (top 27) 0
theorem sc_Fairu_initu : FnScope ["self", "hosts", "guests", "tables", "fault"] ["self", "hosts", "guests", "tables"] (defScope s_Fairu_initu) := ⟨rfl, rfl, rfl, by decide +kernel, rfl, by decide +kernel, by decide +kernel⟩
abbrev s_meetings_fault : Stmt := top 35
theorem sc_meetings_fault : FnScope ["fair", "value"] ["fair", "value"] (defScope s_meetings_fault) := ⟨rfl, rfl, rfl, by decide +kernel, rfl, by decide +kernel, by decide +kernel⟩
abbrev s_least_rounds : Stmt := top 41
theorem sc_least_rounds : FnScope ["fair", "meetings", "_", "need"] ["fair", "meetings"] (defScope s_least_rounds) := ⟨rfl, rfl, rfl, by decide +kernel, rfl, by decide +kernel, by decide +kernel⟩
abbrev s_l_parts : Stmt := top 49
theorem sc_l_parts : FnScope ["_law_jug_here", "_law_most_here", "_law_most_there", "_law_here", "_law_there", "_law_pairs", "_law_desks", "_law_word_here"] ["_law_jug_here", "_law_most_here", "_law_most_there"] (defScope s_l_parts) := ⟨rfl, rfl, rfl, by decide +kernel, rfl, by decide +kernel, by decide +kernel⟩
abbrev s_check_meetings : Stmt := top 36
theorem sc_check_meetings : FnScope ["fair", "meetings", "fault"] ["fair", "meetings"] (defScope s_check_meetings) := ⟨rfl, rfl, rfl, by decide +kernel, rfl, by decide +kernel, by decide +kernel⟩
abbrev s_check_planned : Stmt := top 38
theorem sc_check_planned : FnScope ["fair", "meetings", "rounds"] ["fair", "meetings", "rounds"] (defScope s_check_planned) := ⟨rfl, rfl, rfl, by decide +kernel, rfl, by decide +kernel, by decide +kernel⟩
abbrev s_load : Stmt := top 42
theorem sc_load : FnScope ["fair", "meetings"] ["fair", "meetings"] (defScope s_load) := ⟨rfl, rfl, rfl, by decide +kernel, rfl, by decide +kernel, by decide +kernel⟩
abbrev s_l_fair : Stmt := top 50
theorem sc_l_fair : FnScope ["_law_parts_here"] ["_law_parts_here"] (defScope s_l_fair) := ⟨rfl, rfl, rfl, by decide +kernel, rfl, by decide +kernel, by decide +kernel⟩
abbrev s_tables_needed : Stmt := top 43
theorem sc_tables_needed : FnScope ["fair", "meetings", "rounds", "many"] ["fair", "meetings", "rounds"] (defScope s_tables_needed) := ⟨rfl, rfl, rfl, by decide +kernel, rfl, by decide +kernel, by decide +kernel⟩
abbrev s_l_is_needed : Stmt := top 58
theorem sc_l_is_needed : FnScope ["_law_parts_here", "_law_grid_here", "_law_many", "_law_told", "_law_total", "_law_sides"] ["_law_parts_here", "_law_grid_here", "_law_many", "_law_told"] (defScope s_l_is_needed) := ⟨rfl, rfl, rfl, by decide +kernel, rfl, by decide +kernel, by decide +kernel⟩
abbrev s_l_right : Stmt := top 59
theorem sc_l_right : FnScope ["_law_jug_here", "_law_parts_here", "_law_grid_here", "_law_here", "_law_most", "_law_many", "_law_told", "_law_bare"] ["_law_jug_here"] (defScope s_l_right) := ⟨rfl, rfl, rfl, by decide +kernel, rfl, by decide +kernel, by decide +kernel⟩
abbrev s_law : Stmt := top 60
theorem sc_law : FnScope ["_law_script", "_law_at"] ["_law_script"] (defScope s_law) := ⟨rfl, rfl, rfl, by decide +kernel, rfl, by decide +kernel, by decide +kernel⟩
/-- what the head tells -/
structure Tx (K : PySem.W.Frag) (mg : Str → Option Value) (ct : CTab) where
  C_Fair : Addr
  f_is_integer : Addr
  d_is_integer : FuncData
  f_is_name : Addr
  d_is_name : FuncData
  f_is_pair : Addr
  d_is_pair : FuncData
  f_is_member : Addr
  d_is_member : FuncData
  f_fault : Addr
  d_fault : FuncData
  f_names_of : Addr
  d_names_of : FuncData
  f_text_of : Addr
  d_text_of : FuncData
  f_Fairu_initu : Addr
  d_Fairu_initu : FuncData
  f_Fair_hosts : Addr
  d_Fair_hosts : FuncData
  f_Fair_guests : Addr
  d_Fair_guests : FuncData
  f_Fair_tables : Addr
  d_Fair_tables : FuncData
  f_is_row : Addr
  d_is_row : FuncData
  f_table_fault : Addr
  d_table_fault : FuncData
  f_sum_of : Addr
  d_sum_of : FuncData
  f_ceiling : Addr
  d_ceiling : FuncData
  f_check_fair : Addr
  d_check_fair : FuncData
  f_meetings_fault : Addr
  d_meetings_fault : FuncData
  f_check_meetings : Addr
  d_check_meetings : FuncData
  f_check_number : Addr
  d_check_number : FuncData
  f_check_planned : Addr
  d_check_planned : FuncData
  f_reasons : Addr
  d_reasons : FuncData
  f_least_rounds : Addr
  d_least_rounds : FuncData
  f_load : Addr
  d_load : FuncData
  f_tables_needed : Addr
  d_tables_needed : FuncData
  f_l_jug : Addr
  d_l_jug : FuncData
  f_l_pour : Addr
  d_l_pour : FuncData
  f_l_word : Addr
  d_l_word : FuncData
  f_l_words : Addr
  d_l_words : FuncData
  f_l_parts : Addr
  d_l_parts : FuncData
  f_l_fair : Addr
  d_l_fair : FuncData
  f_l_number : Addr
  d_l_number : FuncData
  f_l_grid : Addr
  d_l_grid : FuncData
  f_l_in_rows : Addr
  d_l_in_rows : FuncData
  f_l_in_columns : Addr
  d_l_in_columns : FuncData
  f_l_shares : Addr
  d_l_shares : FuncData
  f_l_due : Addr
  d_l_due : FuncData
  f_l_within : Addr
  d_l_within : FuncData
  f_l_is_needed : Addr
  d_l_is_needed : FuncData
  f_l_right : Addr
  d_l_right : FuncData
  f_law : Addr
  d_law : FuncData
  n_int : mg "int" = none
  kt : KitT K ct
  n_isinstance : mg "isinstance" = none
  n_bool : mg "bool" = none
  F_is_integer : FunD K "is_integer" "is_integer" (defArgs s_is_integer) (defBody s_is_integer) (defScope s_is_integer) [.non] [] f_is_integer d_is_integer
  n_str : mg "str" = none
  n_len : mg "len" = none
  c_LONGEST_NAME : ∃ t, mg "_LONGEST_NAME" = some (.int 8 t)
  c_FIRST_SIGNS : ∃ t, mg "_FIRST_SIGNS" = some (.str "abcdefghijklmnopqrstuvwxyz" t)
  c_SIGNS : ∃ t, mg "_SIGNS" = some (.str "abcdefghijklmnopqrstuvwxyz0123456789" t)
  n_all : mg "all" = none
  F_is_name : Fun K "is_name" "is_name" s_is_name f_is_name d_is_name
  n_tuple : mg "tuple" = none
  F_is_pair : Fun K "is_pair" "is_pair" s_is_pair f_is_pair d_is_pair
  F_names_of : Fun K "_names_of" "_names_of" s_names_of f_names_of d_names_of
  F_text_of : Fun K "_text_of" "_text_of" s_text_of f_text_of d_text_of
  ct_Fair : ct 0 = some (C_Fair, ns_Fair)
  cl_Fair : ClsT K C_Fair
  na_Fair_hosts : NoAttr K C_Fair "_hosts"
  F_Fair_hosts : Fun K "hosts" "Fair.hosts" s_Fair_hosts f_Fair_hosts d_Fair_hosts
  na_Fair_guests : NoAttr K C_Fair "_guests"
  F_Fair_guests : Fun K "guests" "Fair.guests" s_Fair_guests f_Fair_guests d_Fair_guests
  na_Fair_tables : NoAttr K C_Fair "_tables"
  F_Fair_tables : Fun K "tables" "Fair.tables" s_Fair_tables f_Fair_tables d_Fair_tables
  n_sum : mg "sum" = none
  F_sum_of : Fun K "sum_of" "sum_of" s_sum_of f_sum_of d_sum_of
  F_ceiling : Fun K "ceiling" "ceiling" s_ceiling f_ceiling d_ceiling
  g_Fair : mg "Fair" = some (.ref C_Fair)
  F_check_fair : Fun K "check_fair" "check_fair" s_check_fair f_check_fair d_check_fair
  n_abs : mg "abs" = none
  F_l_jug : Fun K "_law_jug" "_law_jug" s_l_jug f_l_jug d_l_jug
  n_divmod : mg "divmod" = none
  F_l_pour : Fun K "_law_pour" "_law_pour" s_l_pour f_l_pour d_l_pour
  n_list : mg "list" = none
  F_l_in_rows : Fun K "_law_in_rows" "_law_in_rows" s_l_in_rows f_l_in_rows d_l_in_rows
  n_range : mg "range" = none
  F_l_in_columns : Fun K "_law_in_columns" "_law_in_columns" s_l_in_columns f_l_in_columns d_l_in_columns
  F_l_within : Fun K "_law_within" "_law_within" s_l_within f_l_within d_l_within
  b_is_pair : Binds K d_is_pair ["value"] []
  v_is_pair : mg "is_pair" = some (.ref f_is_pair)
  k_is_pair : PySem.W.keepIn K (.ref f_is_pair) = true
  b_is_name : Binds K d_is_name ["value"] []
  v_is_name : mg "is_name" = some (.ref f_is_name)
  k_is_name : PySem.W.keepIn K (.ref f_is_name) = true
  c_MOST_BOUND : ∃ t, mg "MOST_BOUND" = some (.int 4 t)
  b_is_integer : Binds K d_is_integer ["value", "least", "most"] []
  v_is_integer : mg "is_integer" = some (.ref f_is_integer)
  k_is_integer : PySem.W.keepIn K (.ref f_is_integer) = true
  F_is_member : Fun K "_is_member" "_is_member" s_is_member f_is_member d_is_member
  F_is_row : Fun K "_is_row" "_is_row" s_is_row f_is_row d_is_row
  bd_is_integer_1 : ∃ ds, Vals [.non] ds ∧ Binds K d_is_integer ["value", "least", "most"] ds
  F_check_number : Fun K "check_number" "check_number" s_check_number f_check_number d_check_number
  b_l_pour : Binds K d_l_pour ["_law_jug_here", "_law_many"] []
  v_l_pour : mg "_law_pour" = some (.ref f_l_pour)
  k_l_pour : PySem.W.keepIn K (.ref f_l_pour) = true
  F_l_word : Fun K "_law_word" "_law_word" s_l_word f_l_word d_l_word
  F_l_number : Fun K "_law_number" "_law_number" s_l_number f_l_number d_l_number
  b_l_in_columns : Binds K d_l_in_columns ["_law_grid_here"] []
  v_l_in_columns : mg "_law_in_columns" = some (.ref f_l_in_columns)
  k_l_in_columns : PySem.W.keepIn K (.ref f_l_in_columns) = true
  b_l_in_rows : Binds K d_l_in_rows ["_law_grid_here"] []
  v_l_in_rows : mg "_law_in_rows" = some (.ref f_l_in_rows)
  k_l_in_rows : PySem.W.keepIn K (.ref f_l_in_rows) = true
  F_l_shares : Fun K "_law_shares" "_law_shares" s_l_shares f_l_shares d_l_shares
  n_enumerate : mg "enumerate" = none
  c_MOST_SIDE : ∃ t, mg "MOST_SIDE" = some (.int 4 t)
  b_is_member : Binds K d_is_member ["value"] []
  v_is_member : mg "_is_member" = some (.ref f_is_member)
  k_is_member : PySem.W.keepIn K (.ref f_is_member) = true
  F_fault : Fun K "_fault" "_fault" s_fault f_fault d_fault
  b_is_row : Binds K d_is_row ["value", "guests", "most"] []
  v_is_row : mg "_is_row" = some (.ref f_is_row)
  k_is_row : PySem.W.keepIn K (.ref f_is_row) = true
  F_table_fault : FunD K "table_fault" "table_fault" (defArgs s_table_fault) (defBody s_table_fault) (defScope s_table_fault) [.non] [] f_table_fault d_table_fault
  n_zip : mg "zip" = none
  pa_Fair_hosts : Addr
  p_Fair_hosts : PropOf K C_Fair "hosts" pa_Fair_hosts f_Fair_hosts
  b_Fair_hosts : Binds K d_Fair_hosts ["self"] []
  b_ceiling : Binds K d_ceiling ["number", "by"] []
  v_ceiling : mg "ceiling" = some (.ref f_ceiling)
  k_ceiling : PySem.W.keepIn K (.ref f_ceiling) = true
  pa_Fair_guests : Addr
  p_Fair_guests : PropOf K C_Fair "guests" pa_Fair_guests f_Fair_guests
  b_Fair_guests : Binds K d_Fair_guests ["self"] []
  pa_Fair_tables : Addr
  p_Fair_tables : PropOf K C_Fair "tables" pa_Fair_tables f_Fair_tables
  b_Fair_tables : Binds K d_Fair_tables ["self"] []
  F_reasons : Fun K "reasons" "reasons" s_reasons f_reasons d_reasons
  b_l_word : Binds K d_l_word ["_law_jug_here"] []
  v_l_word : mg "_law_word" = some (.ref f_l_word)
  k_l_word : PySem.W.keepIn K (.ref f_l_word) = true
  F_l_words : Fun K "_law_words" "_law_words" s_l_words f_l_words d_l_words
  b_l_number : Binds K d_l_number ["_law_jug_here", "_law_way"] []
  v_l_number : mg "_law_number" = some (.ref f_l_number)
  k_l_number : PySem.W.keepIn K (.ref f_l_number) = true
  F_l_grid : Fun K "_law_grid" "_law_grid" s_l_grid f_l_grid d_l_grid
  b_l_shares : Binds K d_l_shares ["_law_parts_here", "_law_grid_here"] []
  v_l_shares : mg "_law_shares" = some (.ref f_l_shares)
  k_l_shares : PySem.W.keepIn K (.ref f_l_shares) = true
  n_max : mg "max" = none
  F_l_due : Fun K "_law_due" "_law_due" s_l_due f_l_due d_l_due
  b_fault : Binds K d_fault ["side", "taken"] []
  v_fault : mg "_fault" = some (.ref f_fault)
  k_fault : PySem.W.keepIn K (.ref f_fault) = true
  b_names_of : Binds K d_names_of ["side"] []
  v_names_of : mg "_names_of" = some (.ref f_names_of)
  k_names_of : PySem.W.keepIn K (.ref f_names_of) = true
  c_MOST_TABLES : ∃ t, mg "MOST_TABLES" = some (.int 12 t)
  na_Fair_names : NoAttr K C_Fair "_names"
  na_Fair_text : NoAttr K C_Fair "_text"
  b_text_of : Binds K d_text_of ["hosts", "guests", "tables"] []
  v_text_of : mg "_text_of" = some (.ref f_text_of)
  k_text_of : PySem.W.keepIn K (.ref f_text_of) = true
  F_Fairu_initu : FunD K "__init__" "Fair.__init__" (defArgs s_Fairu_initu) (defBody s_Fairu_initu) (defScope s_Fairu_initu) [.non] [] f_Fairu_initu d_Fairu_initu
  c_MOST_MEETINGS : ∃ t, mg "MOST_MEETINGS" = some (.int 1000000000000000000000000000000 t)
  b_table_fault : Binds K d_table_fault ["value", "hosts", "guests", "most"] []
  v_table_fault : mg "table_fault" = some (.ref f_table_fault)
  k_table_fault : PySem.W.keepIn K (.ref f_table_fault) = true
  F_meetings_fault : Fun K "_meetings_fault" "_meetings_fault" s_meetings_fault f_meetings_fault d_meetings_fault
  b_reasons : Binds K d_reasons ["fair", "meetings"] []
  v_reasons : mg "reasons" = some (.ref f_reasons)
  k_reasons : PySem.W.keepIn K (.ref f_reasons) = true
  F_least_rounds : Fun K "least_rounds" "least_rounds" s_least_rounds f_least_rounds d_least_rounds
  b_l_words : Binds K d_l_words ["_law_jug_here", "_law_many"] []
  v_l_words : mg "_law_words" = some (.ref f_l_words)
  k_l_words : PySem.W.keepIn K (.ref f_l_words) = true
  F_l_parts : Fun K "_law_parts" "_law_parts" s_l_parts f_l_parts d_l_parts
  b_meetings_fault : Binds K d_meetings_fault ["fair", "value"] []
  v_meetings_fault : mg "_meetings_fault" = some (.ref f_meetings_fault)
  k_meetings_fault : PySem.W.keepIn K (.ref f_meetings_fault) = true
  F_check_meetings : Fun K "check_meetings" "check_meetings" s_check_meetings f_check_meetings d_check_meetings
  b_check_fair : Binds K d_check_fair ["fair"] []
  v_check_fair : mg "check_fair" = some (.ref f_check_fair)
  k_check_fair : PySem.W.keepIn K (.ref f_check_fair) = true
  b_check_meetings : Binds K d_check_meetings ["fair", "meetings"] []
  v_check_meetings : mg "check_meetings" = some (.ref f_check_meetings)
  k_check_meetings : PySem.W.keepIn K (.ref f_check_meetings) = true
  b_check_number : Binds K d_check_number ["given"] []
  v_check_number : mg "check_number" = some (.ref f_check_number)
  k_check_number : PySem.W.keepIn K (.ref f_check_number) = true
  F_check_planned : Fun K "check_planned" "check_planned" s_check_planned f_check_planned d_check_planned
  b_least_rounds : Binds K d_least_rounds ["fair", "meetings"] []
  v_least_rounds : mg "least_rounds" = some (.ref f_least_rounds)
  k_least_rounds : PySem.W.keepIn K (.ref f_least_rounds) = true
  F_load : Fun K "load" "load" s_load f_load d_load
  b_Fairu_initu : Binds K d_Fairu_initu ["self", "hosts", "guests", "tables"] []
  M_Fair : Mk K C_Fair f_Fairu_initu
  F_l_fair : Fun K "_law_fair" "_law_fair" s_l_fair f_l_fair d_l_fair
  b_check_planned : Binds K d_check_planned ["fair", "meetings", "rounds"] []
  v_check_planned : mg "check_planned" = some (.ref f_check_planned)
  k_check_planned : PySem.W.keepIn K (.ref f_check_planned) = true
  b_sum_of : Binds K d_sum_of ["table"] []
  v_sum_of : mg "sum_of" = some (.ref f_sum_of)
  k_sum_of : PySem.W.keepIn K (.ref f_sum_of) = true
  bd_Fairu_initu_1 : ∃ ds, Vals [.non] ds ∧ Binds K d_Fairu_initu ["self", "hosts", "guests", "tables"] ds
  F_tables_needed : Fun K "tables_needed" "tables_needed" s_tables_needed f_tables_needed d_tables_needed
  b_l_due : Binds K d_l_due ["_law_parts_here", "_law_grid_here"] []
  v_l_due : mg "_law_due" = some (.ref f_l_due)
  k_l_due : PySem.W.keepIn K (.ref f_l_due) = true
  b_l_within : Binds K d_l_within ["_law_thing", "_law_least", "_law_most"] []
  v_l_within : mg "_law_within" = some (.ref f_l_within)
  k_l_within : PySem.W.keepIn K (.ref f_l_within) = true
  b_load : Binds K d_load ["fair", "meetings"] []
  v_load : mg "load" = some (.ref f_load)
  k_load : PySem.W.keepIn K (.ref f_load) = true
  F_l_is_needed : Fun K "_law_is_needed" "_law_is_needed" s_l_is_needed f_l_is_needed d_l_is_needed
  b_l_parts : Binds K d_l_parts ["_law_jug_here", "_law_most_here", "_law_most_there"] []
  v_l_parts : mg "_law_parts" = some (.ref f_l_parts)
  k_l_parts : PySem.W.keepIn K (.ref f_l_parts) = true
  b_l_fair : Binds K d_l_fair ["_law_parts_here"] []
  v_l_fair : mg "_law_fair" = some (.ref f_l_fair)
  k_l_fair : PySem.W.keepIn K (.ref f_l_fair) = true
  b_l_grid : Binds K d_l_grid ["_law_jug_here", "_law_parts_here", "_law_way"] []
  v_l_grid : mg "_law_grid" = some (.ref f_l_grid)
  k_l_grid : PySem.W.keepIn K (.ref f_l_grid) = true
  b_tables_needed : Binds K d_tables_needed ["fair", "meetings", "rounds"] []
  v_tables_needed : mg "tables_needed" = some (.ref f_tables_needed)
  k_tables_needed : PySem.W.keepIn K (.ref f_tables_needed) = true
  b_l_is_needed : Binds K d_l_is_needed ["_law_parts_here", "_law_grid_here", "_law_many", "_law_told"] []
  v_l_is_needed : mg "_law_is_needed" = some (.ref f_l_is_needed)
  k_l_is_needed : PySem.W.keepIn K (.ref f_l_is_needed) = true
  kb_tables_needed_120 : KBn K d_tables_needed ["fair", "meetings", "rounds"] 0 ["rounds", "fair", "meetings"] (gP [1, 2, 0]) (gP [1, 2, 0])
  n_repr : mg "repr" = none
  F_l_right : Fun K "_law_right" "_law_right" s_l_right f_l_right d_l_right
  n_min : mg "min" = none
  b_l_jug : Binds K d_l_jug ["_law_script", "_law_at"] []
  v_l_jug : mg "_law_jug" = some (.ref f_l_jug)
  k_l_jug : PySem.W.keepIn K (.ref f_l_jug) = true
  b_l_right : Binds K d_l_right ["_law_jug_here"] []
  v_l_right : mg "_law_right" = some (.ref f_l_right)
  k_l_right : PySem.W.keepIn K (.ref f_l_right) = true
  F_law : Fun K "law" "law" s_law f_law d_law
section
variable {P : Program} {w : World} {K : PySem.W.Frag} {mg : Str → Option Value} {base : Heap} {ct : CTab} {ce : Str → Addr}
/-! ### is_integer -/
noncomputable def d_is_integer : DnS :=
    (sSeq (sIf (bOr (bNot (bT (dN (f2 fIsi) (aCons (dVar 0) (aCons (dC (tyD "int")) aNil))))) (bT (dN (f2 fIsi) (aCons (dVar 0) (aCons (dC (tyD "bool")) aNil))))) (sRet (dC (.bool false))) sNext)
    (sRet (dAnd (dOp fLe (dVar 1) (dVar 0)) (dOr (dOp (fIs false) (dVar 2) (dC .none)) (dOp fLe (dVar 0) (dVar 2))))))
noncomputable def F_is_integer : Fd := fun ws st => nox (fnD 3 d_is_integer ws st)
theorem ok_is_integer (T : Tx K mg ct) : FnOk P w K mg base CX0 1 T.f_is_integer T.d_is_integer ["value", "least", "most"] (spD ⟨K, ct, ce⟩ 3 F_is_integer) := by
  refine fnKD (k := 0) T.F_is_integer sc_is_integer rfl fun cdv A outer s H E hr => ⟨_, (pss_cons (ps_if (PW.pt (pw_or (pt_not (pt_val (pe_callB (call_isiK K) (by rfl) T.n_isinstance (by decide +kernel) (pa_cons (pv 0) (pa_cons (pe_bltn (v := .ty "int") (by rfl) T.n_int (by decide +kernel) rfl) pa_nil))))) (pw_or1 (pt_val (pe_callB (call_isiK K) (by rfl) T.n_isinstance (by decide +kernel) (pa_cons (pv 0) (pa_cons (pe_bltn (v := .ty "bool") (by rfl) T.n_bool (by decide +kernel) rfl) pa_nil)))))))
        (pss_one (ps_ret pe_bl))
        pss_nil)
      (pss_one (ps_ret (pe_and (pe_cmpR op_le (pv 1) (pv 0) (nomark _)) (pe_one (pe_or (pe_cmpR op_isN (pv 2) pe_non (nomark _)) (pe_one (pe_cmpR op_le (pv 0) (pv 2) (nomark _))))))))), ?_⟩
  exact (es_seq (es_if (et_or (et_not (et_b (ev_cb (q_isi T.kt) (ea_cons ev_var (ea_cons (ev_c fun _ => .ty _) ea_nil))))) (et_b (ev_cb (q_isi T.kt) (ea_cons ev_var (ea_cons (ev_c fun _ => .ty _) ea_nil)))))
        (es_ret ev_bl)
        es_next)
      (es_ret (ev_and (ev_op q_le ev_var ev_var) (ev_or (ev_op q_isN ev_var ev_non) (ev_op q_le ev_var ev_var)))))
/-! ### is_name -/
noncomputable def c_is_name_1 : Dn :=
    (dLc (iSeq srcS (dVar 0)) (gN 1) (fun _ st => .ok true st) (dOp (fInS false) (dVar 1) (dC (.str "abcdefghijklmnopqrstuvwxyz0123456789"))) [1])
noncomputable def d_is_name : DnS :=
    (sSeq (sIf (bOr (bNot (bT (dN (f2 fIsi) (aCons (dVar 0) (aCons (dC (tyD "str")) aNil))))) (bNot (bT (dChain fLe fLe (dC (.int 1)) (dN (f1 fLenS) (aCons (dVar 0) aNil)) (dC (.int 8)))))) (sRet (dC (.bool false))) sNext)
    (sRet (dAnd (dOp (fInS false) (dOp fIxS (dVar 0) (dC (.int 0))) (dC (.str "abcdefghijklmnopqrstuvwxyz"))) (dN (f1 (fBls fun bs => bs.all id)) (aCons c_is_name_1 aNil)))))
noncomputable def F_is_name : Fd := fun ws st => nox (fnD 2 d_is_name ws st)
theorem ok_is_name (T : Tx K mg ct) : FnOk P w K mg base CX0 1 T.f_is_name T.d_is_name ["value"] (spD ⟨K, ct, ce⟩ 1 F_is_name) := by
  refine fnK (k := 0) T.F_is_name sc_is_name rfl fun cdv A outer s H E hr => ⟨_, (pss_cons (ps_if (PW.pt (pw_or (pt_not (pt_val (pe_callB (call_isiK K) (by rfl) T.n_isinstance (by decide +kernel) (pa_cons (pv 0) (pa_cons (pe_bltn (v := .ty "str") (by rfl) T.n_str (by decide +kernel) rfl) pa_nil))))) (pw_or1 (pt_not (pt_chain op_le op_le pe_int (pe_callB call_len (by rfl) T.n_len PySem.boot_len (pa_cons (pv 0) pa_nil)) (pe_glob (v := .int 8) rfl T.c_LONGEST_NAME.choose_spec ⟨_, rfl⟩))))))
        (pss_one (ps_ret pe_bl))
        pss_nil)
      (pss_one (ps_ret (pe_and (pe_cmpR op_in_sign (pe_ix ix_str (pv 0) pe_int (fun _ _ => rfl)) (pe_glob (v := .str "abcdefghijklmnopqrstuvwxyz") rfl T.c_FIRST_SIGNS.choose_spec ⟨_, rfl⟩) rfl) (pe_one (pe_callB (cr_allK K rfl) (by rfl) T.n_all (by decide +kernel) (pa_cons (pe_lc (own := [("sign", 1)]) (g := gName 1) (tt := tYes) rfl sc_is_name.nd (pi_str (pv 0)) (blkOk_by (own := [("sign", 1)]) (N := ["value", "sign"]) (sc := defScope s_is_name) (by decide +kernel)) (fun _ _ _ _ _ => (pg_name (i := 1) sc_is_name.nd rfl (Or.inl rfl))) (fun _ _ _ _ _ => pts_nil) (fun _ _ _ _ _ => (pe_cmpR op_in_sign (pv 1) (pe_glob (v := .str "abcdefghijklmnopqrstuvwxyz0123456789") rfl T.c_SIGNS.choose_spec ⟨_, rfl⟩) rfl))) pa_nil))))))), ?_⟩
  exact (es_seq (es_if (et_or (et_not (et_b (ev_cb (q_isi T.kt) (ea_cons ev_var (ea_cons (ev_c fun _ => .ty _) ea_nil))))) (et_not (et_t (ev_chain q_le q_le ev_int (ev_cb q_lenS (ea_cons ev_var ea_nil)) ev_int))))
        (es_ret ev_bl)
        es_next)
      (es_ret (ev_and (ev_op q_inS (ev_op q_ixS ev_var ev_int) ev_str) (ev_cb q_all (ea_cons (ev_lc (ei_str ev_var) (eg_name (vs := [1]) rfl) et_yes (ev_op q_inS ev_var ev_str)) ea_nil)))))
/-! ### is_pair -/
noncomputable def d_is_pair : DnS :=
    (sRet (dAnd (dN (f2 fIsi) (aCons (dVar 0) (aCons (dC (tyD "tuple")) aNil))) (dOp (fEq false) (dN (f1 fLen) (aCons (dVar 0) aNil)) (dC (.int 2)))))
noncomputable def F_is_pair : Fd := fun ws st => nox (fnD 1 d_is_pair ws st)
theorem ok_is_pair (T : Tx K mg ct) : FnOk P w K mg base CX0 1 T.f_is_pair T.d_is_pair ["value"] (spD ⟨K, ct, ce⟩ 1 F_is_pair) := by
  refine fnK (k := 0) T.F_is_pair sc_is_pair rfl fun cdv A outer s H E hr => ⟨_, (pss_one (ps_ret (pe_and (pe_callB (call_isiK K) (by rfl) T.n_isinstance (by decide +kernel) (pa_cons (pv 0) (pa_cons (pe_bltn (v := .ty "tuple") (by rfl) T.n_tuple (by decide +kernel) rfl) pa_nil))) (pe_one (pe_cmpR op_eq (pe_callB (call_lenQ K) (by rfl) T.n_len PySem.boot_len (pa_cons (pv 0) pa_nil)) pe_int (nomark _)))))), ?_⟩
  exact (es_ret (ev_and (ev_cb (q_isi T.kt) (ea_cons ev_var (ea_cons (ev_c fun _ => .ty _) ea_nil))) (ev_op q_eq (ev_cb q_len (ea_cons ev_var ea_nil)) ev_int)))
/-! ### _names_of -/
noncomputable def c_names_of_1 : Dn :=
    (dLc (iSeq srcT (dVar 0)) (gN 1) (fun _ st => .ok true st) (dOp fIxT (dVar 1) (dC (.int 0))) [1])
noncomputable def d_names_of : DnS :=
    (sRet (dN (f1 fTupOf) (aCons c_names_of_1 aNil)))
noncomputable def F_names_of : Fd := fun ws st => nox (fnD 2 d_names_of ws st)
theorem ok_names_of (T : Tx K mg ct) : FnOk P w K mg base CX0 1 T.f_names_of T.d_names_of ["side"] (spD ⟨K, ct, ce⟩ 1 F_names_of) := by
  refine fnK (k := 0) T.F_names_of sc_names_of rfl fun cdv A outer s H E hr => ⟨_, (pss_one (ps_ret (pe_callTy (call_tupOf K) (by rfl) T.n_tuple (by decide +kernel) (pa_cons (pe_lc (own := [("member", 1)]) (g := gName 1) (tt := tYes) rfl sc_names_of.nd (pi_tupK K (pv 0)) (blkOk_by (own := [("member", 1)]) (N := ["side", "member"]) (sc := defScope s_names_of) (by decide +kernel)) (fun _ _ _ _ _ => (pg_name (i := 1) sc_names_of.nd rfl (Or.inl rfl))) (fun _ _ _ _ _ => pts_nil) (fun _ _ _ _ _ => (pe_ix (ix_tupK K) (pv 1) pe_int (fun _ _ => rfl)))) pa_nil)))), ?_⟩
  exact (es_ret (ev_cb q_tupOf (ea_cons (ev_lc (ei_tup ev_var) (eg_name (vs := [1]) rfl) et_yes (ev_op q_ixT ev_var ev_int)) ea_nil)))
/-! ### _text_of -/
noncomputable def c_text_of_1 : Dn :=
    (dLc (iSeq srcT (dVar 0)) (gT 2 (gsCons (gN 4) (gsCons (gN 5) gsNil))) (fun _ st => .ok true st) (dJs [(dC (.str "host ")), (dFmt (dVar 4)), (dC (.str " ")), (dFmt (dVar 5))]) [4, 5])
noncomputable def c_text_of_2 : Dn :=
    (dLc (iSeq srcT (dVar 1)) (gT 2 (gsCons (gN 4) (gsCons (gN 5) gsNil))) (fun _ st => .ok true st) (dJs [(dC (.str "guest ")), (dFmt (dVar 4)), (dC (.str " ")), (dFmt (dVar 5))]) [4, 5])
noncomputable def d_text_of : DnS :=
    (sSeq (sSet 3 (dLoc c_text_of_1))
    (sSeq (sDrop (dM isLst (fun w ws st => fChg (gExt st) w ws st) (dVar 3) (aCons c_text_of_2 aNil)))
    (sSeq (sIf (bT (dOp (fIs true) (dVar 2) (dC .none))) (sDrop (dM isLst (fChg gApp) (dVar 3) (aCons (dJs [(dC (.str "tables ")), (dFmt (dVar 2))]) aNil))) sNext)
    (sRet (dJoin (dC (.str "\n")) (dVar 3))))))
noncomputable def F_text_of : Fd := fun ws st => nox (fnD 6 d_text_of ws st)
theorem ok_text_of (T : Tx K mg ct) : FnOk P w K mg base CX0 1 T.f_text_of T.d_text_of ["hosts", "guests", "tables"] (spD ⟨K, ct, ce⟩ 3 F_text_of) := by
  refine fnK (k := 0) T.F_text_of sc_text_of rfl fun cdv A outer s H E hr => ⟨_, (pss_cons (ps_setLc (i := 3) (own := [("name", 4), ("bound", 5)]) (g := gTup K 2 (gCons (gName 4) (gCons (gName 5) gNil))) (tt := tYes) rfl sc_text_of.nd rfl rfl (sw_true rfl rfl rfl (by decide +kernel)) (pi_tupK K (pv 0)) (blkOk_by (own := [("name", 4), ("bound", 5)]) (N := ["hosts", "guests", "tables", "lines", "name", "bound"]) (sc := defScope s_text_of) (by decide +kernel)) (fun _ _ _ _ _ => (pg_tupK K rfl (pgs_cons (pg_name (i := 4) sc_text_of.nd rfl (Or.inl rfl)) (pgs_cons (pg_name (i := 5) sc_text_of.nd rfl (Or.inl rfl)) pgs_nil)))) (fun _ _ _ _ _ => pts_nil) (fun _ _ _ _ _ => (pe_joined (PJ.cons pe_str (PJ.cons (pe_fmt (pv 4)) (PJ.cons pe_str (PJ.cons (pe_fmt (pv 5)) PJ.nil)))))))
      (pss_cons (ps_expr (pe_bmN K PySem.F.plainAttrs_list PySem.F.slot_list_extend PySem.F.type_list_extend mt_extend (pv 3) (pa_cons (pe_lc (own := [("name", 4), ("bound", 5)]) (g := gTup K 2 (gCons (gName 4) (gCons (gName 5) gNil))) (tt := tYes) rfl sc_text_of.nd (pi_tupK K (pv 1)) (blkOk_by (own := [("name", 4), ("bound", 5)]) (N := ["hosts", "guests", "tables", "lines", "name", "bound"]) (sc := defScope s_text_of) (by decide +kernel)) (fun _ _ _ _ _ => (pg_tupK K rfl (pgs_cons (pg_name (i := 4) sc_text_of.nd rfl (Or.inl rfl)) (pgs_cons (pg_name (i := 5) sc_text_of.nd rfl (Or.inl rfl)) pgs_nil)))) (fun _ _ _ _ _ => pts_nil) (fun _ _ _ _ _ => (pe_joined (PJ.cons pe_str (PJ.cons (pe_fmt (pv 4)) (PJ.cons pe_str (PJ.cons (pe_fmt (pv 5)) PJ.nil))))))) pa_nil)))
      (pss_cons (ps_if (pt_cmpR op_notN (pv 2) pe_non (nomark _))
        (pss_one (ps_expr (pe_bmN K PySem.F.plainAttrs_list PySem.F.slot_list_append PySem.F.type_list_append mt_append (pv 3) (pa_cons (pe_joined (PJ.cons pe_str (PJ.cons (pe_fmt (pv 2)) PJ.nil))) pa_nil))))
        pss_nil)
      (pss_one (ps_ret (pe_join pe_str (pv 3))))))), ?_⟩
  exact (es_seq (es_set (ev_loc (ev_lc (ei_tup ev_var) (eg_tup (egs_cons (eg_name (vs := [4, 5]) rfl) (egs_cons (eg_name (vs := [4, 5]) rfl) egs_nil))) et_yes (ev_joined (Ejs.cons ev_str (Ejs.cons (ev_fmt ev_var) (Ejs.cons ev_str (Ejs.cons (ev_fmt ev_var) Ejs.nil))))))))
      (es_seq (es_drop (ev_bm q_ext ev_var (ea_cons (ev_lc (ei_tup ev_var) (eg_tup (egs_cons (eg_name (vs := [4, 5]) rfl) (egs_cons (eg_name (vs := [4, 5]) rfl) egs_nil))) et_yes (ev_joined (Ejs.cons ev_str (Ejs.cons (ev_fmt ev_var) (Ejs.cons ev_str (Ejs.cons (ev_fmt ev_var) Ejs.nil)))))) ea_nil)))
      (es_seq (es_if (et_t (ev_op q_notN ev_var ev_non))
        (es_drop (ev_bm q_app ev_var (ea_cons (ev_joined (Ejs.cons ev_str (Ejs.cons (ev_fmt ev_var) Ejs.nil))) ea_nil)))
        es_next)
      (es_ret (ev_join ev_str ev_var)))))
/-! ### Fair.hosts -/
noncomputable def d_Fair_hosts : DnS :=
    (sRet (dFld 0 ns_Fair "_hosts" (dVar 0)))
noncomputable def F_Fair_hosts : Fd := fun ws st => nox (fnD 1 d_Fair_hosts ws st)
theorem ok_Fair_hosts (T : Tx K mg ct) : FnOk P w K mg base CX0 1 T.f_Fair_hosts T.d_Fair_hosts ["self"] (spD ⟨K, ct, ce⟩ 1 F_Fair_hosts) := by
  refine fnK (k := 0) T.F_Fair_hosts sc_Fair_hosts rfl fun cdv A outer s H E hr => ⟨_, (pss_one (ps_ret (pe_fldK K (pv 0) rfl))), ?_⟩
  exact (es_ret (ev_fld T.ct_Fair T.cl_Fair.cl T.na_Fair_hosts ev_var))
/-! ### Fair.guests -/
noncomputable def d_Fair_guests : DnS :=
    (sRet (dFld 0 ns_Fair "_guests" (dVar 0)))
noncomputable def F_Fair_guests : Fd := fun ws st => nox (fnD 1 d_Fair_guests ws st)
theorem ok_Fair_guests (T : Tx K mg ct) : FnOk P w K mg base CX0 1 T.f_Fair_guests T.d_Fair_guests ["self"] (spD ⟨K, ct, ce⟩ 1 F_Fair_guests) := by
  refine fnK (k := 0) T.F_Fair_guests sc_Fair_guests rfl fun cdv A outer s H E hr => ⟨_, (pss_one (ps_ret (pe_fldK K (pv 0) rfl))), ?_⟩
  exact (es_ret (ev_fld T.ct_Fair T.cl_Fair.cl T.na_Fair_guests ev_var))
/-! ### Fair.tables -/
noncomputable def d_Fair_tables : DnS :=
    (sRet (dFld 0 ns_Fair "_tables" (dVar 0)))
noncomputable def F_Fair_tables : Fd := fun ws st => nox (fnD 1 d_Fair_tables ws st)
theorem ok_Fair_tables (T : Tx K mg ct) : FnOk P w K mg base CX0 1 T.f_Fair_tables T.d_Fair_tables ["self"] (spD ⟨K, ct, ce⟩ 1 F_Fair_tables) := by
  refine fnK (k := 0) T.F_Fair_tables sc_Fair_tables rfl fun cdv A outer s H E hr => ⟨_, (pss_one (ps_ret (pe_fldK K (pv 0) rfl))), ?_⟩
  exact (es_ret (ev_fld T.ct_Fair T.cl_Fair.cl T.na_Fair_tables ev_var))
/-! ### sum_of -/
noncomputable def c_sum_of_1 : Dn :=
    (dLc (iSeq srcT (dVar 0)) (gN 1) (fun _ st => .ok true st) (dN (f1 fSumT) (aCons (dVar 1) aNil)) [1])
noncomputable def d_sum_of : DnS :=
    (sRet (dN (f1 fSum) (aCons c_sum_of_1 aNil)))
noncomputable def F_sum_of : Fd := fun ws st => nox (fnD 2 d_sum_of ws st)
theorem ok_sum_of (T : Tx K mg ct) : FnOk P w K mg base CX0 1 T.f_sum_of T.d_sum_of ["table"] (spD ⟨K, ct, ce⟩ 1 F_sum_of) := by
  refine fnK (k := 0) T.F_sum_of sc_sum_of rfl fun cdv A outer s H E hr => ⟨_, (pss_one (ps_ret (pe_callB (cr_sumK K rfl) (by rfl) T.n_sum (by decide +kernel) (pa_cons (pe_lc (own := [("row", 1)]) (g := gName 1) (tt := tYes) rfl sc_sum_of.nd (pi_tupK K (pv 0)) (blkOk_by (own := [("row", 1)]) (N := ["table", "row"]) (sc := defScope s_sum_of) (by decide +kernel)) (fun _ _ _ _ _ => (pg_name (i := 1) sc_sum_of.nd rfl (Or.inl rfl))) (fun _ _ _ _ _ => pts_nil) (fun _ _ _ _ _ => (pe_callB (cr_sumTK K rfl) (by rfl) T.n_sum (by decide +kernel) (pa_cons (pv 1) pa_nil)))) pa_nil)))), ?_⟩
  exact (es_ret (ev_cb q_sum (ea_cons (ev_lc (ei_tup ev_var) (eg_name (vs := [1]) rfl) et_yes (ev_cb q_sumT (ea_cons ev_var ea_nil))) ea_nil)))
/-! ### ceiling -/
noncomputable def d_ceiling : DnS :=
    (sRet (dUn (f1I fun i => .int (-i)) (dOp fDiv (dUn (f1I fun i => .int (-i)) (dVar 0)) (dVar 1))))
noncomputable def F_ceiling : Fd := fun ws st => nox (fnD 2 d_ceiling ws st)
theorem ok_ceiling (T : Tx K mg ct) : FnOk P w K mg base CX0 1 T.f_ceiling T.d_ceiling ["number", "by"] (spD ⟨K, ct, ce⟩ 2 F_ceiling) := by
  refine fnK (k := 0) T.F_ceiling sc_ceiling rfl fun cdv A outer s H E hr => ⟨_, (pss_one (ps_ret (pe_un un_neg (pe_op op_fdivW (pe_un un_neg (pv 0)) (pv 1))))), ?_⟩
  exact (es_ret (ev_un q_neg (ev_op q_div (ev_un q_neg ev_var) ev_var)))
/-! ### check_fair -/
noncomputable def d_check_fair : DnS :=
    (sIf (bNot (bT (dN (f2 fIsi) (aCons (dVar 0) (aCons (dC (clsD 0)) aNil))))) sNo sNext)
noncomputable def F_check_fair : Fd := fun ws st => nox (fnD 1 d_check_fair ws st)
theorem ok_check_fair (T : Tx K mg ct) : FnOk P w K mg base CX0 1 T.f_check_fair T.d_check_fair ["fair"] (spD ⟨K, ct, ce⟩ 1 F_check_fair) := by
  refine fnK (k := 0) T.F_check_fair sc_check_fair rfl fun cdv A outer s H E hr => ⟨_, (pss_one (ps_if (pt_not (pt_val (pe_callB (call_isiK K) (by rfl) T.n_isinstance (by decide +kernel) (pa_cons (pv 0) (pa_cons (pe_glob (v := .ref T.C_Fair) rfl T.g_Fair rfl) pa_nil)))))
        (pss_one ps_never)
        pss_nil)), ?_⟩
  exact (es_if (et_not (et_b (ev_cb (q_isi T.kt) (ea_cons ev_var (ea_cons (ev_c fun _ => .cls T.ct_Fair) ea_nil)))))
        es_never
        es_next)
/-! ### _law_jug -/
noncomputable def b_l_jug_1 : DnS :=
    (sSeq (sSet 3 (dOp fAdd (dOp fMul (dVar 3) (dC (.int 2862933555777941757))) (dOp fMod (dN (f1 (f1I fun i => .int i)) (aCons (dVar 4) aNil)) (dC (.int 9223372036854775337)))))
    (sSet 3 (dOp fMod (dN (f1 (f1I fun i => .int i)) (aCons (dOp fAdd (dVar 3) (dC (.int 5))) aNil)) (dC (.int 9223372036854775783)))))
noncomputable def d_l_jug : DnS :=
    (sSeq (sSet 2 (dIf (bT (dOp fLt (dVar 1) (dN (f1 fLen) (aCons (dVar 0) aNil)))) (dOp fIxL (dVar 0) (dVar 1)) (dOp fAdd (dC (.int 40)) (dVar 1))))
    (sSeq (sSet 3 (dOp fMul (dC (.int 1299709)) (dOp fAdd (dVar 1) (dC (.int 2)))))
    (sSeq (sFor (iSeq srcW (dOp fCat (dSl fSlL (dVar 0) oNone (oSome (dC (.int 3)))) (dN fLst (aCons (dVar 2) aNil)))) (gN 4) b_l_jug_1)
    (sRet (dN fLst (aCons (dIf (bT (dOp fGe (dN (f1 (f1I fun i => .int (if i < 0 then -i else i))) (aCons (dVar 2) aNil)) (dOp fPow (dC (.int 10)) (dC (.int 18))))) (dN (f1 (f1I fun i => .int (if i < 0 then -i else i))) (aCons (dVar 2) aNil)) (dC (.int 0))) (aCons (dVar 3) (aCons (dC (.int 0)) aNil))))))))
noncomputable def F_l_jug : Fd := fun ws st => nox (fnD 5 d_l_jug ws st)
theorem ok_l_jug (T : Tx K mg ct) : FnOk P w K mg base CX0 1 T.f_l_jug T.d_l_jug ["_law_script", "_law_at"] (spD ⟨K, ct, ce⟩ 2 F_l_jug) := by
  refine fnK (k := 0) T.F_l_jug sc_l_jug rfl fun cdv A outer s H E hr => ⟨_, (pss_cons (ps_set (i := 2) sc_l_jug.nd rfl (Or.inl rfl) (pe_ifExp (pt_cmpR op_lt (pv 1) (pe_callB (call_lenQ K) (by rfl) T.n_len PySem.boot_len (pa_cons (pv 0) pa_nil)) (nomark _)) (pe_ix (ix_listK K) (pv 0) (pv 1) (fun _ _ => rfl)) (pe_op op_add pe_int (pv 1))))
      (pss_cons (ps_set (i := 3) sc_l_jug.nd rfl (Or.inl rfl) (pe_op op_mulB pe_int (pe_op op_add (pv 1) pe_int)))
      (pss_cons (ps_for PassesOwn.never rfl (pi_listK K (pe_op op_cat (pe_slice (sl_listK K) (pv 0) po_none (po_some pe_int)) (pe_lst (pa_cons (pv 2) pa_nil)))) (pg_name (i := 4) sc_l_jug.nd rfl (Or.inl rfl))
        (pss_cons (ps_set (i := 3) sc_l_jug.nd rfl (Or.inl rfl) (pe_op op_add (pe_op op_mulB (pv 3) pe_int) (pe_op op_mod (pe_callTy call_int1 (by rfl) T.n_int (by decide +kernel) (pa_cons (pv 4) pa_nil)) pe_int)))
      (pss_one (ps_set (i := 3) sc_l_jug.nd rfl (Or.inl rfl) (pe_op op_mod (pe_callTy call_int1 (by rfl) T.n_int (by decide +kernel) (pa_cons (pe_op op_add (pv 3) pe_int) pa_nil)) pe_int)))))
      (pss_one (ps_ret (pe_lst (pa_cons (pe_ifExp (pt_cmpR op_ge (pe_callB call_abs (by rfl) T.n_abs (by decide +kernel) (pa_cons (pv 2) pa_nil)) (pe_op op_pow pe_int pe_int) (nomark _)) (pe_callB call_abs (by rfl) T.n_abs (by decide +kernel) (pa_cons (pv 2) pa_nil)) pe_int) (pa_cons (pv 3) (pa_cons pe_int pa_nil))))))))), ?_⟩
  exact (es_seq (es_set (ev_if (et_t (ev_op q_lt ev_var (ev_cb q_len (ea_cons ev_var ea_nil)))) (ev_op q_ixL ev_var ev_var) (ev_op q_add ev_int ev_var)))
      (es_seq (es_set (ev_op q_mul ev_int (ev_op q_add ev_var ev_int)))
      (es_seq (es_for (ei_list (ev_op q_cat (ev_sl q_slL ev_var eo_none (eo_some ev_int)) (ev_lst (ea_cons ev_var ea_nil)))) (eg_name (vs := [4]) rfl)
        (es_seq (es_set (ev_op q_add (ev_op q_mul ev_var ev_int) (ev_op q_mod (ev_cb q_int (ea_cons ev_var ea_nil)) ev_int)))
      (es_set (ev_op q_mod (ev_cb q_int (ea_cons (ev_op q_add ev_var ev_int) ea_nil)) ev_int))))
      (es_ret (ev_lst (ea_cons (ev_if (et_t (ev_op q_ge (ev_cb q_abs (ea_cons ev_var ea_nil)) (ev_op q_pow ev_int ev_int))) (ev_cb q_abs (ea_cons ev_var ea_nil)) ev_int) (ea_cons ev_var (ea_cons ev_int ea_nil))))))))
/-! ### _law_pour -/
noncomputable def d_l_pour : DnS :=
    (sSeq (sIf (bT (dOp fGt (dOp fIxL (dVar 0) (dC (.int 0))) (dC (.int 0)))) (sSeq (sAsg (dN (f2 fDivm) (aCons (dOp fIxL (dVar 0) (dC (.int 0))) (aCons (dVar 1) aNil))) (gT 2 (gsCons (gSb fSetL (dVar 0) (dC (.int 0))) (gsCons (gN 2) gsNil))))
    (sRet (dVar 2))) sNext)
    (sSeq (sAsg (dOp fAdd (dOp fIxL (dVar 0) (dC (.int 2))) (dC (.int 1))) (gSb fSetL (dVar 0) (dC (.int 2))))
    (sSeq (sSet 3 (dOp fAdd (dOp fMul (dOp fIxL (dVar 0) (dC (.int 1))) (dC (.int 3202034522624059733))) (dOp fMul (dOp fMul (dC (.int 104395301)) (dOp fIxL (dVar 0) (dC (.int 2)))) (dOp fIxL (dVar 0) (dC (.int 2))))))
    (sSeq (sAsg (dOp fMod (dN (f1 (f1I fun i => .int i)) (aCons (dOp fAdd (dVar 3) (dC (.int 1))) aNil)) (dC (.int 9223372036854775783))) (gSb fSetL (dVar 0) (dC (.int 1))))
    (sRet (dOp fMod (dN (f1 (f1I fun i => .int i)) (aCons (dOp fDiv (dOp fIxL (dVar 0) (dC (.int 1))) (dC (.int 16777216))) aNil)) (dVar 1)))))))
noncomputable def F_l_pour : Fd := fun ws st => nox (fnD 4 d_l_pour ws st)
theorem ok_l_pour (T : Tx K mg ct) : FnOk P w K mg base CX0 1 T.f_l_pour T.d_l_pour ["_law_jug_here", "_law_many"] (spD ⟨K, ct, ce⟩ 2 F_l_pour) := by
  refine fnK (k := 0) T.F_l_pour sc_l_pour rfl fun cdv A outer s H E hr => ⟨_, (pss_cons (ps_if (pt_cmpR op_gt (pe_ix (ix_listK K) (pv 0) pe_int (fun _ _ => rfl)) pe_int (nomark _))
        (pss_cons (ps_asg (pe_callB call_divmodW (by rfl) T.n_divmod (by decide +kernel) (pa_cons (pe_ix (ix_listK K) (pv 0) pe_int (fun _ _ => rfl)) (pa_cons (pv 1) pa_nil))) (pg_tupK K rfl (pgs_cons (pg_sub (pv 0) pe_int set_list) (pgs_cons (pg_name (i := 2) sc_l_pour.nd rfl (Or.inl rfl)) pgs_nil))))
      (pss_one (ps_ret (pv 2))))
        pss_nil)
      (pss_cons (ps_asg (pe_op op_add (pe_ix (ix_listK K) (pv 0) pe_int (fun _ _ => rfl)) pe_int) (pg_sub (pv 0) pe_int set_list))
      (pss_cons (ps_set (i := 3) sc_l_pour.nd rfl (Or.inl rfl) (pe_op op_add (pe_op op_mulB (pe_ix (ix_listK K) (pv 0) pe_int (fun _ _ => rfl)) pe_int) (pe_op op_mulB (pe_op op_mulB pe_int (pe_ix (ix_listK K) (pv 0) pe_int (fun _ _ => rfl))) (pe_ix (ix_listK K) (pv 0) pe_int (fun _ _ => rfl)))))
      (pss_cons (ps_asg (pe_op op_mod (pe_callTy call_int1 (by rfl) T.n_int (by decide +kernel) (pa_cons (pe_op op_add (pv 3) pe_int) pa_nil)) pe_int) (pg_sub (pv 0) pe_int set_list))
      (pss_one (ps_ret (pe_op op_mod (pe_callTy call_int1 (by rfl) T.n_int (by decide +kernel) (pa_cons (pe_op op_fdivW (pe_ix (ix_listK K) (pv 0) pe_int (fun _ _ => rfl)) pe_int) pa_nil)) (pv 1)))))))), ?_⟩
  exact (es_seq (es_if (et_t (ev_op q_gt (ev_op q_ixL ev_var ev_int) ev_int))
        (es_seq (es_asg (ev_cb q_divm (ea_cons (ev_op q_ixL ev_var ev_int) (ea_cons ev_var ea_nil))) (eg_tup (egs_cons (eg_sub (vs := [2]) q_setL ev_var ev_int) (egs_cons (eg_name (vs := [2]) rfl) egs_nil))))
      (es_ret ev_var))
        es_next)
      (es_seq (es_asg (ev_op q_add (ev_op q_ixL ev_var ev_int) ev_int) (eg_sub (vs := []) q_setL ev_var ev_int))
      (es_seq (es_set (ev_op q_add (ev_op q_mul (ev_op q_ixL ev_var ev_int) ev_int) (ev_op q_mul (ev_op q_mul ev_int (ev_op q_ixL ev_var ev_int)) (ev_op q_ixL ev_var ev_int))))
      (es_seq (es_asg (ev_op q_mod (ev_cb q_int (ea_cons (ev_op q_add ev_var ev_int) ea_nil)) ev_int) (eg_sub (vs := []) q_setL ev_var ev_int))
      (es_ret (ev_op q_mod (ev_cb q_int (ea_cons (ev_op q_div (ev_op q_ixL ev_var ev_int) ev_int) ea_nil)) ev_var))))))
/-! ### _law_in_rows -/
noncomputable def c_l_in_rows_1 : Dn :=
    (dLc (iSeq srcT (dVar 0)) (gN 1) (fun _ st => .ok true st) (dN (f1 fSum) (aCons (dN (f1 fLstOf) (aCons (dVar 1) aNil)) aNil)) [1])
noncomputable def d_l_in_rows : DnS :=
    (sRet c_l_in_rows_1)
noncomputable def F_l_in_rows : Fd := fun ws st => nox (fnD 2 d_l_in_rows ws st)
theorem ok_l_in_rows (T : Tx K mg ct) : FnOk P w K mg base CX0 1 T.f_l_in_rows T.d_l_in_rows ["_law_grid_here"] (spD ⟨K, ct, ce⟩ 1 F_l_in_rows) := by
  refine fnK (k := 0) T.F_l_in_rows sc_l_in_rows rfl fun cdv A outer s H E hr => ⟨_, (pss_one (ps_ret (pe_lc (own := [("_law_row", 1)]) (g := gName 1) (tt := tYes) rfl sc_l_in_rows.nd (pi_tupK K (pv 0)) (blkOk_by (own := [("_law_row", 1)]) (N := ["_law_grid_here", "_law_row"]) (sc := defScope s_l_in_rows) (by decide +kernel)) (fun _ _ _ _ _ => (pg_name (i := 1) sc_l_in_rows.nd rfl (Or.inl rfl))) (fun _ _ _ _ _ => pts_nil) (fun _ _ _ _ _ => (pe_callB (cr_sumK K rfl) (by rfl) T.n_sum (by decide +kernel) (pa_cons (pe_callTy (call_lstOf K) (by rfl) T.n_list (by decide +kernel) (pa_cons (pv 1) pa_nil)) pa_nil)))))), ?_⟩
  exact (es_ret (ev_lc (ei_tup ev_var) (eg_name (vs := [1]) rfl) et_yes (ev_cb q_sum (ea_cons (ev_cb q_lstOf (ea_cons ev_var ea_nil)) ea_nil))))
/-! ### _law_in_columns -/
noncomputable def c_l_in_columns_1 : Dn :=
    (dLc (iSeq srcT (dVar 0)) (gN 2) (fun _ st => .ok true st) (dOp fIxT (dVar 2) (dVar 1)) [2])
noncomputable def c_l_in_columns_2 : Dn :=
    (dLc (iR r1S (aCons (dN (f1 fLen) (aCons (dOp fIxT (dVar 0) (dC (.int 0))) aNil)) aNil)) (gN 1) (fun _ st => .ok true st) (dN (f1 fSum) (aCons c_l_in_columns_1 aNil)) [1])
noncomputable def d_l_in_columns : DnS :=
    (sRet c_l_in_columns_2)
noncomputable def F_l_in_columns : Fd := fun ws st => nox (fnD 3 d_l_in_columns ws st)
theorem ok_l_in_columns (T : Tx K mg ct) : FnOk P w K mg base CX0 1 T.f_l_in_columns T.d_l_in_columns ["_law_grid_here"] (spD ⟨K, ct, ce⟩ 1 F_l_in_columns) := by
  refine fnK (k := 0) T.F_l_in_columns sc_l_in_columns rfl fun cdv A outer s H E hr => ⟨_, (pss_one (ps_ret (pe_lc (own := [("_law_at", 1)]) (g := gName 1) (tt := tYes) rfl sc_l_in_columns.nd (pi_range1 rfl T.n_range (pa_cons (pe_callB (call_lenQ K) (by rfl) T.n_len PySem.boot_len (pa_cons (pe_ix (ix_tupK K) (pv 0) pe_int (fun _ _ => rfl)) pa_nil)) pa_nil)) (blkOk_by (own := [("_law_at", 1)]) (N := ["_law_grid_here", "_law_at", "_law_row"]) (sc := defScope s_l_in_columns) (by decide +kernel)) (fun _ _ _ _ _ => (pg_name (i := 1) sc_l_in_columns.nd rfl (Or.inr rfl))) (fun _ _ _ _ _ => pts_nil) (fun _ _ _ _ _ => (pe_callB (cr_sumK K rfl) (by rfl) T.n_sum (by decide +kernel) (pa_cons (pe_lc (own := [("_law_row", 2)]) (g := gName 2) (tt := tYes) rfl sc_l_in_columns.nd (pi_tupK K (pv 0)) (blkOk_by (own := [("_law_row", 2)]) (N := ["_law_grid_here", "_law_at", "_law_row"]) (by rfl)) (fun _ _ _ _ _ => (pg_name (i := 2) sc_l_in_columns.nd rfl (Or.inl rfl))) (fun _ _ _ _ _ => pts_nil) (fun _ _ _ _ _ => (pe_ix (ix_tupK K) (pv 2) (pv 1) (fun _ _ => rfl)))) pa_nil)))))), ?_⟩
  exact (es_ret (ev_lc (ei_r1 (ea_cons (ev_cb q_len (ea_cons (ev_op q_ixT ev_var ev_int) ea_nil)) ea_nil)) (eg_name (vs := [1]) rfl) et_yes (ev_cb q_sum (ea_cons (ev_lc (ei_tup ev_var) (eg_name (vs := [2]) rfl) et_yes (ev_op q_ixT ev_var ev_var)) ea_nil))))
/-! ### _law_within -/
noncomputable def d_l_within : DnS :=
    (sRet (dAnd (dN (f2 fIsi) (aCons (dVar 0) (aCons (dC (tyD "int")) aNil))) (dAnd (dNot (dN (f2 fIsi) (aCons (dVar 0) (aCons (dC (tyD "bool")) aNil)))) (dChain fLe fLe (dVar 1) (dVar 0) (dVar 2)))))
noncomputable def F_l_within : Fd := fun ws st => nox (fnD 3 d_l_within ws st)
theorem ok_l_within (T : Tx K mg ct) : FnOk P w K mg base CX0 1 T.f_l_within T.d_l_within ["_law_thing", "_law_least", "_law_most"] (spD ⟨K, ct, ce⟩ 3 F_l_within) := by
  refine fnK (k := 0) T.F_l_within sc_l_within rfl fun cdv A outer s H E hr => ⟨_, (pss_one (ps_ret (pe_and (pe_callB (call_isiK K) (by rfl) T.n_isinstance (by decide +kernel) (pa_cons (pv 0) (pa_cons (pe_bltn (v := .ty "int") (by rfl) T.n_int (by decide +kernel) rfl) pa_nil))) (pe_and (pe_not (pe_callB (call_isiK K) (by rfl) T.n_isinstance (by decide +kernel) (pa_cons (pv 0) (pa_cons (pe_bltn (v := .ty "bool") (by rfl) T.n_bool (by decide +kernel) rfl) pa_nil)))) (pe_one (pe_chain op_le op_le (pv 1) (pv 0) (pv 2))))))), ?_⟩
  exact (es_ret (ev_and (ev_cb (q_isi T.kt) (ea_cons ev_var (ea_cons (ev_c fun _ => .ty _) ea_nil))) (ev_and (ev_not (ev_cb (q_isi T.kt) (ea_cons ev_var (ea_cons (ev_c fun _ => .ty _) ea_nil)))) (ev_chain q_le q_le ev_var ev_var ev_var))))
/-! ### _is_member -/
noncomputable def d_is_member : DnS :=
    (sRet (dAnd (dCall 1 F_is_pair [] (aCons (dVar 0) aNil)) (dAnd (dCall 1 F_is_name [] (aCons (dOp fIxT (dVar 0) (dC (.int 0))) aNil)) (dCall 3 F_is_integer [] (aCons (dOp fIxT (dVar 0) (dC (.int 1))) (aCons (dC (.int 1)) (aCons (dC (.int 4)) aNil)))))))
noncomputable def F_is_member : Fd := fun ws st => nox (fnD 1 d_is_member ws st)
theorem ok_is_member (T : Tx K mg ct) : FnOk P w K mg base CX0 2 T.f_is_member T.d_is_member ["value"] (spD ⟨K, ct, ce⟩ 1 F_is_member) := by
  refine fnK (k := 1) T.F_is_member sc_is_member rfl fun cdv A outer s H E hr => ⟨_, (pss_one (ps_ret (pe_and (pe_call (ok_is_pair (ce := ce) T) (hr.mono (by decide)) rfl T.v_is_pair T.k_is_pair T.b_is_pair .nil pass0 (pa_cons (pv 0) pa_nil)) (pe_and (pe_call (ok_is_name (ce := ce) T) (hr.mono (by decide)) rfl T.v_is_name T.k_is_name T.b_is_name .nil pass0 (pa_cons (pe_ix (ix_tupK K) (pv 0) pe_int (fun _ _ => rfl)) pa_nil)) (pe_one (pe_call (ok_is_integer (ce := ce) T) (hr.mono (by decide)) rfl T.v_is_integer T.k_is_integer T.b_is_integer .nil pass0 (pa_cons (pe_ix (ix_tupK K) (pv 0) pe_int (fun _ _ => rfl)) (pa_cons pe_int (pa_cons (pe_glob (v := .int 4) rfl T.c_MOST_BOUND.choose_spec ⟨_, rfl⟩) pa_nil))))))))), ?_⟩
  exact (es_ret (ev_and (ev_call no_ds (ea_cons ev_var ea_nil)) (ev_and (ev_call no_ds (ea_cons (ev_op q_ixT ev_var ev_int) ea_nil)) (ev_call no_ds (ea_cons (ev_op q_ixT ev_var ev_int) (ea_cons ev_int (ea_cons ev_int ea_nil)))))))
/-! ### _is_row -/
noncomputable def c_is_row_1 : Dn :=
    (dLc (iSeq srcT (dVar 0)) (gN 3) (fun _ st => .ok true st) (dCall 3 F_is_integer [] (aCons (dVar 3) (aCons (dC (.int 0)) (aCons (dVar 2) aNil)))) [3])
noncomputable def d_is_row : DnS :=
    (sSeq (sIf (bOr (bNot (bT (dN (f2 fIsi) (aCons (dVar 0) (aCons (dC (tyD "tuple")) aNil))))) (bT (dOp (fEq true) (dN (f1 fLen) (aCons (dVar 0) aNil)) (dVar 1)))) (sRet (dC (.bool false))) sNext)
    (sRet (dN (f1 (fBls fun bs => bs.all id)) (aCons c_is_row_1 aNil))))
noncomputable def F_is_row : Fd := fun ws st => nox (fnD 4 d_is_row ws st)
theorem ok_is_row (T : Tx K mg ct) : FnOk P w K mg base CX0 2 T.f_is_row T.d_is_row ["value", "guests", "most"] (spD ⟨K, ct, ce⟩ 3 F_is_row) := by
  refine fnK (k := 1) T.F_is_row sc_is_row rfl fun cdv A outer s H E hr => ⟨_, (pss_cons (ps_if (PW.pt (pw_or (pt_not (pt_val (pe_callB (call_isiK K) (by rfl) T.n_isinstance (by decide +kernel) (pa_cons (pv 0) (pa_cons (pe_bltn (v := .ty "tuple") (by rfl) T.n_tuple (by decide +kernel) rfl) pa_nil))))) (pw_or1 (pt_cmpR op_ne (pe_callB (call_lenQ K) (by rfl) T.n_len PySem.boot_len (pa_cons (pv 0) pa_nil)) (pv 1) (nomark _)))))
        (pss_one (ps_ret pe_bl))
        pss_nil)
      (pss_one (ps_ret (pe_callB (cr_allK K rfl) (by rfl) T.n_all (by decide +kernel) (pa_cons (pe_lc (own := [("number", 3)]) (g := gName 3) (tt := tYes) rfl sc_is_row.nd (pi_tupK K (pv 0)) (blkOk_by (own := [("number", 3)]) (N := ["value", "guests", "most", "number"]) (sc := defScope s_is_row) (by decide +kernel)) (fun _ _ _ _ _ => (pg_name (i := 3) sc_is_row.nd rfl (Or.inl rfl))) (fun _ _ _ _ _ => pts_nil) (fun _ _ _ _ _ => (pe_call (ok_is_integer (ce := ce) T) (hr.mono (by decide)) rfl T.v_is_integer T.k_is_integer T.b_is_integer .nil pass0 (pa_cons (pv 3) (pa_cons pe_int (pa_cons (pv 2) pa_nil)))))) pa_nil))))), ?_⟩
  exact (es_seq (es_if (et_or (et_not (et_b (ev_cb (q_isi T.kt) (ea_cons ev_var (ea_cons (ev_c fun _ => .ty _) ea_nil))))) (et_t (ev_op q_ne (ev_cb q_len (ea_cons ev_var ea_nil)) ev_var)))
        (es_ret ev_bl)
        es_next)
      (es_ret (ev_cb q_all (ea_cons (ev_lc (ei_tup ev_var) (eg_name (vs := [3]) rfl) et_yes (ev_call no_ds (ea_cons ev_var (ea_cons ev_int (ea_cons ev_var ea_nil))))) ea_nil))))
/-! ### check_number -/
noncomputable def d_check_number : DnS :=
    (sIf (bNot (bT (dCall 3 F_is_integer [.fz .none] (aCons (dVar 0) (aCons (dC (.int 0)) aNil))))) sNo sNext)
noncomputable def F_check_number : Fd := fun ws st => nox (fnD 1 d_check_number ws st)
theorem ok_check_number (T : Tx K mg ct) : FnOk P w K mg base CX0 2 T.f_check_number T.d_check_number ["given"] (spD ⟨K, ct, ce⟩ 1 F_check_number) := by
  refine fnK (k := 1) T.F_check_number sc_check_number rfl fun cdv A outer s H E hr => ⟨_, (pss_one (ps_if (pt_not (pt_val (pe_call (ok_is_integer (ce := ce) T) (hr.mono (by decide)) rfl T.v_is_integer T.k_is_integer T.bd_is_integer_1.choose_spec.2 T.bd_is_integer_1.choose_spec.1 pass0 (pa_cons (pv 0) (pa_cons pe_int pa_nil)))))
        (pss_one ps_never)
        pss_nil)), ?_⟩
  exact (es_if (et_not (et_b (ev_call non_ds (ea_cons ev_var (ea_cons ev_int ea_nil)))))
        es_never
        es_next)
/-! ### _law_word -/
noncomputable def b_l_word_1 : DnS :=
    (sSet 3 (dOp fAddS (dVar 3) (dOp fIxS (dVar 1) (dCall 2 F_l_pour [] (aCons (dVar 0) (aCons (dC (.int 36)) aNil))))))
noncomputable def d_l_word : DnS :=
    (sSeq (sPar 1 2 (aCons (dC (.str "abcdefghijklmnopqrstuvwxyz0123456789")) (aCons (dN fLst (aCons (dC (.str "host")) (aCons (dC (.str "guest")) (aCons (dC (.str "tables")) (aCons (dC (.str "tables1")) (aCons (dC (.str "a")) (aCons (dC (.str "ab")) (aCons (dC (.str "z9")) (aCons (dC (.str "x")) aNil))))))))) aNil)))
    (sSeq (sIf (bT (dOp (fEq false) (dCall 2 F_l_pour [] (aCons (dVar 0) (aCons (dC (.int 4)) aNil))) (dC (.int 0)))) (sRet (dOp fIxL (dVar 2) (dCall 2 F_l_pour [] (aCons (dVar 0) (aCons (dC (.int 8)) aNil))))) sNext)
    (sSeq (sSet 3 (dOp fIxS (dVar 1) (dCall 2 F_l_pour [] (aCons (dVar 0) (aCons (dC (.int 26)) aNil)))))
    (sSeq (sFor (iR r1S (aCons (dOp fIxL (dN fLst (aCons (dC (.int 0)) (aCons (dC (.int 1)) (aCons (dC (.int 2)) (aCons (dC (.int 7)) aNil))))) (dCall 2 F_l_pour [] (aCons (dVar 0) (aCons (dC (.int 4)) aNil)))) aNil)) (gN 4) b_l_word_1)
    (sRet (dVar 3))))))
noncomputable def F_l_word : Fd := fun ws st => nox (fnD 5 d_l_word ws st)
theorem ok_l_word (T : Tx K mg ct) : FnOk P w K mg base CX0 2 T.f_l_word T.d_l_word ["_law_jug_here"] (spD ⟨K, ct, ce⟩ 1 F_l_word) := by
  refine fnK (k := 1) T.F_l_word sc_l_word rfl fun cdv A outer s H E hr => ⟨_, (pss_cons (ps_par (i := 1) (j := 2) (by rfl) sc_l_word.nd rfl rfl (by decide) rfl rfl (pa_cons pe_str (pa_cons (pe_lst (pa_cons pe_str (pa_cons pe_str (pa_cons pe_str (pa_cons pe_str (pa_cons pe_str (pa_cons pe_str (pa_cons pe_str (pa_cons pe_str pa_nil))))))))) pa_nil)) (by rfl))
      (pss_cons (ps_if (pt_cmpR op_eq (pe_call (ok_l_pour (ce := ce) T) (hr.mono (by decide)) rfl T.v_l_pour T.k_l_pour T.b_l_pour .nil pass0 (pa_cons (pv 0) (pa_cons pe_int pa_nil))) pe_int (nomark _))
        (pss_one (ps_ret (pe_ix (ix_listK K) (pv 2) (pe_call (ok_l_pour (ce := ce) T) (hr.mono (by decide)) rfl T.v_l_pour T.k_l_pour T.b_l_pour .nil pass0 (pa_cons (pv 0) (pa_cons pe_int pa_nil))) (fun _ _ => rfl))))
        pss_nil)
      (pss_cons (ps_set (i := 3) sc_l_word.nd rfl (Or.inl rfl) (pe_ix ix_str (pv 1) (pe_call (ok_l_pour (ce := ce) T) (hr.mono (by decide)) rfl T.v_l_pour T.k_l_pour T.b_l_pour .nil pass0 (pa_cons (pv 0) (pa_cons pe_int pa_nil))) (fun _ _ => rfl)))
      (pss_cons (ps_for PassesOwn.never rfl (pi_range1 rfl T.n_range (pa_cons (pe_ix (ix_listK K) (pe_lst (pa_cons pe_int (pa_cons pe_int (pa_cons pe_int (pa_cons pe_int pa_nil))))) (pe_call (ok_l_pour (ce := ce) T) (hr.mono (by decide)) rfl T.v_l_pour T.k_l_pour T.b_l_pour .nil pass0 (pa_cons (pv 0) (pa_cons pe_int pa_nil))) (fun _ _ => rfl)) pa_nil)) (pg_name (i := 4) sc_l_word.nd rfl (Or.inl rfl))
        (pss_one (ps_set (i := 3) sc_l_word.nd rfl (Or.inl rfl) (pe_op op_add_str (pv 3) (pe_ix ix_str (pv 1) (pe_call (ok_l_pour (ce := ce) T) (hr.mono (by decide)) rfl T.v_l_pour T.k_l_pour T.b_l_pour .nil pass0 (pa_cons (pv 0) (pa_cons pe_int pa_nil))) (fun _ _ => rfl))))))
      (pss_one (ps_ret (pv 3))))))), ?_⟩
  exact (es_seq (es_par (ea_cons ev_str (ea_cons (ev_lst (ea_cons ev_str (ea_cons ev_str (ea_cons ev_str (ea_cons ev_str (ea_cons ev_str (ea_cons ev_str (ea_cons ev_str (ea_cons ev_str ea_nil))))))))) ea_nil)))
      (es_seq (es_if (et_t (ev_op q_eq (ev_call no_ds (ea_cons ev_var (ea_cons ev_int ea_nil))) ev_int))
        (es_ret (ev_op q_ixL ev_var (ev_call no_ds (ea_cons ev_var (ea_cons ev_int ea_nil)))))
        es_next)
      (es_seq (es_set (ev_op q_ixS ev_var (ev_call no_ds (ea_cons ev_var (ea_cons ev_int ea_nil)))))
      (es_seq (es_for (ei_r1 (ea_cons (ev_op q_ixL (ev_lst (ea_cons ev_int (ea_cons ev_int (ea_cons ev_int (ea_cons ev_int ea_nil))))) (ev_call no_ds (ea_cons ev_var (ea_cons ev_int ea_nil)))) ea_nil)) (eg_name (vs := [4]) rfl)
        (es_set (ev_op q_addS ev_var (ev_op q_ixS ev_var (ev_call no_ds (ea_cons ev_var (ea_cons ev_int ea_nil)))))))
      (es_ret ev_var)))))
/-! ### _law_number -/
noncomputable def d_l_number : DnS :=
    (sSeq (sIf (bT (dOp fLt (dVar 1) (dC (.int 2)))) (sRet (dCall 2 F_l_pour [] (aCons (dVar 0) (aCons (dOp fIxL (dN fLst (aCons (dC (.int 4)) (aCons (dC (.int 30)) aNil))) (dVar 1)) aNil)))) sNext)
    (sSeq (sSet 2 (dOp fAdd (dOp fMul (dCall 2 F_l_pour [] (aCons (dVar 0) (aCons (dOp fPow (dC (.int 10)) (dC (.int 15))) aNil))) (dOp fPow (dC (.int 10)) (dC (.int 15)))) (dCall 2 F_l_pour [] (aCons (dVar 0) (aCons (dOp fPow (dC (.int 10)) (dC (.int 15))) aNil)))))
    (sRet (dOp fIxL (dN fLst (aCons (dC (.int 0)) (aCons (dOp fPow (dC (.int 10)) (dC (.int 30))) (aCons (dOp fSub (dOp fPow (dC (.int 10)) (dC (.int 30))) (dC (.int 1))) (aCons (dVar 2) (aCons (dVar 2) (aCons (dOp fDiv (dVar 2) (dOp fPow (dC (.int 10)) (dC (.int 9)))) aNil))))))) (dCall 2 F_l_pour [] (aCons (dVar 0) (aCons (dC (.int 6)) aNil)))))))
noncomputable def F_l_number : Fd := fun ws st => nox (fnD 3 d_l_number ws st)
theorem ok_l_number (T : Tx K mg ct) : FnOk P w K mg base CX0 2 T.f_l_number T.d_l_number ["_law_jug_here", "_law_way"] (spD ⟨K, ct, ce⟩ 2 F_l_number) := by
  refine fnK (k := 1) T.F_l_number sc_l_number rfl fun cdv A outer s H E hr => ⟨_, (pss_cons (ps_if (pt_cmpR op_lt (pv 1) pe_int (nomark _))
        (pss_one (ps_ret (pe_call (ok_l_pour (ce := ce) T) (hr.mono (by decide)) rfl T.v_l_pour T.k_l_pour T.b_l_pour .nil pass0 (pa_cons (pv 0) (pa_cons (pe_ix (ix_listK K) (pe_lst (pa_cons pe_int (pa_cons pe_int pa_nil))) (pv 1) (fun _ _ => rfl)) pa_nil)))))
        pss_nil)
      (pss_cons (ps_set (i := 2) sc_l_number.nd rfl (Or.inl rfl) (pe_op op_add (pe_op op_mulB (pe_call (ok_l_pour (ce := ce) T) (hr.mono (by decide)) rfl T.v_l_pour T.k_l_pour T.b_l_pour .nil pass0 (pa_cons (pv 0) (pa_cons (pe_op op_pow pe_int pe_int) pa_nil))) (pe_op op_pow pe_int pe_int)) (pe_call (ok_l_pour (ce := ce) T) (hr.mono (by decide)) rfl T.v_l_pour T.k_l_pour T.b_l_pour .nil pass0 (pa_cons (pv 0) (pa_cons (pe_op op_pow pe_int pe_int) pa_nil)))))
      (pss_one (ps_ret (pe_ix (ix_listK K) (pe_lst (pa_cons pe_int (pa_cons (pe_op op_pow pe_int pe_int) (pa_cons (pe_op op_sub (pe_op op_pow pe_int pe_int) pe_int) (pa_cons (pv 2) (pa_cons (pv 2) (pa_cons (pe_op op_fdivW (pv 2) (pe_op op_pow pe_int pe_int)) pa_nil))))))) (pe_call (ok_l_pour (ce := ce) T) (hr.mono (by decide)) rfl T.v_l_pour T.k_l_pour T.b_l_pour .nil pass0 (pa_cons (pv 0) (pa_cons pe_int pa_nil))) (fun _ _ => rfl)))))), ?_⟩
  exact (es_seq (es_if (et_t (ev_op q_lt ev_var ev_int))
        (es_ret (ev_call no_ds (ea_cons ev_var (ea_cons (ev_op q_ixL (ev_lst (ea_cons ev_int (ea_cons ev_int ea_nil))) ev_var) ea_nil))))
        es_next)
      (es_seq (es_set (ev_op q_add (ev_op q_mul (ev_call no_ds (ea_cons ev_var (ea_cons (ev_op q_pow ev_int ev_int) ea_nil))) (ev_op q_pow ev_int ev_int)) (ev_call no_ds (ea_cons ev_var (ea_cons (ev_op q_pow ev_int ev_int) ea_nil)))))
      (es_ret (ev_op q_ixL (ev_lst (ea_cons ev_int (ea_cons (ev_op q_pow ev_int ev_int) (ea_cons (ev_op q_sub (ev_op q_pow ev_int ev_int) ev_int) (ea_cons ev_var (ea_cons ev_var (ea_cons (ev_op q_div ev_var (ev_op q_pow ev_int ev_int)) ea_nil))))))) (ev_call no_ds (ea_cons ev_var (ea_cons ev_int ea_nil)))))))
/-! ### _law_shares -/
noncomputable def b_l_shares_1 : DnS :=
    (sSeq (sAsg (dOp fIxT (dOp fIxT (dVar 0) (dVar 4)) (dVar 5)) (gT 2 (gsCons (gN 6) (gsCons (gN 7) gsNil))))
    (sDrop (dM isLst (fChg gApp) (dVar 2) (aCons (dN fTup (aCons (dOp fDiv (dOp fSub (dOp fAdd (dOp fIxL (dOp fIxL (dVar 3) (dVar 4)) (dVar 5)) (dVar 7)) (dC (.int 1))) (dVar 7)) (aCons (dN fTup (aCons (dOp fIxL (dN fLst (aCons (dC (.str "host")) (aCons (dC (.str "guest")) aNil))) (dVar 4)) (aCons (dVar 6) aNil))) aNil))) aNil))))
noncomputable def b_l_shares_2 : DnS :=
    (sFor (iR r1S (aCons (dN (f1 fLen) (aCons (dOp fIxT (dVar 0) (dVar 4)) aNil)) aNil)) (gN 5) b_l_shares_1)
noncomputable def d_l_shares : DnS :=
    (sSeq (sPar 2 3 (aCons (dLoc (dN fLst aNil)) (aCons (dN fLst (aCons (dCall 1 F_l_in_rows [] (aCons (dVar 1) aNil)) (aCons (dCall 1 F_l_in_columns [] (aCons (dVar 1) aNil)) aNil))) aNil)))
    (sSeq (sFor (iR r1S (aCons (dC (.int 2)) aNil)) (gN 4) b_l_shares_2)
    (sSeq (sIf (bT (dOp (fIs true) (dOp fIxT (dVar 0) (dC (.int 2))) (dC .none))) (sDrop (dM isLst (fChg gApp) (dVar 2) (aCons (dN fTup (aCons (dOp fDiv (dOp fSub (dOp fAdd (dN (f1 fSum) (aCons (dOp fIxL (dVar 3) (dC (.int 0))) aNil)) (dOp fIxT (dVar 0) (dC (.int 2)))) (dC (.int 1))) (dOp fIxT (dVar 0) (dC (.int 2)))) (aCons (dN fTup (aCons (dC (.str "tables")) aNil)) aNil))) aNil))) sNext)
    (sRet (dVar 2)))))
noncomputable def F_l_shares : Fd := fun ws st => nox (fnD 8 d_l_shares ws st)
theorem ok_l_shares (T : Tx K mg ct) : FnOk P w K mg base CX0 2 T.f_l_shares T.d_l_shares ["_law_parts_here", "_law_grid_here"] (spD ⟨K, ct, ce⟩ 2 F_l_shares) := by
  refine fnK (k := 1) T.F_l_shares sc_l_shares rfl fun cdv A outer s H E hr => ⟨_, (pss_cons (ps_par (i := 2) (j := 3) (by rfl) sc_l_shares.nd rfl rfl (by decide) rfl rfl (pa_cons (pe_lst pa_nil) (pa_cons (pe_lst (pa_cons (pe_call (ok_l_in_rows (ce := ce) T) (hr.mono (by decide)) rfl T.v_l_in_rows T.k_l_in_rows T.b_l_in_rows .nil pass0 (pa_cons (pv 1) pa_nil)) (pa_cons (pe_call (ok_l_in_columns (ce := ce) T) (hr.mono (by decide)) rfl T.v_l_in_columns T.k_l_in_columns T.b_l_in_columns .nil pass0 (pa_cons (pv 1) pa_nil)) pa_nil))) pa_nil)) (by rfl))
      (pss_cons (ps_for PassesOwn.never rfl (pi_range1 rfl T.n_range (pa_cons pe_int pa_nil)) (pg_name (i := 4) sc_l_shares.nd rfl (Or.inl rfl))
        (pss_one (ps_for PassesOwn.never rfl (pi_range1 rfl T.n_range (pa_cons (pe_callB (call_lenQ K) (by rfl) T.n_len PySem.boot_len (pa_cons (pe_ix (ix_tupK K) (pv 0) (pv 4) (fun _ _ => rfl)) pa_nil)) pa_nil)) (pg_name (i := 5) sc_l_shares.nd rfl (Or.inl rfl))
        (pss_cons (ps_asg (pe_ix (ix_tupK K) (pe_ix (ix_tupK K) (pv 0) (pv 4) (fun _ _ => rfl)) (pv 5) (fun _ _ => rfl)) (pg_tupK K rfl (pgs_cons (pg_name (i := 6) sc_l_shares.nd rfl (Or.inl rfl)) (pgs_cons (pg_name (i := 7) sc_l_shares.nd rfl (Or.inl rfl)) pgs_nil))))
      (pss_one (ps_expr (pe_bmN K PySem.F.plainAttrs_list PySem.F.slot_list_append PySem.F.type_list_append mt_append (pv 2) (pa_cons (pe_tup (pa_cons (pe_op op_fdivW (pe_op op_sub (pe_op op_add (pe_ix (ix_listK K) (pe_ix (ix_listK K) (pv 3) (pv 4) (fun _ _ => rfl)) (pv 5) (fun _ _ => rfl)) (pv 7)) pe_int) (pv 7)) (pa_cons (pe_tup (pa_cons (pe_ix (ix_listK K) (pe_lst (pa_cons pe_str (pa_cons pe_str pa_nil))) (pv 4) (fun _ _ => rfl)) (pa_cons (pv 6) pa_nil))) pa_nil))) pa_nil))))))))
      (pss_cons (ps_if (pt_cmpR op_notN (pe_ix (ix_tupK K) (pv 0) pe_int (fun _ _ => rfl)) pe_non (nomark _))
        (pss_one (ps_expr (pe_bmN K PySem.F.plainAttrs_list PySem.F.slot_list_append PySem.F.type_list_append mt_append (pv 2) (pa_cons (pe_tup (pa_cons (pe_op op_fdivW (pe_op op_sub (pe_op op_add (pe_callB (cr_sumK K rfl) (by rfl) T.n_sum (by decide +kernel) (pa_cons (pe_ix (ix_listK K) (pv 3) pe_int (fun _ _ => rfl)) pa_nil)) (pe_ix (ix_tupK K) (pv 0) pe_int (fun _ _ => rfl))) pe_int) (pe_ix (ix_tupK K) (pv 0) pe_int (fun _ _ => rfl))) (pa_cons (pe_tup (pa_cons pe_str pa_nil)) pa_nil))) pa_nil))))
        pss_nil)
      (pss_one (ps_ret (pv 2)))))), ?_⟩
  exact (es_seq (es_par (ea_cons (ev_loc (ev_lst ea_nil)) (ea_cons (ev_lst (ea_cons (ev_call no_ds (ea_cons ev_var ea_nil)) (ea_cons (ev_call no_ds (ea_cons ev_var ea_nil)) ea_nil))) ea_nil)))
      (es_seq (es_for (ei_r1 (ea_cons ev_int ea_nil)) (eg_name (vs := [4]) rfl)
        (es_for (ei_r1 (ea_cons (ev_cb q_len (ea_cons (ev_op q_ixT ev_var ev_var) ea_nil)) ea_nil)) (eg_name (vs := [5]) rfl)
        (es_seq (es_asg (ev_op q_ixT (ev_op q_ixT ev_var ev_var) ev_var) (eg_tup (egs_cons (eg_name (vs := [6, 7]) rfl) (egs_cons (eg_name (vs := [6, 7]) rfl) egs_nil))))
      (es_drop (ev_bm q_app ev_var (ea_cons (ev_tup (ea_cons (ev_op q_div (ev_op q_sub (ev_op q_add (ev_op q_ixL (ev_op q_ixL ev_var ev_var) ev_var) ev_var) ev_int) ev_var) (ea_cons (ev_tup (ea_cons (ev_op q_ixL (ev_lst (ea_cons ev_str (ea_cons ev_str ea_nil))) ev_var) (ea_cons ev_var ea_nil))) ea_nil))) ea_nil))))))
      (es_seq (es_if (et_t (ev_op q_notN (ev_op q_ixT ev_var ev_int) ev_non))
        (es_drop (ev_bm q_app ev_var (ea_cons (ev_tup (ea_cons (ev_op q_div (ev_op q_sub (ev_op q_add (ev_cb q_sum (ea_cons (ev_op q_ixL ev_var ev_int) ea_nil)) (ev_op q_ixT ev_var ev_int)) ev_int) (ev_op q_ixT ev_var ev_int)) (ea_cons (ev_tup (ea_cons ev_str ea_nil)) ea_nil))) ea_nil)))
        es_next)
      (es_ret ev_var))))
/-! ### _fault -/
noncomputable def b_fault_1 : DnS :=
    (sSeq (sIf (bOr (bT (dOp (fEq false) (dVar 3) (dC (.int 4)))) (bOr (bNot (bT (dCall 1 F_is_member [] (aCons (dVar 4) aNil)))) (bT (dOp (fIn false) (dOp fIxT (dVar 4) (dC (.int 0))) (dVar 2))))) (sRet (dN fTup (aCons (dVar 3) aNil))) sNext)
    (sDrop (dM isLst (fChg gApp) (dVar 2) (aCons (dOp fIxT (dVar 4) (dC (.int 0))) aNil))))
noncomputable def d_fault : DnS :=
    (sSeq (sIf (bOr (bNot (bT (dN (f2 fIsi) (aCons (dVar 0) (aCons (dC (tyD "tuple")) aNil))))) (bNot (bTru (dVar 0)))) (sRet (dN fTup (aCons (dC .none) aNil))) sNext)
    (sSeq (sSet 2 (dLoc (dN (f1 fLstOf) (aCons (dVar 1) aNil))))
    (sSeq (sFor (iEnu true (dVar 0)) (gT 2 (gsCons (gN 3) (gsCons (gN 4) gsNil))) b_fault_1)
    (sRet (dN fTup aNil)))))
noncomputable def F_fault : Fd := fun ws st => nox (fnD 5 d_fault ws st)
theorem ok_fault (T : Tx K mg ct) : FnOk P w K mg base CX0 3 T.f_fault T.d_fault ["side", "taken"] (spD ⟨K, ct, ce⟩ 2 F_fault) := by
  refine fnK (k := 2) T.F_fault sc_fault rfl fun cdv A outer s H E hr => ⟨_, (pss_cons (ps_if (PW.pt (pw_or (pt_not (pt_val (pe_callB (call_isiK K) (by rfl) T.n_isinstance (by decide +kernel) (pa_cons (pv 0) (pa_cons (pe_bltn (v := .ty "tuple") (by rfl) T.n_tuple (by decide +kernel) rfl) pa_nil))))) (pw_or1 (pt_not (pt_truK K (pv 0) (by intro _; rfl))))))
        (pss_one (ps_ret (pe_tup (pa_cons pe_non pa_nil))))
        pss_nil)
      (pss_cons (ps_set (i := 2) sc_fault.nd rfl (Or.inl rfl) (pe_callTy (call_lstOf K) (by rfl) T.n_list (by decide +kernel) (pa_cons (pv 1) pa_nil)))
      (pss_cons (ps_for PassesOwn.never rfl (pi_enTK K rfl T.n_enumerate (pv 0)) (pg_tupK K rfl (pgs_cons (pg_name (i := 3) sc_fault.nd rfl (Or.inl rfl)) (pgs_cons (pg_name (i := 4) sc_fault.nd rfl (Or.inl rfl)) pgs_nil)))
        (pss_cons (ps_if (PW.pt (pw_or (pt_cmpR op_eq (pv 3) (pe_glob (v := .int 4) rfl T.c_MOST_SIDE.choose_spec ⟨_, rfl⟩) (nomark _)) (pw_or (pt_not (pt_val (pe_call (ok_is_member (ce := ce) T) (hr.mono (by decide)) rfl T.v_is_member T.k_is_member T.b_is_member .nil pass0 (pa_cons (pv 4) pa_nil)))) (pw_or1 (pt_cmpR (op_inK K) (pe_ix (ix_tupK K) (pv 4) pe_int (fun _ _ => rfl)) (pv 2) rfl)))))
        (pss_one (ps_ret (pe_tup (pa_cons (pv 3) pa_nil))))
        pss_nil)
      (pss_one (ps_expr (pe_bmN K PySem.F.plainAttrs_list PySem.F.slot_list_append PySem.F.type_list_append mt_append (pv 2) (pa_cons (pe_ix (ix_tupK K) (pv 4) pe_int (fun _ _ => rfl)) pa_nil))))))
      (pss_one (ps_ret (pe_tup pa_nil)))))), ?_⟩
  exact (es_seq (es_if (et_or (et_not (et_b (ev_cb (q_isi T.kt) (ea_cons ev_var (ea_cons (ev_c fun _ => .ty _) ea_nil))))) (et_not (et_truK ev_var)))
        (es_ret (ev_tup (ea_cons ev_non ea_nil)))
        es_next)
      (es_seq (es_set (ev_loc (ev_cb q_lstOf (ea_cons ev_var ea_nil))))
      (es_seq (es_for (ei_enT ev_var) (eg_tup (egs_cons (eg_name (vs := [3, 4]) rfl) (egs_cons (eg_name (vs := [3, 4]) rfl) egs_nil)))
        (es_seq (es_if (et_or (et_t (ev_op q_eq ev_var ev_int)) (et_or (et_not (et_b (ev_call no_ds (ea_cons ev_var ea_nil)))) (et_t (ev_op q_in (ev_op q_ixT ev_var ev_int) ev_var))))
        (es_ret (ev_tup (ea_cons ev_var ea_nil)))
        es_next)
      (es_drop (ev_bm q_app ev_var (ea_cons (ev_op q_ixT ev_var ev_int) ea_nil)))))
      (es_ret (ev_tup ea_nil)))))
/-! ### table_fault -/
noncomputable def b_table_fault_1 : DnS :=
    (sIf (bNot (bT (dCall 3 F_is_row [] (aCons (dVar 5) (aCons (dVar 2) (aCons (dVar 3) aNil)))))) (sRet (dN fTup (aCons (dVar 4) aNil))) sNext)
noncomputable def d_table_fault : DnS :=
    (sSeq (sIf (bOr (bNot (bT (dN (f2 fIsi) (aCons (dVar 0) (aCons (dC (tyD "tuple")) aNil))))) (bT (dOp (fEq true) (dN (f1 fLen) (aCons (dVar 0) aNil)) (dVar 1)))) (sRet (dN fTup (aCons (dC .none) aNil))) sNext)
    (sSeq (sFor (iEnu true (dVar 0)) (gT 2 (gsCons (gN 4) (gsCons (gN 5) gsNil))) b_table_fault_1)
    (sRet (dN fTup aNil))))
noncomputable def F_table_fault : Fd := fun ws st => nox (fnD 6 d_table_fault ws st)
theorem ok_table_fault (T : Tx K mg ct) : FnOk P w K mg base CX0 3 T.f_table_fault T.d_table_fault ["value", "hosts", "guests", "most"] (spD ⟨K, ct, ce⟩ 4 F_table_fault) := by
  refine fnKD (k := 2) T.F_table_fault sc_table_fault rfl fun cdv A outer s H E hr => ⟨_, (pss_cons (ps_if (PW.pt (pw_or (pt_not (pt_val (pe_callB (call_isiK K) (by rfl) T.n_isinstance (by decide +kernel) (pa_cons (pv 0) (pa_cons (pe_bltn (v := .ty "tuple") (by rfl) T.n_tuple (by decide +kernel) rfl) pa_nil))))) (pw_or1 (pt_cmpR op_ne (pe_callB (call_lenQ K) (by rfl) T.n_len PySem.boot_len (pa_cons (pv 0) pa_nil)) (pv 1) (nomark _)))))
        (pss_one (ps_ret (pe_tup (pa_cons pe_non pa_nil))))
        pss_nil)
      (pss_cons (ps_for PassesOwn.never rfl (pi_enTK K rfl T.n_enumerate (pv 0)) (pg_tupK K rfl (pgs_cons (pg_name (i := 4) sc_table_fault.nd rfl (Or.inl rfl)) (pgs_cons (pg_name (i := 5) sc_table_fault.nd rfl (Or.inl rfl)) pgs_nil)))
        (pss_one (ps_if (pt_not (pt_val (pe_call (ok_is_row (ce := ce) T) (hr.mono (by decide)) rfl T.v_is_row T.k_is_row T.b_is_row .nil pass0 (pa_cons (pv 5) (pa_cons (pv 2) (pa_cons (pv 3) pa_nil))))))
        (pss_one (ps_ret (pe_tup (pa_cons (pv 4) pa_nil))))
        pss_nil)))
      (pss_one (ps_ret (pe_tup pa_nil))))), ?_⟩
  exact (es_seq (es_if (et_or (et_not (et_b (ev_cb (q_isi T.kt) (ea_cons ev_var (ea_cons (ev_c fun _ => .ty _) ea_nil))))) (et_t (ev_op q_ne (ev_cb q_len (ea_cons ev_var ea_nil)) ev_var)))
        (es_ret (ev_tup (ea_cons ev_non ea_nil)))
        es_next)
      (es_seq (es_for (ei_enT ev_var) (eg_tup (egs_cons (eg_name (vs := [4, 5]) rfl) (egs_cons (eg_name (vs := [4, 5]) rfl) egs_nil)))
        (es_if (et_not (et_b (ev_call no_ds (ea_cons ev_var (ea_cons ev_var (ea_cons ev_var ea_nil))))))
        (es_ret (ev_tup (ea_cons ev_var ea_nil)))
        es_next))
      (es_ret (ev_tup ea_nil))))
/-! ### reasons -/
noncomputable def c_reasons_1 : Dn :=
    (dLc (iZipS (dVar 1)) (gN 4) (fun _ st => .ok true st) (dN (f1 fSumT) (aCons (dVar 4) aNil)) [4])
noncomputable def c_reasons_2 : Dn :=
    (dLc (iZip (aCons (dProp 0 ns_Fair F_Fair_hosts (dVar 0)) (aCons (dVar 1) aNil))) (gT 2 (gsCons (gT 2 (gsCons (gN 5) (gsCons (gN 6) gsNil))) (gsCons (gN 7) gsNil))) (fun _ st => .ok true st) (dN fTup (aCons (dN fTup (aCons (dC (.str "host")) (aCons (dVar 5) aNil))) (aCons (dCall 2 F_ceiling [] (aCons (dN (f1 fSumT) (aCons (dVar 7) aNil)) (aCons (dVar 6) aNil))) aNil))) [7, 5, 6])
noncomputable def c_reasons_3 : Dn :=
    (dLc (iZip (aCons (dProp 0 ns_Fair F_Fair_guests (dVar 0)) (aCons (dVar 2) aNil))) (gT 2 (gsCons (gT 2 (gsCons (gN 5) (gsCons (gN 6) gsNil))) (gsCons (gN 8) gsNil))) (fun _ st => .ok true st) (dN fTup (aCons (dN fTup (aCons (dC (.str "guest")) (aCons (dVar 5) aNil))) (aCons (dCall 2 F_ceiling [] (aCons (dVar 8) (aCons (dVar 6) aNil))) aNil))) [8, 5, 6])
noncomputable def d_reasons : DnS :=
    (sSeq (sSet 2 c_reasons_1)
    (sSeq (sSet 3 (dLoc c_reasons_2))
    (sSeq (sDrop (dM isLst (fun w ws st => fChg (gExt st) w ws st) (dVar 3) (aCons c_reasons_3 aNil)))
    (sSeq (sIf (bT (dOp (fIs true) (dProp 0 ns_Fair F_Fair_tables (dVar 0)) (dC .none))) (sDrop (dM isLst (fChg gApp) (dVar 3) (aCons (dN fTup (aCons (dN fTup (aCons (dC (.str "tables")) aNil)) (aCons (dCall 2 F_ceiling [] (aCons (dN (f1 fSum) (aCons (dVar 2) aNil)) (aCons (dProp 0 ns_Fair F_Fair_tables (dVar 0)) aNil))) aNil))) aNil))) sNext)
    (sRet (dVar 3))))))
noncomputable def F_reasons : Fd := fun ws st => nox (fnD 9 d_reasons ws st)
theorem ok_reasons (T : Tx K mg ct) : FnOk P w K mg base CX0 3 T.f_reasons T.d_reasons ["fair", "meetings"] (spD ⟨K, ct, ce⟩ 2 F_reasons) := by
  refine fnK (k := 2) T.F_reasons sc_reasons rfl fun cdv A outer s H E hr => ⟨_, (pss_cons (ps_setLc (i := 2) (own := [("column", 4)]) (g := gName 4) (tt := tYes) rfl sc_reasons.nd rfl rfl (sw_true rfl rfl rfl (by decide +kernel)) (pi_zipSMK K (by exact True.intro) rfl T.n_zip (pv 1)) (blkOk_by (own := [("column", 4)]) (N := ["fair", "meetings", "columns", "pairs", "column", "name", "bound", "row", "many"]) (sc := defScope s_reasons) (by decide +kernel)) (fun _ _ _ _ _ => (pg_name (i := 4) sc_reasons.nd rfl (Or.inl rfl))) (fun _ _ _ _ _ => pts_nil) (fun _ _ _ _ _ => (pe_callB (cr_sumTK K rfl) (by rfl) T.n_sum (by decide +kernel) (pa_cons (pv 4) pa_nil))))
      (pss_cons (ps_setLc (i := 3) (own := [("row", 7), ("name", 5), ("bound", 6)]) (g := gTup K 2 (gCons (gTup K 2 (gCons (gName 5) (gCons (gName 6) gNil))) (gCons (gName 7) gNil))) (tt := tYes) rfl sc_reasons.nd rfl rfl (sw_true rfl rfl rfl (by decide +kernel)) (pi_zipMK K (by exact True.intro) rfl T.n_zip (pa_cons (pe_prop (pv 0) T.cl_Fair.cl T.p_Fair_hosts (ok_Fair_hosts (ce := ce) T) (hr.mono (by decide)) T.b_Fair_hosts .nil pass0 rfl) (pa_cons (pv 1) pa_nil))) (blkOk_by (own := [("row", 7), ("name", 5), ("bound", 6)]) (N := ["fair", "meetings", "columns", "pairs", "column", "name", "bound", "row", "many"]) (sc := defScope s_reasons) (by decide +kernel)) (fun _ _ _ _ _ => (pg_tupK K rfl (pgs_cons (pg_tupK K rfl (pgs_cons (pg_name (i := 5) sc_reasons.nd rfl (Or.inl rfl)) (pgs_cons (pg_name (i := 6) sc_reasons.nd rfl (Or.inl rfl)) pgs_nil))) (pgs_cons (pg_name (i := 7) sc_reasons.nd rfl (Or.inl rfl)) pgs_nil)))) (fun _ _ _ _ _ => pts_nil) (fun _ _ _ _ _ => (pe_tup (pa_cons (pe_tup (pa_cons pe_str (pa_cons (pv 5) pa_nil))) (pa_cons (pe_call (ok_ceiling (ce := ce) T) (hr.mono (by decide)) rfl T.v_ceiling T.k_ceiling T.b_ceiling .nil pass0 (pa_cons (pe_callB (cr_sumTK K rfl) (by rfl) T.n_sum (by decide +kernel) (pa_cons (pv 7) pa_nil)) (pa_cons (pv 6) pa_nil))) pa_nil)))))
      (pss_cons (ps_expr (pe_bmN K PySem.F.plainAttrs_list PySem.F.slot_list_extend PySem.F.type_list_extend mt_extend (pv 3) (pa_cons (pe_lc (own := [("many", 8), ("name", 5), ("bound", 6)]) (g := gTup K 2 (gCons (gTup K 2 (gCons (gName 5) (gCons (gName 6) gNil))) (gCons (gName 8) gNil))) (tt := tYes) rfl sc_reasons.nd (pi_zipMK K (by exact True.intro) rfl T.n_zip (pa_cons (pe_prop (pv 0) T.cl_Fair.cl T.p_Fair_guests (ok_Fair_guests (ce := ce) T) (hr.mono (by decide)) T.b_Fair_guests .nil pass0 rfl) (pa_cons (pv 2) pa_nil))) (blkOk_by (own := [("many", 8), ("name", 5), ("bound", 6)]) (N := ["fair", "meetings", "columns", "pairs", "column", "name", "bound", "row", "many"]) (sc := defScope s_reasons) (by decide +kernel)) (fun _ _ _ _ _ => (pg_tupK K rfl (pgs_cons (pg_tupK K rfl (pgs_cons (pg_name (i := 5) sc_reasons.nd rfl (Or.inl rfl)) (pgs_cons (pg_name (i := 6) sc_reasons.nd rfl (Or.inl rfl)) pgs_nil))) (pgs_cons (pg_name (i := 8) sc_reasons.nd rfl (Or.inl rfl)) pgs_nil)))) (fun _ _ _ _ _ => pts_nil) (fun _ _ _ _ _ => (pe_tup (pa_cons (pe_tup (pa_cons pe_str (pa_cons (pv 5) pa_nil))) (pa_cons (pe_call (ok_ceiling (ce := ce) T) (hr.mono (by decide)) rfl T.v_ceiling T.k_ceiling T.b_ceiling .nil pass0 (pa_cons (pv 8) (pa_cons (pv 6) pa_nil))) pa_nil))))) pa_nil)))
      (pss_cons (ps_if (pt_cmpR op_notN (pe_prop (pv 0) T.cl_Fair.cl T.p_Fair_tables (ok_Fair_tables (ce := ce) T) (hr.mono (by decide)) T.b_Fair_tables .nil pass0 rfl) pe_non (nomark _))
        (pss_one (ps_expr (pe_bmN K PySem.F.plainAttrs_list PySem.F.slot_list_append PySem.F.type_list_append mt_append (pv 3) (pa_cons (pe_tup (pa_cons (pe_tup (pa_cons pe_str pa_nil)) (pa_cons (pe_call (ok_ceiling (ce := ce) T) (hr.mono (by decide)) rfl T.v_ceiling T.k_ceiling T.b_ceiling .nil pass0 (pa_cons (pe_callB (cr_sumK K rfl) (by rfl) T.n_sum (by decide +kernel) (pa_cons (pv 2) pa_nil)) (pa_cons (pe_prop (pv 0) T.cl_Fair.cl T.p_Fair_tables (ok_Fair_tables (ce := ce) T) (hr.mono (by decide)) T.b_Fair_tables .nil pass0 rfl) pa_nil))) pa_nil))) pa_nil))))
        pss_nil)
      (pss_one (ps_ret (pv 3))))))), ?_⟩
  exact (es_seq (es_set (ev_lc (ei_zipS ev_var) (eg_name (vs := [4]) rfl) et_yes (ev_cb q_sumT (ea_cons ev_var ea_nil))))
      (es_seq (es_set (ev_loc (ev_lc (ei_zip (ea_cons (ev_prop T.ct_Fair ev_var) (ea_cons ev_var ea_nil))) (eg_tup (egs_cons (eg_tup (egs_cons (eg_name (vs := [7, 5, 6]) rfl) (egs_cons (eg_name (vs := [7, 5, 6]) rfl) egs_nil))) (egs_cons (eg_name (vs := [7, 5, 6]) rfl) egs_nil))) et_yes (ev_tup (ea_cons (ev_tup (ea_cons ev_str (ea_cons ev_var ea_nil))) (ea_cons (ev_call no_ds (ea_cons (ev_cb q_sumT (ea_cons ev_var ea_nil)) (ea_cons ev_var ea_nil))) ea_nil))))))
      (es_seq (es_drop (ev_bm q_ext ev_var (ea_cons (ev_lc (ei_zip (ea_cons (ev_prop T.ct_Fair ev_var) (ea_cons ev_var ea_nil))) (eg_tup (egs_cons (eg_tup (egs_cons (eg_name (vs := [8, 5, 6]) rfl) (egs_cons (eg_name (vs := [8, 5, 6]) rfl) egs_nil))) (egs_cons (eg_name (vs := [8, 5, 6]) rfl) egs_nil))) et_yes (ev_tup (ea_cons (ev_tup (ea_cons ev_str (ea_cons ev_var ea_nil))) (ea_cons (ev_call no_ds (ea_cons ev_var (ea_cons ev_var ea_nil))) ea_nil)))) ea_nil)))
      (es_seq (es_if (et_t (ev_op q_notN (ev_prop T.ct_Fair ev_var) ev_non))
        (es_drop (ev_bm q_app ev_var (ea_cons (ev_tup (ea_cons (ev_tup (ea_cons ev_str ea_nil)) (ea_cons (ev_call no_ds (ea_cons (ev_cb q_sum (ea_cons ev_var ea_nil)) (ea_cons (ev_prop T.ct_Fair ev_var) ea_nil))) ea_nil))) ea_nil)))
        es_next)
      (es_ret ev_var)))))
/-! ### _law_words -/
noncomputable def c_l_words_1 : Dn :=
    (dLc (iR r1S (aCons (dVar 1) aNil)) (gN 6) (fun _ st => .ok true st) (dOp fAddS (dC (.str "q")) (dN (f1 fStrI) (aCons (dVar 6) aNil))) [6])
noncomputable def c_l_words_2 : Dn :=
    (dLc (iSeq srcW c_l_words_1) (gN 5) (bT (dOp (fIn true) (dVar 5) (dVar 2))) (dVar 5) [5])
noncomputable def b_l_words_3 : DnS :=
    (sSeq (sSet 4 (dCall 1 F_l_word [] (aCons (dVar 0) aNil)))
    (sSeq (sIf (bT (dOp (fIn false) (dVar 4) (dVar 2))) (sSet 4 (dOp fIxL c_l_words_2 (dC (.int 0)))) sNext)
    (sDrop (dM isLst (fChg gApp) (dVar 2) (aCons (dVar 4) aNil)))))
noncomputable def d_l_words : DnS :=
    (sSeq (sSet 2 (dLoc (dN fLst aNil)))
    (sSeq (sFor (iR r1S (aCons (dVar 1) aNil)) (gN 3) b_l_words_3)
    (sRet (dVar 2))))
noncomputable def F_l_words : Fd := fun ws st => nox (fnD 7 d_l_words ws st)
theorem ok_l_words (T : Tx K mg ct) : FnOk P w K mg base CX0 3 T.f_l_words T.d_l_words ["_law_jug_here", "_law_many"] (spD ⟨K, ct, ce⟩ 2 F_l_words) := by
  refine fnK (k := 2) T.F_l_words sc_l_words rfl fun cdv A outer s H E hr => ⟨_, (pss_cons (ps_set (i := 2) sc_l_words.nd rfl (Or.inr rfl) (pe_lst pa_nil))
      (pss_cons (ps_for PassesOwn.never rfl (pi_range1 rfl T.n_range (pa_cons (pv 1) pa_nil)) (pg_name (i := 3) sc_l_words.nd rfl (Or.inl rfl))
        (pss_cons (ps_set (i := 4) sc_l_words.nd rfl (Or.inl rfl) (pe_call (ok_l_word (ce := ce) T) (hr.mono (by decide)) rfl T.v_l_word T.k_l_word T.b_l_word .nil pass0 (pa_cons (pv 0) pa_nil)))
      (pss_cons (ps_if (pt_cmpR (op_inK K) (pv 4) (pv 2) rfl)
        (pss_one (ps_set (i := 4) sc_l_words.nd rfl (Or.inl rfl) (pe_ix (ix_listK K) (pe_lc (own := [("_law_each", 5)]) (g := gName 5) rfl sc_l_words.nd (pi_listK K (pe_lc (own := [("_law_number_here", 6)]) (g := gName 6) (tt := tYes) rfl sc_l_words.nd (pi_range1 rfl T.n_range (pa_cons (pv 1) pa_nil)) (blkOk_by (own := [("_law_number_here", 6)]) (N := ["_law_jug_here", "_law_many", "_law_found", "_law_at", "_law_word_here", "_law_each", "_law_number_here"]) (sc := defScope s_l_words) (by decide +kernel)) (fun _ _ _ _ _ => (pg_name (i := 6) sc_l_words.nd rfl (Or.inl rfl))) (fun _ _ _ _ _ => pts_nil) (fun _ _ _ _ _ => (pe_op op_add_str pe_str (pe_callTy call_str_int (by rfl) T.n_str (by decide +kernel) (pa_cons (pv 6) pa_nil)))))) (blkOk_by (own := [("_law_each", 5)]) (N := ["_law_jug_here", "_law_many", "_law_found", "_law_at", "_law_word_here", "_law_each", "_law_number_here"]) (sc := defScope s_l_words) (by decide +kernel)) (fun _ _ _ _ _ => (pg_name (i := 5) sc_l_words.nd rfl (Or.inl rfl))) (fun _ _ _ _ _ => (pts_one (pt_cmpR (op_notInK K) (pv 5) (pv 2) rfl))) (fun _ _ _ _ _ => (pv 5))) pe_int (fun _ _ => rfl))))
        pss_nil)
      (pss_one (ps_expr (pe_bmN K PySem.F.plainAttrs_list PySem.F.slot_list_append PySem.F.type_list_append mt_append (pv 2) (pa_cons (pv 4) pa_nil)))))))
      (pss_one (ps_ret (pv 2))))), ?_⟩
  exact (es_seq (es_set (ev_loc (ev_lst ea_nil)))
      (es_seq (es_for (ei_r1 (ea_cons ev_var ea_nil)) (eg_name (vs := [3]) rfl)
        (es_seq (es_set (ev_call no_ds (ea_cons ev_var ea_nil)))
      (es_seq (es_if (et_t (ev_op q_in ev_var ev_var))
        (es_set (ev_op q_ixL (ev_lc (ei_list (ev_lc (ei_r1 (ea_cons ev_var ea_nil)) (eg_name (vs := [6]) rfl) et_yes (ev_op q_addS ev_str (ev_cb q_strI (ea_cons ev_var ea_nil))))) (eg_name (vs := [5]) rfl) (et_t (ev_op q_in ev_var ev_var)) ev_var) ev_int))
        es_next)
      (es_drop (ev_bm q_app ev_var (ea_cons ev_var ea_nil))))))
      (es_ret ev_var)))
/-! ### _law_grid -/
noncomputable def c_l_grid_1 : Dn :=
    (dLc (iSeq srcT (dOp fIxT (dVar 1) (dC (.int 1)))) (gN 4) (fun _ st => .ok true st) (dCall 2 F_l_number [] (aCons (dVar 0) (aCons (dVar 2) aNil))) [4])
noncomputable def c_l_grid_2 : Dn :=
    (dLc (iSeq srcT (dOp fIxT (dVar 1) (dC (.int 0)))) (gN 3) (fun _ st => .ok true st) (dN (f1 fTupOf) (aCons c_l_grid_1 aNil)) [3])
noncomputable def d_l_grid : DnS :=
    (sRet (dN (f1 fTupOf) (aCons c_l_grid_2 aNil)))
noncomputable def F_l_grid : Fd := fun ws st => nox (fnD 5 d_l_grid ws st)
theorem ok_l_grid (T : Tx K mg ct) : FnOk P w K mg base CX0 3 T.f_l_grid T.d_l_grid ["_law_jug_here", "_law_parts_here", "_law_way"] (spD ⟨K, ct, ce⟩ 3 F_l_grid) := by
  refine fnK (k := 2) T.F_l_grid sc_l_grid rfl fun cdv A outer s H E hr => ⟨_, (pss_one (ps_ret (pe_callTy (call_tupOf K) (by rfl) T.n_tuple (by decide +kernel) (pa_cons (pe_lc (own := [("_law_two", 3)]) (g := gName 3) (tt := tYes) rfl sc_l_grid.nd (pi_tupK K (pe_ix (ix_tupK K) (pv 1) pe_int (fun _ _ => rfl))) (blkOk_by (own := [("_law_two", 3)]) (N := ["_law_jug_here", "_law_parts_here", "_law_way", "_law_two", "_law_one"]) (sc := defScope s_l_grid) (by decide +kernel)) (fun _ _ _ _ _ => (pg_name (i := 3) sc_l_grid.nd rfl (Or.inl rfl))) (fun _ _ _ _ _ => pts_nil) (fun _ _ _ _ _ => (pe_callTy (call_tupOf K) (by rfl) T.n_tuple (by decide +kernel) (pa_cons (pe_lc (own := [("_law_one", 4)]) (g := gName 4) (tt := tYes) rfl sc_l_grid.nd (pi_tupK K (pe_ix (ix_tupK K) (pv 1) pe_int (fun _ _ => rfl))) (blkOk_by (own := [("_law_one", 4)]) (N := ["_law_jug_here", "_law_parts_here", "_law_way", "_law_two", "_law_one"]) (by rfl)) (fun _ _ _ _ _ => (pg_name (i := 4) sc_l_grid.nd rfl (Or.inl rfl))) (fun _ _ _ _ _ => pts_nil) (fun _ _ _ _ _ => (pe_call (ok_l_number (ce := ce) T) (hr.mono (by decide)) rfl T.v_l_number T.k_l_number T.b_l_number .nil pass0 (pa_cons (pv 0) (pa_cons (pv 2) pa_nil))))) pa_nil)))) pa_nil)))), ?_⟩
  exact (es_ret (ev_cb q_tupOf (ea_cons (ev_lc (ei_tup (ev_op q_ixT ev_var ev_int)) (eg_name (vs := [3]) rfl) et_yes (ev_cb q_tupOf (ea_cons (ev_lc (ei_tup (ev_op q_ixT ev_var ev_int)) (eg_name (vs := [4]) rfl) et_yes (ev_call no_ds (ea_cons ev_var (ea_cons ev_var ea_nil)))) ea_nil))) ea_nil)))
/-! ### _law_due -/
noncomputable def c_l_due_1 : Dn :=
    (dLc (iSeq srcW (dCall 2 F_l_shares [] (aCons (dVar 0) (aCons (dVar 1) aNil)))) (gN 2) (fun _ st => .ok true st) (dOp fIxT (dVar 2) (dC (.int 0))) [2])
noncomputable def d_l_due : DnS :=
    (sRet (dN (f1 fMax) (aCons c_l_due_1 aNil)))
noncomputable def F_l_due : Fd := fun ws st => nox (fnD 3 d_l_due ws st)
theorem ok_l_due (T : Tx K mg ct) : FnOk P w K mg base CX0 3 T.f_l_due T.d_l_due ["_law_parts_here", "_law_grid_here"] (spD ⟨K, ct, ce⟩ 2 F_l_due) := by
  refine fnK (k := 2) T.F_l_due sc_l_due rfl fun cdv A outer s H E hr => ⟨_, (pss_one (ps_ret (pe_callB (cr_maxK K rfl) (by rfl) T.n_max (by decide +kernel) (pa_cons (pe_lc (own := [("_law_share", 2)]) (g := gName 2) (tt := tYes) rfl sc_l_due.nd (pi_listK K (pe_call (ok_l_shares (ce := ce) T) (hr.mono (by decide)) rfl T.v_l_shares T.k_l_shares T.b_l_shares .nil pass0 (pa_cons (pv 0) (pa_cons (pv 1) pa_nil)))) (blkOk_by (own := [("_law_share", 2)]) (N := ["_law_parts_here", "_law_grid_here", "_law_share"]) (sc := defScope s_l_due) (by decide +kernel)) (fun _ _ _ _ _ => (pg_name (i := 2) sc_l_due.nd rfl (Or.inl rfl))) (fun _ _ _ _ _ => pts_nil) (fun _ _ _ _ _ => (pe_ix (ix_tupK K) (pv 2) pe_int (fun _ _ => rfl)))) pa_nil)))), ?_⟩
  exact (es_ret (ev_cb q_max (ea_cons (ev_lc (ei_list (ev_call no_ds (ea_cons ev_var (ea_cons ev_var ea_nil)))) (eg_name (vs := [2]) rfl) et_yes (ev_op q_ixT ev_var ev_int)) ea_nil)))
/-! ### Fair.__init__ -/
noncomputable def d_Fairu_initu : DnS :=
    (sSeq (sSet 4 (dCall 2 F_fault [] (aCons (dVar 1) (aCons (dN fTup aNil) aNil))))
    (sSeq (sIf (bTru (dVar 4)) sNo sNext)
    (sSeq (sSet 4 (dCall 2 F_fault [] (aCons (dVar 2) (aCons (dCall 1 F_names_of [] (aCons (dVar 1) aNil)) aNil))))
    (sSeq (sIf (bTru (dVar 4)) sNo sNext)
    (sSeq (sIf (bAnd (bT (dOp (fIs true) (dVar 3) (dC .none))) (bNot (bT (dCall 3 F_is_integer [] (aCons (dVar 3) (aCons (dC (.int 1)) (aCons (dC (.int 12)) aNil))))))) sNo sNext)
    (sSeq (sFldD 0 "_hosts" (dVar 0) (dVar 1))
    (sSeq (sFldD 0 "_guests" (dVar 0) (dVar 2))
    (sSeq (sFldD 0 "_tables" (dVar 0) (dVar 3))
    (sSeq (sFldD 0 "_names" (dVar 0) (dOp fCatT (dCall 1 F_names_of [] (aCons (dVar 1) aNil)) (dCall 1 F_names_of [] (aCons (dVar 2) aNil))))
    (sFldD 0 "_text" (dVar 0) (dCall 3 F_text_of [] (aCons (dVar 1) (aCons (dVar 2) (aCons (dVar 3) aNil))))))))))))))
noncomputable def F_Fairu_initu : Fd := fun ws st => nox (fnD 5 d_Fairu_initu ws st)
theorem ok_Fairu_initu (T : Tx K mg ct) : FnOk P w K mg base CX0 4 T.f_Fairu_initu T.d_Fairu_initu ["self", "hosts", "guests", "tables"] (spD ⟨K, ct, ce⟩ 4 F_Fairu_initu) := by
  refine fnKD (k := 3) T.F_Fairu_initu sc_Fairu_initu rfl fun cdv A outer s H E hr => ⟨_, (pss_cons (ps_set (i := 4) sc_Fairu_initu.nd rfl (Or.inl rfl) (pe_call (ok_fault (ce := ce) T) (hr.mono (by decide)) rfl T.v_fault T.k_fault T.b_fault .nil pass0 (pa_cons (pv 1) (pa_cons (pe_tup pa_nil) pa_nil))))
      (pss_cons (ps_if (pt_truK K (pv 4) (by intro _; rfl))
        (pss_one ps_never)
        pss_nil)
      (pss_cons (ps_set (i := 4) sc_Fairu_initu.nd rfl (Or.inl rfl) (pe_call (ok_fault (ce := ce) T) (hr.mono (by decide)) rfl T.v_fault T.k_fault T.b_fault .nil pass0 (pa_cons (pv 2) (pa_cons (pe_call (ok_names_of (ce := ce) T) (hr.mono (by decide)) rfl T.v_names_of T.k_names_of T.b_names_of .nil pass0 (pa_cons (pv 1) pa_nil)) pa_nil))))
      (pss_cons (ps_if (pt_truK K (pv 4) (by intro _; rfl))
        (pss_one ps_never)
        pss_nil)
      (pss_cons (ps_if (PW.pt (pw_and (pt_cmpR op_notN (pv 3) pe_non (nomark _)) (pw_and1 (pt_not (pt_val (pe_call (ok_is_integer (ce := ce) T) (hr.mono (by decide)) rfl T.v_is_integer T.k_is_integer T.b_is_integer .nil pass0 (pa_cons (pv 3) (pa_cons pe_int (pa_cons (pe_glob (v := .int 12) rfl T.c_MOST_TABLES.choose_spec ⟨_, rfl⟩) pa_nil)))))))))
        (pss_one ps_never)
        pss_nil)
      (pss_cons (ps_fld (pv 0) (pv 1) rfl)
      (pss_cons (ps_fld (pv 0) (pv 2) rfl)
      (pss_cons (ps_fld (pv 0) (pv 3) rfl)
      (pss_cons (ps_fld (pv 0) (pe_op (op_catAK K) (pe_call (ok_names_of (ce := ce) T) (hr.mono (by decide)) rfl T.v_names_of T.k_names_of T.b_names_of .nil pass0 (pa_cons (pv 1) pa_nil)) (pe_call (ok_names_of (ce := ce) T) (hr.mono (by decide)) rfl T.v_names_of T.k_names_of T.b_names_of .nil pass0 (pa_cons (pv 2) pa_nil))) rfl)
      (pss_one (ps_fld (pv 0) (pe_call (ok_text_of (ce := ce) T) (hr.mono (by decide)) rfl T.v_text_of T.k_text_of T.b_text_of .nil pass0 (pa_cons (pv 1) (pa_cons (pv 2) (pa_cons (pv 3) pa_nil)))) rfl))))))))))), ?_⟩
  exact (es_seq (es_set (ev_call no_ds (ea_cons ev_var (ea_cons (ev_tup ea_nil) ea_nil))))
      (es_seq (es_if (et_truK ev_var)
        es_never
        es_next)
      (es_seq (es_set (ev_call no_ds (ea_cons ev_var (ea_cons (ev_call no_ds (ea_cons ev_var ea_nil)) ea_nil))))
      (es_seq (es_if (et_truK ev_var)
        es_never
        es_next)
      (es_seq (es_if (et_and (et_t (ev_op q_notN ev_var ev_non)) (et_not (et_b (ev_call no_ds (ea_cons ev_var (ea_cons ev_int (ea_cons ev_int ea_nil)))))))
        es_never
        es_next)
      (es_seq (es_fld T.ct_Fair T.cl_Fair.cl T.na_Fair_hosts ev_var ev_var)
      (es_seq (es_fld T.ct_Fair T.cl_Fair.cl T.na_Fair_guests ev_var ev_var)
      (es_seq (es_fld T.ct_Fair T.cl_Fair.cl T.na_Fair_tables ev_var ev_var)
      (es_seq (es_fld T.ct_Fair T.cl_Fair.cl T.na_Fair_names ev_var (ev_op q_catT (ev_call no_ds (ea_cons ev_var ea_nil)) (ev_call no_ds (ea_cons ev_var ea_nil))))
      (es_fld T.ct_Fair T.cl_Fair.cl T.na_Fair_text ev_var (ev_call no_ds (ea_cons ev_var (ea_cons ev_var (ea_cons ev_var ea_nil))))))))))))))
/-! ### _meetings_fault -/
noncomputable def d_meetings_fault : DnS :=
    (sRet (dCall 4 F_table_fault [] (aCons (dVar 1) (aCons (dN (f1 fLen) (aCons (dProp 0 ns_Fair F_Fair_hosts (dVar 0)) aNil)) (aCons (dN (f1 fLen) (aCons (dProp 0 ns_Fair F_Fair_guests (dVar 0)) aNil)) (aCons (dC (.int 1000000000000000000000000000000)) aNil))))))
noncomputable def F_meetings_fault : Fd := fun ws st => nox (fnD 2 d_meetings_fault ws st)
theorem ok_meetings_fault (T : Tx K mg ct) : FnOk P w K mg base CX0 4 T.f_meetings_fault T.d_meetings_fault ["fair", "value"] (spD ⟨K, ct, ce⟩ 2 F_meetings_fault) := by
  refine fnK (k := 3) T.F_meetings_fault sc_meetings_fault rfl fun cdv A outer s H E hr => ⟨_, (pss_one (ps_ret (pe_call (ok_table_fault (ce := ce) T) (hr.mono (by decide)) rfl T.v_table_fault T.k_table_fault T.b_table_fault .nil pass0 (pa_cons (pv 1) (pa_cons (pe_callB (call_lenQ K) (by rfl) T.n_len PySem.boot_len (pa_cons (pe_prop (pv 0) T.cl_Fair.cl T.p_Fair_hosts (ok_Fair_hosts (ce := ce) T) (hr.mono (by decide)) T.b_Fair_hosts .nil pass0 rfl) pa_nil)) (pa_cons (pe_callB (call_lenQ K) (by rfl) T.n_len PySem.boot_len (pa_cons (pe_prop (pv 0) T.cl_Fair.cl T.p_Fair_guests (ok_Fair_guests (ce := ce) T) (hr.mono (by decide)) T.b_Fair_guests .nil pass0 rfl) pa_nil)) (pa_cons (pe_glob (v := .int 1000000000000000000000000000000) rfl T.c_MOST_MEETINGS.choose_spec ⟨_, rfl⟩) pa_nil))))))), ?_⟩
  exact (es_ret (ev_call no_ds (ea_cons ev_var (ea_cons (ev_cb q_len (ea_cons (ev_prop T.ct_Fair ev_var) ea_nil)) (ea_cons (ev_cb q_len (ea_cons (ev_prop T.ct_Fair ev_var) ea_nil)) (ea_cons ev_int ea_nil))))))
/-! ### least_rounds -/
noncomputable def c_least_rounds_1 : Dn :=
    (dLc (iSeq srcW (dCall 2 F_reasons [] (aCons (dVar 0) (aCons (dVar 1) aNil)))) (gT 2 (gsCons (gN 2) (gsCons (gN 3) gsNil))) (fun _ st => .ok true st) (dVar 3) [2, 3])
noncomputable def d_least_rounds : DnS :=
    (sRet (dN (f1 fMax) (aCons c_least_rounds_1 aNil)))
noncomputable def F_least_rounds : Fd := fun ws st => nox (fnD 4 d_least_rounds ws st)
theorem ok_least_rounds (T : Tx K mg ct) : FnOk P w K mg base CX0 4 T.f_least_rounds T.d_least_rounds ["fair", "meetings"] (spD ⟨K, ct, ce⟩ 2 F_least_rounds) := by
  refine fnK (k := 3) T.F_least_rounds sc_least_rounds rfl fun cdv A outer s H E hr => ⟨_, (pss_one (ps_ret (pe_callB (cr_maxK K rfl) (by rfl) T.n_max (by decide +kernel) (pa_cons (pe_lc (own := [("_", 2), ("need", 3)]) (g := gTup K 2 (gCons (gName 2) (gCons (gName 3) gNil))) (tt := tYes) rfl sc_least_rounds.nd (pi_listK K (pe_call (ok_reasons (ce := ce) T) (hr.mono (by decide)) rfl T.v_reasons T.k_reasons T.b_reasons .nil pass0 (pa_cons (pv 0) (pa_cons (pv 1) pa_nil)))) (blkOk_by (own := [("_", 2), ("need", 3)]) (N := ["fair", "meetings", "_", "need"]) (sc := defScope s_least_rounds) (by decide +kernel)) (fun _ _ _ _ _ => (pg_tupK K rfl (pgs_cons (pg_name (i := 2) sc_least_rounds.nd rfl (Or.inl rfl)) (pgs_cons (pg_name (i := 3) sc_least_rounds.nd rfl (Or.inl rfl)) pgs_nil)))) (fun _ _ _ _ _ => pts_nil) (fun _ _ _ _ _ => (pv 3))) pa_nil)))), ?_⟩
  exact (es_ret (ev_cb q_max (ea_cons (ev_lc (ei_list (ev_call no_ds (ea_cons ev_var (ea_cons ev_var ea_nil)))) (eg_tup (egs_cons (eg_name (vs := [2, 3]) rfl) (egs_cons (eg_name (vs := [2, 3]) rfl) egs_nil))) et_yes ev_var) ea_nil)))
/-! ### _law_parts -/
noncomputable def c_l_parts_1 : Dn :=
    (dLc (iSeq srcW (dCall 2 F_l_words [] (aCons (dVar 0) (aCons (dOp fAdd (dVar 3) (dVar 4)) aNil)))) (gN 7) (fun _ st => .ok true st) (dN fTup (aCons (dVar 7) (aCons (dOp fAdd (dC (.int 1)) (dCall 2 F_l_pour [] (aCons (dVar 0) (aCons (dC (.int 4)) aNil)))) aNil))) [7])
noncomputable def d_l_parts : DnS :=
    (sSeq (sPar 3 4 (aCons (dOp fAdd (dC (.int 1)) (dCall 2 F_l_pour [] (aCons (dVar 0) (aCons (dVar 1) aNil)))) (aCons (dOp fAdd (dC (.int 1)) (dCall 2 F_l_pour [] (aCons (dVar 0) (aCons (dVar 2) aNil)))) aNil)))
    (sSeq (sSet 5 c_l_parts_1)
    (sSeq (sSet 6 (dIf (bT (dOp (fEq false) (dCall 2 F_l_pour [] (aCons (dVar 0) (aCons (dC (.int 3)) aNil))) (dC (.int 0)))) (dC .none) (dOp fAdd (dC (.int 1)) (dCall 2 F_l_pour [] (aCons (dVar 0) (aCons (dC (.int 12)) aNil))))))
    (sRet (dN fTup (aCons (dN (f1 fTupOf) (aCons (dSl fSlL (dVar 5) oNone (oSome (dVar 3))) aNil)) (aCons (dN (f1 fTupOf) (aCons (dSl fSlL (dVar 5) (oSome (dVar 3)) oNone) aNil)) (aCons (dVar 6) aNil))))))))
noncomputable def F_l_parts : Fd := fun ws st => nox (fnD 8 d_l_parts ws st)
theorem ok_l_parts (T : Tx K mg ct) : FnOk P w K mg base CX0 4 T.f_l_parts T.d_l_parts ["_law_jug_here", "_law_most_here", "_law_most_there"] (spD ⟨K, ct, ce⟩ 3 F_l_parts) := by
  refine fnK (k := 3) T.F_l_parts sc_l_parts rfl fun cdv A outer s H E hr => ⟨_, (pss_cons (ps_par (i := 3) (j := 4) (by rfl) sc_l_parts.nd rfl rfl (by decide) rfl rfl (pa_cons (pe_op op_add pe_int (pe_call (ok_l_pour (ce := ce) T) (hr.mono (by decide)) rfl T.v_l_pour T.k_l_pour T.b_l_pour .nil pass0 (pa_cons (pv 0) (pa_cons (pv 1) pa_nil)))) (pa_cons (pe_op op_add pe_int (pe_call (ok_l_pour (ce := ce) T) (hr.mono (by decide)) rfl T.v_l_pour T.k_l_pour T.b_l_pour .nil pass0 (pa_cons (pv 0) (pa_cons (pv 2) pa_nil)))) pa_nil)) (by rfl))
      (pss_cons (ps_setLc (i := 5) (own := [("_law_word_here", 7)]) (g := gName 7) (tt := tYes) rfl sc_l_parts.nd rfl rfl (sw_true rfl rfl rfl (by decide +kernel)) (pi_listK K (pe_call (ok_l_words (ce := ce) T) (hr.mono (by decide)) rfl T.v_l_words T.k_l_words T.b_l_words .nil pass0 (pa_cons (pv 0) (pa_cons (pe_op op_add (pv 3) (pv 4)) pa_nil)))) (blkOk_by (own := [("_law_word_here", 7)]) (N := ["_law_jug_here", "_law_most_here", "_law_most_there", "_law_here", "_law_there", "_law_pairs", "_law_desks", "_law_word_here"]) (sc := defScope s_l_parts) (by decide +kernel)) (fun _ _ _ _ _ => (pg_name (i := 7) sc_l_parts.nd rfl (Or.inl rfl))) (fun _ _ _ _ _ => pts_nil) (fun _ _ _ _ _ => (pe_tup (pa_cons (pv 7) (pa_cons (pe_op op_add pe_int (pe_call (ok_l_pour (ce := ce) T) (hr.mono (by decide)) rfl T.v_l_pour T.k_l_pour T.b_l_pour .nil pass0 (pa_cons (pv 0) (pa_cons pe_int pa_nil)))) pa_nil)))))
      (pss_cons (ps_set (i := 6) sc_l_parts.nd rfl (Or.inl rfl) (pe_ifExp (pt_cmpR op_eq (pe_call (ok_l_pour (ce := ce) T) (hr.mono (by decide)) rfl T.v_l_pour T.k_l_pour T.b_l_pour .nil pass0 (pa_cons (pv 0) (pa_cons pe_int pa_nil))) pe_int (nomark _)) pe_non (pe_op op_add pe_int (pe_call (ok_l_pour (ce := ce) T) (hr.mono (by decide)) rfl T.v_l_pour T.k_l_pour T.b_l_pour .nil pass0 (pa_cons (pv 0) (pa_cons pe_int pa_nil))))))
      (pss_one (ps_ret (pe_tup (pa_cons (pe_callTy (call_tupOf K) (by rfl) T.n_tuple (by decide +kernel) (pa_cons (pe_slice (sl_listK K) (pv 5) po_none (po_some (pv 3))) pa_nil)) (pa_cons (pe_callTy (call_tupOf K) (by rfl) T.n_tuple (by decide +kernel) (pa_cons (pe_slice (sl_listK K) (pv 5) (po_some (pv 3)) po_none) pa_nil)) (pa_cons (pv 6) pa_nil))))))))), ?_⟩
  exact (es_seq (es_par (ea_cons (ev_op q_add ev_int (ev_call no_ds (ea_cons ev_var (ea_cons ev_var ea_nil)))) (ea_cons (ev_op q_add ev_int (ev_call no_ds (ea_cons ev_var (ea_cons ev_var ea_nil)))) ea_nil)))
      (es_seq (es_set (ev_lc (ei_list (ev_call no_ds (ea_cons ev_var (ea_cons (ev_op q_add ev_var ev_var) ea_nil)))) (eg_name (vs := [7]) rfl) et_yes (ev_tup (ea_cons ev_var (ea_cons (ev_op q_add ev_int (ev_call no_ds (ea_cons ev_var (ea_cons ev_int ea_nil)))) ea_nil)))))
      (es_seq (es_set (ev_if (et_t (ev_op q_eq (ev_call no_ds (ea_cons ev_var (ea_cons ev_int ea_nil))) ev_int)) ev_non (ev_op q_add ev_int (ev_call no_ds (ea_cons ev_var (ea_cons ev_int ea_nil))))))
      (es_ret (ev_tup (ea_cons (ev_cb q_tupOf (ea_cons (ev_sl q_slL ev_var eo_none (eo_some ev_var)) ea_nil)) (ea_cons (ev_cb q_tupOf (ea_cons (ev_sl q_slL ev_var (eo_some ev_var) eo_none) ea_nil)) (ea_cons ev_var ea_nil))))))))
/-! ### check_meetings -/
noncomputable def d_check_meetings : DnS :=
    (sSeq (sSet 2 (dCall 2 F_meetings_fault [] (aCons (dVar 0) (aCons (dVar 1) aNil))))
    (sIf (bTru (dVar 2)) sNo sNext))
noncomputable def F_check_meetings : Fd := fun ws st => nox (fnD 3 d_check_meetings ws st)
theorem ok_check_meetings (T : Tx K mg ct) : FnOk P w K mg base CX0 5 T.f_check_meetings T.d_check_meetings ["fair", "meetings"] (spD ⟨K, ct, ce⟩ 2 F_check_meetings) := by
  refine fnK (k := 4) T.F_check_meetings sc_check_meetings rfl fun cdv A outer s H E hr => ⟨_, (pss_cons (ps_set (i := 2) sc_check_meetings.nd rfl (Or.inl rfl) (pe_call (ok_meetings_fault (ce := ce) T) (hr.mono (by decide)) rfl T.v_meetings_fault T.k_meetings_fault T.b_meetings_fault .nil pass0 (pa_cons (pv 0) (pa_cons (pv 1) pa_nil))))
      (pss_one (ps_if (pt_truK K (pv 2) (by intro _; rfl))
        (pss_one ps_never)
        pss_nil))), ?_⟩
  exact (es_seq (es_set (ev_call no_ds (ea_cons ev_var (ea_cons ev_var ea_nil))))
      (es_if (et_truK ev_var)
        es_never
        es_next))
/-! ### check_planned -/
noncomputable def d_check_planned : DnS :=
    (sSeq (sDrop (dCall 1 F_check_fair [] (aCons (dVar 0) aNil)))
    (sSeq (sDrop (dCall 2 F_check_meetings [] (aCons (dVar 0) (aCons (dVar 1) aNil))))
    (sDrop (dCall 1 F_check_number [] (aCons (dVar 2) aNil)))))
noncomputable def F_check_planned : Fd := fun ws st => nox (fnD 3 d_check_planned ws st)
theorem ok_check_planned (T : Tx K mg ct) : FnOk P w K mg base CX0 6 T.f_check_planned T.d_check_planned ["fair", "meetings", "rounds"] (spD ⟨K, ct, ce⟩ 3 F_check_planned) := by
  refine fnK (k := 5) T.F_check_planned sc_check_planned rfl fun cdv A outer s H E hr => ⟨_, (pss_cons (ps_expr (pe_call (ok_check_fair (ce := ce) T) (hr.mono (by decide)) rfl T.v_check_fair T.k_check_fair T.b_check_fair .nil pass0 (pa_cons (pv 0) pa_nil)))
      (pss_cons (ps_expr (pe_call (ok_check_meetings (ce := ce) T) (hr.mono (by decide)) rfl T.v_check_meetings T.k_check_meetings T.b_check_meetings .nil pass0 (pa_cons (pv 0) (pa_cons (pv 1) pa_nil))))
      (pss_one (ps_expr (pe_call (ok_check_number (ce := ce) T) (hr.mono (by decide)) rfl T.v_check_number T.k_check_number T.b_check_number .nil pass0 (pa_cons (pv 2) pa_nil)))))), ?_⟩
  exact (es_seq (es_drop (ev_call no_ds (ea_cons ev_var ea_nil)))
      (es_seq (es_drop (ev_call no_ds (ea_cons ev_var (ea_cons ev_var ea_nil))))
      (es_drop (ev_call no_ds (ea_cons ev_var ea_nil)))))
/-! ### load -/
noncomputable def d_load : DnS :=
    (sSeq (sDrop (dCall 1 F_check_fair [] (aCons (dVar 0) aNil)))
    (sSeq (sDrop (dCall 2 F_check_meetings [] (aCons (dVar 0) (aCons (dVar 1) aNil))))
    (sRet (dCall 2 F_least_rounds [] (aCons (dVar 0) (aCons (dVar 1) aNil))))))
noncomputable def F_load : Fd := fun ws st => nox (fnD 2 d_load ws st)
theorem ok_load (T : Tx K mg ct) : FnOk P w K mg base CX0 6 T.f_load T.d_load ["fair", "meetings"] (spD ⟨K, ct, ce⟩ 2 F_load) := by
  refine fnK (k := 5) T.F_load sc_load rfl fun cdv A outer s H E hr => ⟨_, (pss_cons (ps_expr (pe_call (ok_check_fair (ce := ce) T) (hr.mono (by decide)) rfl T.v_check_fair T.k_check_fair T.b_check_fair .nil pass0 (pa_cons (pv 0) pa_nil)))
      (pss_cons (ps_expr (pe_call (ok_check_meetings (ce := ce) T) (hr.mono (by decide)) rfl T.v_check_meetings T.k_check_meetings T.b_check_meetings .nil pass0 (pa_cons (pv 0) (pa_cons (pv 1) pa_nil))))
      (pss_one (ps_ret (pe_call (ok_least_rounds (ce := ce) T) (hr.mono (by decide)) rfl T.v_least_rounds T.k_least_rounds T.b_least_rounds .nil pass0 (pa_cons (pv 0) (pa_cons (pv 1) pa_nil))))))), ?_⟩
  exact (es_seq (es_drop (ev_call no_ds (ea_cons ev_var ea_nil)))
      (es_seq (es_drop (ev_call no_ds (ea_cons ev_var (ea_cons ev_var ea_nil))))
      (es_ret (ev_call no_ds (ea_cons ev_var (ea_cons ev_var ea_nil))))))
/-! ### _law_fair -/
noncomputable def d_l_fair : DnS :=
    (sRet (dMake 4 0 (frzOb 0 ns_Fair) F_Fairu_initu [] (aCons (dOp fIxT (dVar 0) (dC (.int 0))) (aCons (dOp fIxT (dVar 0) (dC (.int 1))) (aCons (dOp fIxT (dVar 0) (dC (.int 2))) aNil)))))
noncomputable def F_l_fair : Fd := fun ws st => nox (fnD 1 d_l_fair ws st)
theorem ok_l_fair (T : Tx K mg ct) : FnOk P w K mg base CX0 6 T.f_l_fair T.d_l_fair ["_law_parts_here"] (spD ⟨K, ct, ce⟩ 1 F_l_fair) := by
  refine fnK (k := 5) T.F_l_fair sc_l_fair rfl fun cdv A outer s H E hr => ⟨_, (pss_one (ps_ret (pe_make T.M_Fair (ok_Fairu_initu (ce := ce) T) (hr.mono (by decide)) rfl T.g_Fair T.b_Fairu_initu .nil pass0 (pa_cons (pe_ix (ix_tupK K) (pv 0) pe_int (fun _ _ => rfl)) (pa_cons (pe_ix (ix_tupK K) (pv 0) pe_int (fun _ _ => rfl)) (pa_cons (pe_ix (ix_tupK K) (pv 0) pe_int (fun _ _ => rfl)) pa_nil)))))), ?_⟩
  exact (es_ret (ev_make T.ct_Fair (fin_frz T.ct_Fair) no_ds (ea_cons (ev_op q_ixT ev_var ev_int) (ea_cons (ev_op q_ixT ev_var ev_int) (ea_cons (ev_op q_ixT ev_var ev_int) ea_nil)))))
/-! ### tables_needed -/
noncomputable def d_tables_needed : DnS :=
    (sSeq (sDrop (dCall 3 F_check_planned [] (aCons (dVar 0) (aCons (dVar 1) (aCons (dVar 2) aNil)))))
    (sSeq (sSet 3 (dCall 1 F_sum_of [] (aCons (dVar 1) aNil)))
    (sSeq (sIf (bT (dOp (fEq false) (dVar 3) (dC (.int 0)))) (sRet (dC (.int 0))) sNext)
    (sSeq (sIf (bT (dOp fGt (dCall 2 F_least_rounds [] (aCons (dMake 4 0 (frzOb 0 ns_Fair) F_Fairu_initu [.fz .none] (aCons (dProp 0 ns_Fair F_Fair_hosts (dVar 0)) (aCons (dProp 0 ns_Fair F_Fair_guests (dVar 0)) aNil))) (aCons (dVar 1) aNil))) (dVar 2))) (sRet (dC .none)) sNext)
    (sRet (dCall 2 F_ceiling [] (aCons (dVar 3) (aCons (dVar 2) aNil))))))))
noncomputable def F_tables_needed : Fd := fun ws st => nox (fnD 4 d_tables_needed ws st)
theorem ok_tables_needed (T : Tx K mg ct) : FnOk P w K mg base CX0 7 T.f_tables_needed T.d_tables_needed ["fair", "meetings", "rounds"] (spD ⟨K, ct, ce⟩ 3 F_tables_needed) := by
  refine fnK (k := 6) T.F_tables_needed sc_tables_needed rfl fun cdv A outer s H E hr => ⟨_, (pss_cons (ps_expr (pe_call (ok_check_planned (ce := ce) T) (hr.mono (by decide)) rfl T.v_check_planned T.k_check_planned T.b_check_planned .nil pass0 (pa_cons (pv 0) (pa_cons (pv 1) (pa_cons (pv 2) pa_nil)))))
      (pss_cons (ps_set (i := 3) sc_tables_needed.nd rfl (Or.inl rfl) (pe_call (ok_sum_of (ce := ce) T) (hr.mono (by decide)) rfl T.v_sum_of T.k_sum_of T.b_sum_of .nil pass0 (pa_cons (pv 1) pa_nil)))
      (pss_cons (ps_if (pt_cmpR op_eq (pv 3) pe_int (nomark _))
        (pss_one (ps_ret pe_int))
        pss_nil)
      (pss_cons (ps_if (pt_cmpR op_gt (pe_call (ok_least_rounds (ce := ce) T) (hr.mono (by decide)) rfl T.v_least_rounds T.k_least_rounds T.b_least_rounds .nil pass0 (pa_cons (pe_make T.M_Fair (ok_Fairu_initu (ce := ce) T) (hr.mono (by decide)) rfl T.g_Fair T.bd_Fairu_initu_1.choose_spec.2 T.bd_Fairu_initu_1.choose_spec.1 pass0 (pa_cons (pe_prop (pv 0) T.cl_Fair.cl T.p_Fair_hosts (ok_Fair_hosts (ce := ce) T) (hr.mono (by decide)) T.b_Fair_hosts .nil pass0 rfl) (pa_cons (pe_prop (pv 0) T.cl_Fair.cl T.p_Fair_guests (ok_Fair_guests (ce := ce) T) (hr.mono (by decide)) T.b_Fair_guests .nil pass0 rfl) pa_nil))) (pa_cons (pv 1) pa_nil))) (pv 2) (nomark _))
        (pss_one (ps_ret pe_non))
        pss_nil)
      (pss_one (ps_ret (pe_call (ok_ceiling (ce := ce) T) (hr.mono (by decide)) rfl T.v_ceiling T.k_ceiling T.b_ceiling .nil pass0 (pa_cons (pv 3) (pa_cons (pv 2) pa_nil))))))))), ?_⟩
  exact (es_seq (es_drop (ev_call no_ds (ea_cons ev_var (ea_cons ev_var (ea_cons ev_var ea_nil)))))
      (es_seq (es_set (ev_call no_ds (ea_cons ev_var ea_nil)))
      (es_seq (es_if (et_t (ev_op q_eq ev_var ev_int))
        (es_ret ev_int)
        es_next)
      (es_seq (es_if (et_t (ev_op q_gt (ev_call no_ds (ea_cons (ev_make T.ct_Fair (fin_frz T.ct_Fair) non_ds (ea_cons (ev_prop T.ct_Fair ev_var) (ea_cons (ev_prop T.ct_Fair ev_var) ea_nil))) (ea_cons ev_var ea_nil))) ev_var))
        (es_ret ev_non)
        es_next)
      (es_ret (ev_call no_ds (ea_cons ev_var (ea_cons ev_var ea_nil))))))))
/-! ### _law_is_needed -/
noncomputable def d_l_is_needed : DnS :=
    (sSeq (sPar 4 5 (aCons (dN (f1 fSum) (aCons (dCall 1 F_l_in_rows [] (aCons (dVar 1) aNil)) aNil)) (aCons (dCall 2 F_l_due [] (aCons (dN fTup (aCons (dOp fIxT (dVar 0) (dC (.int 0))) (aCons (dOp fIxT (dVar 0) (dC (.int 1))) (aCons (dC .none) aNil)))) (aCons (dVar 1) aNil))) aNil)))
    (sSeq (sIf (bT (dOp fGt (dVar 5) (dVar 2))) (sRet (dOp (fIs false) (dVar 3) (dC .none))) sNext)
    (sSeq (sIf (bOr (bNot (bT (dCall 3 F_l_within [] (aCons (dVar 3) (aCons (dC (.int 0)) (aCons (dC (.int 16)) aNil)))))) (bOr (bT (dOp fLt (dOp fMul (dVar 3) (dVar 2)) (dVar 4))) (bAnd (bT (dOp fGt (dVar 3) (dC (.int 0)))) (bT (dOp fGe (dOp fMul (dOp fSub (dVar 3) (dC (.int 1))) (dVar 2)) (dVar 4)))))) (sRet (dC (.bool false))) sNext)
    (sSeq (sIf (bAnd (bT (dChain fLe fLe (dC (.int 1)) (dVar 3) (dC (.int 12)))) (bT (dOp fGt (dCall 2 F_load [] (aCons (dMake 4 0 (frzOb 0 ns_Fair) F_Fairu_initu [] (aCons (dOp fIxT (dVar 0) (dC (.int 0))) (aCons (dOp fIxT (dVar 0) (dC (.int 1))) (aCons (dVar 3) aNil)))) (aCons (dVar 1) aNil))) (dVar 2)))) (sRet (dC (.bool false))) sNext)
    (sRet (dOr (dNot (dChain fLe fLe (dC (.int 2)) (dVar 3) (dC (.int 13)))) (dOp fGt (dCall 2 F_load [] (aCons (dMake 4 0 (frzOb 0 ns_Fair) F_Fairu_initu [] (aCons (dOp fIxT (dVar 0) (dC (.int 0))) (aCons (dOp fIxT (dVar 0) (dC (.int 1))) (aCons (dOp fSub (dVar 3) (dC (.int 1))) aNil)))) (aCons (dVar 1) aNil))) (dVar 2))))))))
noncomputable def F_l_is_needed : Fd := fun ws st => nox (fnD 6 d_l_is_needed ws st)
theorem ok_l_is_needed (T : Tx K mg ct) : FnOk P w K mg base CX0 7 T.f_l_is_needed T.d_l_is_needed ["_law_parts_here", "_law_grid_here", "_law_many", "_law_told"] (spD ⟨K, ct, ce⟩ 4 F_l_is_needed) := by
  refine fnK (k := 6) T.F_l_is_needed sc_l_is_needed rfl fun cdv A outer s H E hr => ⟨_, (pss_cons (ps_par (i := 4) (j := 5) (by rfl) sc_l_is_needed.nd rfl rfl (by decide) rfl rfl (pa_cons (pe_callB (cr_sumK K rfl) (by rfl) T.n_sum (by decide +kernel) (pa_cons (pe_call (ok_l_in_rows (ce := ce) T) (hr.mono (by decide)) rfl T.v_l_in_rows T.k_l_in_rows T.b_l_in_rows .nil pass0 (pa_cons (pv 1) pa_nil)) pa_nil)) (pa_cons (pe_call (ok_l_due (ce := ce) T) (hr.mono (by decide)) rfl T.v_l_due T.k_l_due T.b_l_due .nil pass0 (pa_cons (pe_tup (pa_cons (pe_ix (ix_tupK K) (pv 0) pe_int (fun _ _ => rfl)) (pa_cons (pe_ix (ix_tupK K) (pv 0) pe_int (fun _ _ => rfl)) (pa_cons pe_non pa_nil)))) (pa_cons (pv 1) pa_nil))) pa_nil)) (by rfl))
      (pss_cons (ps_if (pt_cmpR op_gt (pv 5) (pv 2) (nomark _))
        (pss_one (ps_ret (pe_cmpR op_isN (pv 3) pe_non (nomark _))))
        pss_nil)
      (pss_cons (ps_if (PW.pt (pw_or (pt_not (pt_val (pe_call (ok_l_within (ce := ce) T) (hr.mono (by decide)) rfl T.v_l_within T.k_l_within T.b_l_within .nil pass0 (pa_cons (pv 3) (pa_cons pe_int (pa_cons pe_int pa_nil)))))) (pw_or (pt_cmpR op_lt (pe_op op_mulB (pv 3) (pv 2)) (pv 4) (nomark _)) (pw_or1 (PW.pt (pw_and (pt_cmpR op_gt (pv 3) pe_int (nomark _)) (pw_and1 (pt_cmpR op_ge (pe_op op_mulB (pe_op op_sub (pv 3) pe_int) (pv 2)) (pv 4) (nomark _)))))))))
        (pss_one (ps_ret pe_bl))
        pss_nil)
      (pss_cons (ps_if (PW.pt (pw_and (pt_chain op_le op_le pe_int (pv 3) pe_int) (pw_and1 (pt_cmpR op_gt (pe_call (ok_load (ce := ce) T) (hr.mono (by decide)) rfl T.v_load T.k_load T.b_load .nil pass0 (pa_cons (pe_make T.M_Fair (ok_Fairu_initu (ce := ce) T) (hr.mono (by decide)) rfl T.g_Fair T.b_Fairu_initu .nil pass0 (pa_cons (pe_ix (ix_tupK K) (pv 0) pe_int (fun _ _ => rfl)) (pa_cons (pe_ix (ix_tupK K) (pv 0) pe_int (fun _ _ => rfl)) (pa_cons (pv 3) pa_nil)))) (pa_cons (pv 1) pa_nil))) (pv 2) (nomark _)))))
        (pss_one (ps_ret pe_bl))
        pss_nil)
      (pss_one (ps_ret (pe_or (pe_not (pe_chain op_le op_le pe_int (pv 3) pe_int)) (pe_one (pe_cmpR op_gt (pe_call (ok_load (ce := ce) T) (hr.mono (by decide)) rfl T.v_load T.k_load T.b_load .nil pass0 (pa_cons (pe_make T.M_Fair (ok_Fairu_initu (ce := ce) T) (hr.mono (by decide)) rfl T.g_Fair T.b_Fairu_initu .nil pass0 (pa_cons (pe_ix (ix_tupK K) (pv 0) pe_int (fun _ _ => rfl)) (pa_cons (pe_ix (ix_tupK K) (pv 0) pe_int (fun _ _ => rfl)) (pa_cons (pe_op op_sub (pv 3) pe_int) pa_nil)))) (pa_cons (pv 1) pa_nil))) (pv 2) (nomark _)))))))))), ?_⟩
  exact (es_seq (es_par (ea_cons (ev_cb q_sum (ea_cons (ev_call no_ds (ea_cons ev_var ea_nil)) ea_nil)) (ea_cons (ev_call no_ds (ea_cons (ev_tup (ea_cons (ev_op q_ixT ev_var ev_int) (ea_cons (ev_op q_ixT ev_var ev_int) (ea_cons ev_non ea_nil)))) (ea_cons ev_var ea_nil))) ea_nil)))
      (es_seq (es_if (et_t (ev_op q_gt ev_var ev_var))
        (es_ret (ev_op q_isN ev_var ev_non))
        es_next)
      (es_seq (es_if (et_or (et_not (et_b (ev_call no_ds (ea_cons ev_var (ea_cons ev_int (ea_cons ev_int ea_nil)))))) (et_or (et_t (ev_op q_lt (ev_op q_mul ev_var ev_var) ev_var)) (et_and (et_t (ev_op q_gt ev_var ev_int)) (et_t (ev_op q_ge (ev_op q_mul (ev_op q_sub ev_var ev_int) ev_var) ev_var)))))
        (es_ret ev_bl)
        es_next)
      (es_seq (es_if (et_and (et_t (ev_chain q_le q_le ev_int ev_var ev_int)) (et_t (ev_op q_gt (ev_call no_ds (ea_cons (ev_make T.ct_Fair (fin_frz T.ct_Fair) no_ds (ea_cons (ev_op q_ixT ev_var ev_int) (ea_cons (ev_op q_ixT ev_var ev_int) (ea_cons ev_var ea_nil)))) (ea_cons ev_var ea_nil))) ev_var)))
        (es_ret ev_bl)
        es_next)
      (es_ret (ev_or (ev_not (ev_chain q_le q_le ev_int ev_var ev_int)) (ev_op q_gt (ev_call no_ds (ea_cons (ev_make T.ct_Fair (fin_frz T.ct_Fair) no_ds (ea_cons (ev_op q_ixT ev_var ev_int) (ea_cons (ev_op q_ixT ev_var ev_int) (ea_cons (ev_op q_sub ev_var ev_int) ea_nil)))) (ea_cons ev_var ea_nil))) ev_var)))))))
/-! ### _law_right -/
noncomputable def b_l_right_1 : DnS :=
    (sSeq (sSet 6 (dCall 3 F_tables_needed [] (aCons (dVar 3) (aCons (dVar 2) (aCons (dVar 5) aNil)))))
    (sSeq (sIf (bNot (bT (dCall 4 F_l_is_needed [] (aCons (dVar 1) (aCons (dVar 2) (aCons (dVar 5) (aCons (dVar 6) aNil))))))) (sRet (dC (.bool false))) sNext)
    (sSeq (sSet 7 (dMake 4 0 (frzOb 0 ns_Fair) F_Fairu_initu [] (aCons (dOp fIxT (dVar 1) (dC (.int 0))) (aCons (dOp fIxT (dVar 1) (dC (.int 1))) (aCons (dOp fIxL (dN fLst (aCons (dC .none) (aCons (dC (.int 1)) (aCons (dC (.int 12)) aNil)))) (dCall 2 F_l_pour [] (aCons (dVar 0) (aCons (dC (.int 3)) aNil)))) aNil)))))
    (sIf (bT (dOp (fEq true) (dN (f1 fRepr) (aCons (dCallK 3 3 [1, 2, 0] F_tables_needed (aCons (dVar 5) (aCons (dVar 7) (aCons (dVar 2) aNil)))) aNil)) (dN (f1 fRepr) (aCons (dVar 6) aNil)))) (sRet (dC (.bool false))) sNext))))
noncomputable def d_l_right : DnS :=
    (sSeq (sSet 1 (dCall 3 F_l_parts [] (aCons (dVar 0) (aCons (dC (.int 4)) (aCons (dC (.int 4)) aNil)))))
    (sSeq (sPar 2 3 (aCons (dCall 3 F_l_grid [] (aCons (dVar 0) (aCons (dVar 1) (aCons (dCall 2 F_l_pour [] (aCons (dVar 0) (aCons (dC (.int 3)) aNil))) aNil)))) (aCons (dCall 1 F_l_fair [] (aCons (dVar 1) aNil)) aNil)))
    (sSeq (sSet 4 (dCall 2 F_load [] (aCons (dMake 4 0 (frzOb 0 ns_Fair) F_Fairu_initu [.fz .none] (aCons (dOp fIxT (dVar 1) (dC (.int 0))) (aCons (dOp fIxT (dVar 1) (dC (.int 1))) aNil))) (aCons (dVar 2) aNil))))
    (sSeq (sFor (iSeq srcW (dN fLst (aCons (dC (.int 0)) (aCons (dVar 4) (aCons (dOp fAdd (dVar 4) (dC (.int 1))) (aCons (dN (f2 (f2I (fun _ _ => true) fun i j => .int (if j > i then j else i))) (aCons (dC (.int 0)) (aCons (dOp fSub (dVar 4) (dC (.int 1))) aNil))) (aCons (dOp fMul (dC (.int 2)) (dVar 4)) (aCons (dCall 2 F_l_pour [] (aCons (dVar 0) (aCons (dC (.int 60)) aNil))) (aCons (dOp fPow (dC (.int 10)) (dC (.int 31))) aNil))))))))) (gN 5) b_l_right_1)
    (sRet (dC (.bool true)))))))
noncomputable def F_l_right : Fd := fun ws st => nox (fnD 8 d_l_right ws st)
theorem ok_l_right (T : Tx K mg ct) : FnG P w K mg base CX0 8 T.f_l_right T.d_l_right ["_law_jug_here"] (spD ⟨K, ct, ce⟩ 1 F_l_right) := by
  refine fnQ (k := 7) T.F_l_right sc_l_right rfl fun cdv A outer s H E hgd hr => ⟨_, (pss_cons (ps_set (i := 1) sc_l_right.nd rfl (Or.inl rfl) (pe_call (ok_l_parts (ce := ce) T) (hr.mono (by decide)) rfl T.v_l_parts T.k_l_parts T.b_l_parts .nil pass0 (pa_cons (pv 0) (pa_cons pe_int (pa_cons pe_int pa_nil)))))
      (pss_cons (ps_par (i := 2) (j := 3) (by rfl) sc_l_right.nd rfl rfl (by decide) rfl rfl (pa_cons (pe_call (ok_l_grid (ce := ce) T) (hr.mono (by decide)) rfl T.v_l_grid T.k_l_grid T.b_l_grid .nil pass0 (pa_cons (pv 0) (pa_cons (pv 1) (pa_cons (pe_call (ok_l_pour (ce := ce) T) (hr.mono (by decide)) rfl T.v_l_pour T.k_l_pour T.b_l_pour .nil pass0 (pa_cons (pv 0) (pa_cons pe_int pa_nil))) pa_nil)))) (pa_cons (pe_call (ok_l_fair (ce := ce) T) (hr.mono (by decide)) rfl T.v_l_fair T.k_l_fair T.b_l_fair .nil pass0 (pa_cons (pv 1) pa_nil)) pa_nil)) (by rfl))
      (pss_cons (ps_set (i := 4) sc_l_right.nd rfl (Or.inl rfl) (pe_call (ok_load (ce := ce) T) (hr.mono (by decide)) rfl T.v_load T.k_load T.b_load .nil pass0 (pa_cons (pe_make T.M_Fair (ok_Fairu_initu (ce := ce) T) (hr.mono (by decide)) rfl T.g_Fair T.bd_Fairu_initu_1.choose_spec.2 T.bd_Fairu_initu_1.choose_spec.1 pass0 (pa_cons (pe_ix (ix_tupK K) (pv 1) pe_int (fun _ _ => rfl)) (pa_cons (pe_ix (ix_tupK K) (pv 1) pe_int (fun _ _ => rfl)) pa_nil))) (pa_cons (pv 2) pa_nil))))
      (pss_cons (ps_for PassesOwn.never rfl (pi_listK K (pe_lst (pa_cons pe_int (pa_cons (pv 4) (pa_cons (pe_op op_add (pv 4) pe_int) (pa_cons (pe_callB (call_max2 rfl) (by rfl) T.n_max (by decide +kernel) (pa_cons pe_int (pa_cons (pe_op op_sub (pv 4) pe_int) pa_nil))) (pa_cons (pe_op op_mulB pe_int (pv 4)) (pa_cons (pe_call (ok_l_pour (ce := ce) T) (hr.mono (by decide)) rfl T.v_l_pour T.k_l_pour T.b_l_pour .nil pass0 (pa_cons (pv 0) (pa_cons pe_int pa_nil))) (pa_cons (pe_op op_pow pe_int pe_int) pa_nil))))))))) (pg_name (i := 5) sc_l_right.nd rfl (Or.inl rfl))
        (pss_cons (ps_set (i := 6) sc_l_right.nd rfl (Or.inl rfl) (pe_call (ok_tables_needed (ce := ce) T) (hr.mono (by decide)) rfl T.v_tables_needed T.k_tables_needed T.b_tables_needed .nil pass0 (pa_cons (pv 3) (pa_cons (pv 2) (pa_cons (pv 5) pa_nil)))))
      (pss_cons (ps_if (pt_not (pt_val (pe_call (ok_l_is_needed (ce := ce) T) (hr.mono (by decide)) rfl T.v_l_is_needed T.k_l_is_needed T.b_l_is_needed .nil pass0 (pa_cons (pv 1) (pa_cons (pv 2) (pa_cons (pv 5) (pa_cons (pv 6) pa_nil)))))))
        (pss_one (ps_ret pe_bl))
        pss_nil)
      (pss_cons (ps_set (i := 7) sc_l_right.nd rfl (Or.inl rfl) (pe_make T.M_Fair (ok_Fairu_initu (ce := ce) T) (hr.mono (by decide)) rfl T.g_Fair T.b_Fairu_initu .nil pass0 (pa_cons (pe_ix (ix_tupK K) (pv 1) pe_int (fun _ _ => rfl)) (pa_cons (pe_ix (ix_tupK K) (pv 1) pe_int (fun _ _ => rfl)) (pa_cons (pe_ix (ix_listK K) (pe_lst (pa_cons pe_non (pa_cons pe_int (pa_cons pe_int pa_nil)))) (pe_call (ok_l_pour (ce := ce) T) (hr.mono (by decide)) rfl T.v_l_pour T.k_l_pour T.b_l_pour .nil pass0 (pa_cons (pv 0) (pa_cons pe_int pa_nil))) (fun _ _ => rfl)) pa_nil)))))
      (pss_one (ps_if (pt_cmpR op_ne (pe_callB (call_reprK K hgd hr) (by rfl) T.n_repr (by decide +kernel) (pa_cons (KW.pe_callK0 (ok_tables_needed (ce := ce) T) (hr.mono (by decide)) rfl T.v_tables_needed T.k_tables_needed T.kb_tables_needed_120 pass0 (pk_cons (pv 5) (pk_cons (pv 7) (pk_cons (pv 2) pk_nil)))) pa_nil)) (pe_callB (call_reprK K hgd hr) (by rfl) T.n_repr (by decide +kernel) (pa_cons (pv 6) pa_nil)) (nomark _))
        (pss_one (ps_ret pe_bl))
        pss_nil))))))
      (pss_one (ps_ret pe_bl)))))), ?_⟩
  exact (es_seq (es_set (ev_call no_ds (ea_cons ev_var (ea_cons ev_int (ea_cons ev_int ea_nil)))))
      (es_seq (es_par (ea_cons (ev_call no_ds (ea_cons ev_var (ea_cons ev_var (ea_cons (ev_call no_ds (ea_cons ev_var (ea_cons ev_int ea_nil))) ea_nil)))) (ea_cons (ev_call no_ds (ea_cons ev_var ea_nil)) ea_nil)))
      (es_seq (es_set (ev_call no_ds (ea_cons (ev_make T.ct_Fair (fin_frz T.ct_Fair) non_ds (ea_cons (ev_op q_ixT ev_var ev_int) (ea_cons (ev_op q_ixT ev_var ev_int) ea_nil))) (ea_cons ev_var ea_nil))))
      (es_seq (es_for (ei_list (ev_lst (ea_cons ev_int (ea_cons ev_var (ea_cons (ev_op q_add ev_var ev_int) (ea_cons (ev_cb q_max2 (ea_cons ev_int (ea_cons (ev_op q_sub ev_var ev_int) ea_nil))) (ea_cons (ev_op q_mul ev_int ev_var) (ea_cons (ev_call no_ds (ea_cons ev_var (ea_cons ev_int ea_nil))) (ea_cons (ev_op q_pow ev_int ev_int) ea_nil))))))))) (eg_name (vs := [5]) rfl)
        (es_seq (es_set (ev_call no_ds (ea_cons ev_var (ea_cons ev_var (ea_cons ev_var ea_nil)))))
      (es_seq (es_if (et_not (et_b (ev_call no_ds (ea_cons ev_var (ea_cons ev_var (ea_cons ev_var (ea_cons ev_var ea_nil)))))))
        (es_ret ev_bl)
        es_next)
      (es_seq (es_set (ev_make T.ct_Fair (fin_frz T.ct_Fair) no_ds (ea_cons (ev_op q_ixT ev_var ev_int) (ea_cons (ev_op q_ixT ev_var ev_int) (ea_cons (ev_op q_ixL (ev_lst (ea_cons ev_non (ea_cons ev_int (ea_cons ev_int ea_nil)))) (ev_call no_ds (ea_cons ev_var (ea_cons ev_int ea_nil)))) ea_nil)))))
      (es_if (et_t (ev_op q_ne (ev_cb q_repr (ea_cons (ev_callK rfl (ea_cons ev_var (ea_cons ev_var (ea_cons ev_var ea_nil)))) ea_nil)) (ev_cb q_repr (ea_cons ev_var ea_nil))))
        (es_ret ev_bl)
        es_next)))))
      (es_ret ev_bl)))))
/-! ### law -/
noncomputable def b_law_1 : DnS :=
    (sIf (bNot (bT (dCall 1 F_l_right [] (aCons (dLoc (dCall 2 F_l_jug [] (aCons (dVar 0) (aCons (dVar 1) aNil)))) aNil)))) (sRet (dC (.bool false))) sNext)
noncomputable def d_law : DnS :=
    (sSeq (sFor (iR r1S (aCons (dN (f2 (f2I (fun _ _ => true) fun i j => .int (if j > i then j else i))) (aCons (dC (.int 2)) (aCons (dN (f2 (f2I (fun _ _ => true) fun i j => .int (if j < i then j else i))) (aCons (dN (f1 fLen) (aCons (dVar 0) aNil)) (aCons (dC (.int 5)) aNil))) aNil))) aNil)) (gN 1) b_law_1)
    (sRet (dC (.bool true))))
noncomputable def F_law : Fd := fun ws st => nox (fnD 2 d_law ws st)
theorem ok_law (T : Tx K mg ct) : FnG P w K mg base CX0 9 T.f_law T.d_law ["_law_script"] (spD ⟨K, ct, ce⟩ 1 F_law) := by
  refine fnQ (k := 8) T.F_law sc_law rfl fun cdv A outer s H E hgd hr => ⟨_, (pss_cons (ps_for PassesOwn.never rfl (pi_range1 rfl T.n_range (pa_cons (pe_callB (call_max2 rfl) (by rfl) T.n_max (by decide +kernel) (pa_cons pe_int (pa_cons (pe_callB (call_min2 rfl) (by rfl) T.n_min (by decide +kernel) (pa_cons (pe_callB (call_lenQ K) (by rfl) T.n_len PySem.boot_len (pa_cons (pv 0) pa_nil)) (pa_cons pe_int pa_nil))) pa_nil))) pa_nil)) (pg_name (i := 1) sc_law.nd rfl (Or.inl rfl))
        (pss_one (ps_if (pt_not (pt_val (pe_callG (ok_l_right (ce := ce) T) hgd (hr.mono (by decide)) rfl T.v_l_right T.k_l_right T.b_l_right .nil pass0 (pa_cons (pe_call (ok_l_jug (ce := ce) T) (hr.mono (by decide)) rfl T.v_l_jug T.k_l_jug T.b_l_jug .nil pass0 (pa_cons (pv 0) (pa_cons (pv 1) pa_nil))) pa_nil))))
        (pss_one (ps_ret pe_bl))
        pss_nil)))
      (pss_one (ps_ret pe_bl))), ?_⟩
  exact (es_seq (es_for (ei_r1 (ea_cons (ev_cb q_max2 (ea_cons ev_int (ea_cons (ev_cb q_min2 (ea_cons (ev_cb q_len (ea_cons ev_var ea_nil)) (ea_cons ev_int ea_nil))) ea_nil))) ea_nil)) (eg_name (vs := [1]) rfl)
        (es_if (et_not (et_b (ev_call no_ds (ea_cons (ev_loc (ev_call no_ds (ea_cons ev_var (ea_cons ev_var ea_nil)))) ea_nil))))
        (es_ret ev_bl)
        es_next))
      (es_ret ev_bl))
end
end K14
/-! MU: names and words, pure. -/
namespace MU
open PySem PySem.Spec PyProof.Rows L2 MG QD
def lowB (c : Nat) : Bool := decide (97 ≤ c ∧ c ≤ 122)
def signB (c : Nat) : Bool := lowB c || decide (48 ≤ c ∧ c ≤ 57)
def nameL : List Nat → Bool
  | [] => false
  | c :: r => lowB c && decide (r.length ≤ 7) && r.all signB
def Nm (x : Str) : Prop := nameL x.cps.toList = true
abbrev SIGNS : Str := "abcdefghijklmnopqrstuvwxyz0123456789"
theorem signs_at : ∀ i : _root_.Fin 36, ∃ c : Nat, SIGNS.cps.toList[i.val]? = some c ∧ signB c = true ∧ (i.val < 26 → lowB c = true) := by
  have h : ∀ i : _root_.Fin 36, SIGNS.cps.toList[i.val]? = some (SIGNS.cps.toList.getD i.val 0) ∧ signB (SIGNS.cps.toList.getD i.val 0) = true ∧ (i.val < 26 → lowB (SIGNS.cps.toList.getD i.val 0) = true) := by decide +kernel
  exact fun i => ⟨_, h i⟩
theorem atI_nat {α : Type} {xs : List α} {i : Int} {x : α} (h0 : 0 ≤ i) (h : xs[i.toNat]? = some x) : atI xs i = some x := by
  have hk : i.toNat < xs.length := (List.getElem?_eq_some_iff.mp h).1
  unfold atI ixN
  rw [if_pos h0, if_pos (by omega)]
  exact h
theorem sign_pick {i : Int} (h0 : 0 ≤ i) (h : i < 36) : ∃ c, atI SIGNS.cps.toList i = some c ∧ signB c = true ∧ (i < 26 → lowB c = true) := by
  obtain ⟨c, h1, h2, h3⟩ := signs_at ⟨i.toNat, by omega⟩
  exact ⟨c, atI_nat h0 h1, h2, fun q => h3 (show i.toNat < 26 by omega)⟩
theorem app_cps (x y : Str) : (x ++ y).cps.toList = x.cps.toList ++ y.cps.toList := by
  show (x.cps ++ y.cps).toList = _
  rw [Array.toList_append]
def Grown (x : Str) (i : Nat) : Prop := ∃ c r, x.cps.toList = c :: r ∧ lowB c = true ∧ r.length = i ∧ r.all signB = true
theorem Grown.nm {x : Str} {i : Nat} (g : Grown x i) (h : i ≤ 7) : Nm x := by
  obtain ⟨c, r, e, h1, h2, h3⟩ := g
  unfold Nm
  rw [e]
  show (lowB c && decide (r.length ≤ 7) && r.all signB) = true
  rw [h1, h3, h2, decide_eq_true h] <;> rfl
theorem Grown.len {x : Str} {i : Nat} (g : Grown x i) : x.length = i + 1 := by
  obtain ⟨c, r, e, h1, h2, h3⟩ := g
  show x.cps.size = _
  rw [← Array.length_toList, e, List.length_cons, h2]
theorem Grown.more {x : Str} {i c : Nat} (g : Grown x i) (h : signB c = true) : Grown (x ++ ⟨#[c]⟩) (i + 1) := by
  obtain ⟨d, r, e, h1, h2, h3⟩ := g
  refine ⟨d, r ++ [c], ?_, h1, ?_, ?_⟩
  · rw [app_cps, e] <;> rfl
  · rw [List.length_append, h2] <;> rfl
  · rw [List.all_append, h3, Bool.true_and, List.all_cons, h] <;> rfl
def qn (j : Nat) : Str := ("q" : Str) ++ (toString (0 + (j : Int)) : String)
theorem qn_nm : ∀ j : _root_.Fin 8, Nm (qn j.val) := by
  have h : ∀ j : _root_.Fin 8, nameL (qn j.val).cps.toList = true := by decide +kernel
  exact h
theorem qn_nodup : ((List.range 8).map qn).Nodup := by decide +kernel
theorem qs_nodup {m : Nat} (h : m ≤ 8) : ((List.range m).map qn).Nodup := by
  refine qn_nodup.sublist ?_
  refine List.Sublist.map _ ?_
  rw [List.range_sublist]
  exact h
theorem sub_len {α : Type} [DecidableEq α] : ∀ {l m : List α}, l.Nodup → (∀ x ∈ l, x ∈ m) → l.length ≤ m.length
  | [], _, _, _ => Nat.zero_le _
  | a :: l, m, nd, h => by
    have nd' := List.nodup_cons.mp nd
    have ha := h a (List.mem_cons_self ..)
    have ih := sub_len (l := l) (m := m.erase a) nd'.2 fun x hx => by
      have hne : x ≠ a := fun e => nd'.1 (e ▸ hx)
      exact (List.mem_erase_of_ne hne).mpr (h x (List.mem_cons_of_mem _ hx))
    rw [List.length_erase_of_mem ha] at ih
    have := List.length_pos_of_mem ha
    rw [List.length_cons]
    omega
theorem int_small {i : Int} (h0 : 0 ≤ i) (h : i < 128) : i.natAbs.log2 < 1920 := by
  have q : ∀ j : _root_.Fin 128, j.val.log2 < 1920 := by decide +kernel
  exact q ⟨i.natAbs, by omega⟩
theorem in_low (c : Nat) : decide (c ∈ ("abcdefghijklmnopqrstuvwxyz" : Str).cps.toList) = lowB c := by
  by_cases h : c < 128
  · have q : ∀ j : _root_.Fin 128, decide (j.val ∈ ("abcdefghijklmnopqrstuvwxyz" : Str).cps.toList) = lowB j.val := by decide +kernel
    exact q ⟨c, h⟩
  · have e : lowB c = false := by unfold lowB; exact decide_eq_false (by omega)
    rw [e]
    refine decide_eq_false fun m => ?_
    have q : ∀ x ∈ ("abcdefghijklmnopqrstuvwxyz" : Str).cps.toList, x < 128 := by decide +kernel
    exact h (q c m)
theorem in_signs (c : Nat) : decide (c ∈ SIGNS.cps.toList) = signB c := by
  by_cases h : c < 128
  · have q : ∀ j : _root_.Fin 128, decide (j.val ∈ SIGNS.cps.toList) = signB j.val := by decide +kernel
    exact q ⟨c, h⟩
  · have e : signB c = false := by
      unfold signB lowB
      rw [decide_eq_false (by omega), decide_eq_false (by omega)] <;> rfl
    rw [e]
    refine decide_eq_false fun m => ?_
    have q : ∀ x ∈ SIGNS.cps.toList, x < 128 := by decide +kernel
    exact h (q c m)
theorem sum_le {c : Nat} : ∀ ys : List Str, (∀ y ∈ ys, y.length ≤ c) → (ys.map (·.length)).sum ≤ c * ys.length
  | [], _ => by simp
  | y :: ys, h => by
    have h1 := h y (List.mem_cons_self ..)
    have h2 := sum_le ys fun z hz => h z (List.mem_cons_of_mem _ hz)
    rw [List.map_cons, List.sum_cons, List.length_cons, Nat.mul_succ]
    omega
theorem Nm.len {x : Str} (h : Nm x) : 1 ≤ x.length ∧ x.length ≤ 8 := by
  have el : x.cps.toList.length = x.length := Array.length_toList
  unfold Nm at h
  cases e : x.cps.toList with
  | nil => rw [e] at h; cases h
  | cons a r =>
    rw [e] at h el
    have h' : (lowB a && decide (r.length ≤ 7) && r.all signB) = true := h
    simp only [Bool.and_eq_true, decide_eq_true_eq] at h'
    rw [List.length_cons] at el
    omega
theorem str_ext {x y : Str} (h : x.cps.toList = y.cps.toList) : x = y := by
  obtain ⟨⟨a⟩⟩ := x
  obtain ⟨⟨b⟩⟩ := y
  simp only at h
  rw [h]
theorem empty_app (x : Str) : Str.empty ++ x = x := str_ext (by rw [app_cps] <;> rfl)
theorem app_assoc (x y z : Str) : x ++ y ++ z = x ++ (y ++ z) := str_ext (by rw [app_cps, app_cps, app_cps, app_cps, List.append_assoc])
theorem app_len (x y : Str) : (x ++ y).length = x.length + y.length := by
  show (x ++ y).cps.size = x.cps.size + y.cps.size
  rw [← Array.length_toList, app_cps, List.length_append, Array.length_toList, Array.length_toList]
def num (i : Int) : Str := Str.ofString (toString i)
theorem num_len {i : Int} (h0 : 0 ≤ i) (h : i < 100) : (num i).length ≤ 2 := by
  have q : ∀ j : _root_.Fin 100, (num (j.val : Int)).length ≤ 2 := by decide +kernel
  have := q ⟨i.toNat, by omega⟩
  rw [show ((⟨i.toNat, by omega⟩ : _root_.Fin 100).val : Int) = i by show ((i.toNat : Nat) : Int) = i; omega] at this
  exact this
theorem lgN {m : Int} {k : Nat} (hk : k ≠ 0) (h : m.natAbs < 2 ^ k) : m.natAbs.log2 < k := by
  by_cases e : m.natAbs = 0
  · rw [e]; show Nat.log2 0 < k; rw [Nat.log2_zero]; omega
  · exact (Nat.log2_lt e).mpr h
theorem cMul_ok {i j : Int} (hi : i.natAbs < 2 ^ 4000) (hj : j.natAbs < 2 ^ 4000) : cMul i j = true := by
  unfold cMul
  have := lgN (k := 4000) (by decide) hi
  have := lgN (k := 4000) (by decide) hj
  exact decide_eq_true (by omega)
theorem two4000 : 10 ^ 1000 < 2 ^ 4000 := by decide +kernel
theorem nat4000 {i : Int} {b : Nat} (h0 : -(b : Int) ≤ i) (h : i ≤ b) (hb : b ≤ 10 ^ 1000) : i.natAbs < 2 ^ 4000 := Nat.lt_of_le_of_lt (Nat.le_trans (by omega) hb) two4000
/-- the jug's three numbers -/
structure JOk (a b c : Int) (N : Nat) : Prop where
  a0 : 0 ≤ a
  b0 : 0 ≤ b
  b1 : b < 9223372036854775783
  c0 : 0 ≤ c
  c1 : c ≤ (N : Int)
def JAt (st : Sto) (n N : Nat) : Prop := ∃ a b c : Int, st[n]? = some (.lst [.int a, .int b, .int c]) ∧ JOk a b c N
theorem sz_le {n : Nat} (h : n ≤ 100000) : n ≤ sizeLine := Nat.le_trans h (by decide)
theorem signs_len : SIGNS.length = 36 := by decide +kernel
theorem signs_le : SIGNS.length ≤ sizeLine := by rw [signs_len]; exact sz_le (by decide)
theorem inV_str (x : Str) (xs : List Str) : inV (.str x) (xs.map V.str) = decide (x ∈ xs) := by
  unfold inV
  induction xs with
  | nil => rfl
  | cons y ys ih =>
    rw [List.map_cons, List.any_cons, ih]
    show ((y == x) || decide (x ∈ ys)) = decide (x ∈ y :: ys)
    by_cases e : y = x
    · subst e
      simp
    · have e' : (y == x) = false := beq_eq_false_iff_ne.mpr e
      rw [e', Bool.false_or]
      have : x ∈ y :: ys ↔ x ∈ ys := by
        rw [List.mem_cons]
        exact ⟨fun h => h.elim (fun h => absurd h.symm e) id, Or.inr⟩
      simp only [this]
theorem inD_str (x : Str) (l : List Str) : inD (.str x) (l.map PyData.str) = decide (x ∈ l) := by
  unfold inD
  rw [List.map_map]
  exact inV_str x l
theorem flatD_strs (l : List Str) : (l.map PyData.str).all flatD = true := by
  rw [List.all_eq_true]
  intro d hd
  obtain ⟨x, _, rfl⟩ := List.mem_map.mp hd
  rfl
theorem lcL_step {g : DnG} {e : Dn} {en0 en2 : En} {l ds acc : List D} {d y : D} {st st2 st3 : Sto} {w : QD.W} (h1 : g (.fz d) en0 st = .ok en2 st2) (h2 : e en2 st2 = .ok w st3) (h3 : datW w = some y) (hl : acc.length < sizeLine) :
    lcL ⟨l, none⟩ g (fun _ st => .ok true st) e en0 (d :: ds) acc st = lcL ⟨ds, none⟩ g (fun _ st => .ok true st) e en0 ds (acc ++ [y]) st3 := by
  rw [lcL_src (l1 := ds) (l2 := l)]
  conv => lhs; unfold lcL
  rw [if_pos (show Src.ok ⟨l, none⟩ st from trivial), h1, nox_ok, Rt.bind_ok, nox_ok, Rt.bind_ok, if_pos rfl, h2, nox_ok, Rt.bind_ok, h3]
  dsimp only
  rw [if_pos hl]
theorem lcL_nil {g : DnG} {t : DnT} {e : Dn} {en0 : En} {l acc : List D} {st : Sto} : lcL ⟨l, none⟩ g t e en0 [] acc st = .ok (.own acc) st := by
  unfold lcL
  rw [if_pos (show Src.ok ⟨l, none⟩ st from trivial)]
theorem forL_step {g : DnG} {b : DnS} {en en1 en2 : En} {l ds : List D} {d : D} {st st1 st2 : Sto} (h1 : g (.fz d) en st = .ok en1 st1) (h2 : b en1 st1 = .go en2 st2) : forL ⟨l, none⟩ g b (d :: ds) en st = forL ⟨ds, none⟩ g b ds en2 st2 := by
  rw [forL_src (l1 := ds) (l2 := l)]
  conv => lhs; unfold forL
  rw [if_pos (show Src.ok ⟨l, none⟩ st from trivial), h1]
  dsimp only
  rw [h2]
theorem forL_nil {g : DnG} {b : DnS} {en : En} {l : List D} {st : Sto} : forL ⟨l, none⟩ g b [] en st = .go en st := by
  unfold forL
  rw [if_pos (show Src.ok ⟨l, none⟩ st from trivial)]
theorem cutD_to {l : List D} {k : Nat} (h : k ≤ l.length) : QD.cutD l none (some (k : Int)) = l.take k := by
  unfold QD.cutD
  rw [HT.sIx_none, HT.sIx_nat, List.drop_zero, Nat.min_eq_left h, Nat.sub_zero]
theorem cutD_from {l : List D} {k : Nat} (h : k ≤ l.length) : QD.cutD l (some (k : Int)) none = l.drop k := by
  unfold QD.cutD
  rw [HT.sIx_none, HT.sIx_nat, Nat.min_eq_left h, List.take_of_length_le (by rw [List.length_drop]; omega)]
section
variable {a : Dn} {en : En} {st : Sto}
theorem dSl_eq {f : QD.W → Option Int → Option Int → Sto → Rt QD.W} {lo hi : DnO} : dSl f a lo hi en st = (a en st).bind fun x st1 => (lo en st1).bind fun l st2 => (hi en st2).bind fun u st3 => f x l u st3 := (rfl)
theorem oNone_eq : oNone en st = .ok none st := (rfl)
theorem oSome_eq : oSome a en st = (a en st).bind fun x st1 => match intW x with
  | some i => .ok (some i) st1
  | none => .no := (rfl)
theorem fSlL_fz {l : List D} {lo hi : Option Int} : fSlL (.fz (.list l)) lo hi st = .ok (.own (QD.cutD l lo hi)) st := (rfl)
theorem fSlL_own {l : List D} {lo hi : Option Int} : fSlL (.own l) lo hi st = .ok (.own (QD.cutD l lo hi)) st := (rfl)
theorem fTupOf_own {l : List D} : fTupOf (.own l) st = .ok (.fz (.tuple l)) st := (rfl)
theorem fTupOf_fz {l : List D} : fTupOf (.fz (.list l)) st = .ok (.fz (.tuple l)) st := (rfl)
end
end MU
/-! MA: jug, pour, word, words, parts. -/
namespace K14
open PySem PySem.Spec PyProof.Rows L2 MG QD MU
theorem pour_ok {st : Sto} {n N : Nat} {m : Int} (j : JAt st n N) (hN : N < 1000000) (m1 : 1 ≤ m) (m2 : m < 10000000000000000) :
    ∃ (r : Int) (o : Ob), F_l_pour [.loc n, .fz (.int m)] st = .ok (.fz (.int r)) (st.set n o) ∧ 0 ≤ r ∧ r < m ∧ JAt (st.set n o) n (N + 1) := by
  obtain ⟨a, b, c, h, ha, hb, hb1, hc, hc1⟩ := j
  have hl : n < st.length := (List.getElem?_eq_some_iff.mp h).1
  have lg : m.natAbs.log2 < 9000 := lgN (by decide) (Nat.lt_trans (show m.natAbs < 2 ^ 64 by omega) (by decide +kernel))
  unfold F_l_pour fnD d_l_pour
  by_cases c0 : 0 < a
  · refine ⟨a % m, .lst [.int (a / m), .int b, .int c], ?_, Int.emod_nonneg _ (by omega), Int.emod_lt_of_pos _ (by omega), ⟨a / m, b, c, List.getElem?_set_self hl, Int.ediv_nonneg ha (by omega), hb, hb1, hc, by omega⟩⟩
    simp [seqW_loc h, fSetL_eq h, show 0 < a from c0, show 0 < m by omega, lg]
  · refine ⟨((b * 3202034522624059733 + 104395301 * (c + 1) * (c + 1) + 1) % 9223372036854775783 / 16777216) % m, .lst [.int a, .int ((b * 3202034522624059733 + 104395301 * (c + 1) * (c + 1) + 1) % 9223372036854775783), .int (c + 1)], ?_, Int.emod_nonneg _ (by omega), Int.emod_lt_of_pos _ (by omega), ⟨_, _, _, List.getElem?_set_self hl, ha, Int.emod_nonneg _ (by decide), Int.emod_lt_of_pos _ (by decide), by omega, by omega⟩⟩
    have h1 : ∀ l, (st.set n (.lst l))[n]? = some (.lst l) := fun l => List.getElem?_set_self hl
    have e1 : cMul b 3202034522624059733 = true := cMul_ok (nat4000 (b := 9223372036854775783) (by omega) (by omega) (by decide +kernel)) (nat4000 (b := 3202034522624059733) (by omega) (by omega) (by decide +kernel))
    have e2 : cMul 104395301 (c + 1) = true := cMul_ok (nat4000 (b := 104395301) (by omega) (by omega) (by decide +kernel)) (nat4000 (b := 10000000) (by omega) (by omega) (by decide +kernel))
    have e3 : cMul (104395301 * (c + 1)) (c + 1) = true := cMul_ok (nat4000 (b := 104395301 * 10000000) (by omega) (by omega) (by decide +kernel)) (nat4000 (b := 10000000) (by omega) (by omega) (by decide +kernel))
    have e4 : ∀ x : Int, cMod x 9223372036854775783 = true := fun x => rfl
    have e5 : ∀ x : Int, cDiv x 16777216 = true := fun x => (by decide +kernel : cDiv 0 16777216 = true)
    have e6 : ∀ x : Int, cMod x m = true := fun x => decide_eq_true (by omega)
    have sq : ∀ l, seqW (st.set n (.lst l)) (.loc n) = some l := fun l => seqW_loc (h1 l)
    have sl : ∀ (l : List D) (k : Int) (d : D), fSetL (.loc n) (.fz (.int k)) (.fz d) (st.set n (.lst l)) = _ := fun l k d => fSetL_eq (h1 l) (d := d) rfl
    simp [seqW_loc h, fSetL_eq h, c0, e1, e2, e3, e4, e5, e6, sq, sl]
theorem jat_lt {st : Sto} {n N : Nat} (j : JAt st n N) : n < st.length := by
  obtain ⟨_, _, _, h, _⟩ := j
  exact (List.getElem?_eq_some_iff.mp h).1
theorem jat_mono {st : Sto} {n N M : Nat} (j : JAt st n N) (h : N ≤ M) : JAt st n M := by
  obtain ⟨a, b, c, e, k⟩ := j
  exact ⟨a, b, c, e, k.a0, k.b0, k.b1, k.c0, by have := k.c1; omega⟩
/-- the jug at n is poured from, k times at most; all else is as it was -/
def JR (n : Nat) (st : Sto) (st' : Sto) (M : Nat) : Prop := (∃ o, st' = st.set n o) ∧ JAt st' n M
theorem jr_refl {n : Nat} {st : Sto} {N : Nat} (j : JAt st n N) : JR n st st N := by
  obtain ⟨a, b, c, e, k⟩ := j
  refine ⟨⟨.lst [.int a, .int b, .int c], ?_⟩, ⟨a, b, c, e, k⟩⟩
  apply List.ext_getElem?
  intro i
  by_cases h : n = i
  · subst h
    rw [e, List.getElem?_set_self (List.getElem?_eq_some_iff.mp e).1]
  · rw [List.getElem?_set_ne h]
theorem jr_trans {n : Nat} {st st1 st2 : Sto} {N M : Nat} (a : JR n st st1 N) (b : JR n st1 st2 M) : JR n st st2 M := by
  obtain ⟨⟨o, rfl⟩, _⟩ := a
  obtain ⟨⟨p, rfl⟩, j⟩ := b
  exact ⟨⟨p, by rw [List.set_set]⟩, j⟩
theorem jr_len {n : Nat} {st st' : Sto} {M : Nat} (a : JR n st st' M) : st'.length = st.length := by
  obtain ⟨⟨o, rfl⟩, _⟩ := a
  exact List.length_set
theorem jr_get {n : Nat} {st st' : Sto} {M i : Nat} (a : JR n st st' M) (h : i ≠ n) : st'[i]? = st[i]? := by
  obtain ⟨⟨o, rfl⟩, _⟩ := a
  exact List.getElem?_set_ne (Ne.symm h)
theorem jr_mono {n : Nat} {st st' : Sto} {M M' : Nat} (a : JR n st st' M) (h : M ≤ M') : JR n st st' M' := ⟨a.1, jat_mono a.2 h⟩
/-- behind a list that is added -/
theorem jr_app {n : Nat} {st st' : Sto} {M : Nat} {x : List Ob} (h : n < st.length) (a : JR n (st ++ x) st' M) : ∃ st1, st' = st1 ++ x ∧ JR n st st1 M := by
  obtain ⟨⟨o, rfl⟩, j⟩ := a
  refine ⟨st.set n o, by rw [List.set_append_left _ _ h], ⟨o, rfl⟩, ?_⟩
  obtain ⟨a, b, c, e, k⟩ := j
  refine ⟨a, b, c, ?_, k⟩
  rw [List.set_append_left _ _ h, List.getElem?_append_left (by rw [List.length_set]; exact h)] at e
  exact e
theorem jat_app {n : Nat} {st : Sto} {N : Nat} {x : List Ob} (j : JAt st n N) : JAt (st ++ x) n N := by
  have h := jat_lt j
  obtain ⟨a, b, c, e, k⟩ := j
  exact ⟨a, b, c, by rw [List.getElem?_append_left h]; exact e, k⟩
theorem pour {st : Sto} {n N : Nat} {m : Int} (j : JAt st n N) (hN : N < 1000000) (m1 : 1 ≤ m) (m2 : m < 10000000000000000) :
    ∃ (r : Int) (st' : Sto), F_l_pour [.loc n, .fz (.int m)] st = .ok (.fz (.int r)) st' ∧ 0 ≤ r ∧ r < m ∧ JR n st st' (N + 1) := by
  obtain ⟨r, o, e, h0, h1, j'⟩ := pour_ok j hN m1 m2
  exact ⟨r, _, e, h0, h1, ⟨o, rfl⟩, j'⟩
/-! ### word -/
abbrev MENUD : List D := [.str "host", .str "guest", .str "tables", .str "tables1", .str "a", .str "ab", .str "z9", .str "x"]
theorem menuD_pick {i : Int} (h0 : 0 ≤ i) (h : i < 8) : ∃ x : Str, atI MENUD i = some (.str x) ∧ Nm x := by
  obtain ⟨n, rfl⟩ := Int.eq_ofNat_of_zero_le h0
  have h' : n < 8 := by omega
  rcases n with _ | _ | _ | _ | _ | _ | _ | _ | n
  · exact ⟨"host", rfl, show nameL _ = true by decide +kernel⟩
  · exact ⟨"guest", rfl, show nameL _ = true by decide +kernel⟩
  · exact ⟨"tables", rfl, show nameL _ = true by decide +kernel⟩
  · exact ⟨"tables1", rfl, show nameL _ = true by decide +kernel⟩
  · exact ⟨"a", rfl, show nameL _ = true by decide +kernel⟩
  · exact ⟨"ab", rfl, show nameL _ = true by decide +kernel⟩
  · exact ⟨"z9", rfl, show nameL _ = true by decide +kernel⟩
  · exact ⟨"x", rfl, show nameL _ = true by decide +kernel⟩
  · omega
theorem lenD_pick {i : Int} (h0 : 0 ≤ i) (h : i < 4) : ∃ n : Nat, atI [PyData.int 0, PyData.int 1, PyData.int 2, PyData.int 7] i = some (.int (n : Int)) ∧ n ≤ 7 := by
  obtain ⟨n, rfl⟩ := Int.eq_ofNat_of_zero_le h0
  have h' : n < 4 := by omega
  rcases n with _ | _ | _ | _ | n
  · exact ⟨0, rfl, by omega⟩
  · exact ⟨1, rfl, by omega⟩
  · exact ⟨2, rfl, by omega⟩
  · exact ⟨7, rfl, by omega⟩
  · omega
theorem word {st : Sto} {n N : Nat} (j : JAt st n N) (hN : N + 11 ≤ 1000000) : ∃ (x : Str) (st' : Sto), F_l_word [.loc n] st = .ok (.fz (.str x)) st' ∧ Nm x ∧ JR n st st' (N + 11) := by
  have hn := jat_lt j
  obtain ⟨r1, st1, e1, a1, b1, j1⟩ := pour (m := 4) j (by omega) (by decide) (by decide)
  by_cases c : r1 = 0
  · subst c
    obtain ⟨r2, st2, e2, a2, b2, j2⟩ := pour (m := 8) j1.2 (by omega) (by decide) (by decide)
    obtain ⟨x, hx, nx⟩ := menuD_pick a2 b2
    refine ⟨x, st2, ?_, nx, jr_mono (jr_trans j1 j2) (by omega)⟩
    have l2 : st.length = st2.length := (jr_len (jr_trans j1 j2)).symm
    unfold F_l_word fnD d_l_word
    simp [e1, e2, fEq, scaD, eqS, hx, l2, sizeLine_eq]
  · obtain ⟨r2, st2, e2, a2, b2, j2⟩ := pour (m := 26) j1.2 (by omega) (by decide) (by decide)
    obtain ⟨c2, hc2, _, lc2⟩ := sign_pick a2 (by omega)
    obtain ⟨r3, st3, e3, a3, b3, j3⟩ := pour (m := 4) j2.2 (by omega) (by decide) (by decide)
    obtain ⟨k, hk, k7⟩ := lenD_pick a3 b3
    have l3 : st3.length = st.length := jr_len (jr_trans (jr_trans j1 j2) j3)
    have g0 : Grown ⟨#[c2]⟩ 0 := ⟨c2, [], rfl, lc2 b2, rfl, rfl⟩
    obtain ⟨en4, st4, e4, x, v, rfl, gx, j4⟩ := forL_inv (s := rngS 0 k) (g := gN 4) (b := b_l_word_1)
      (fun i en s => ∃ (x : Str) (v : Option W), en = [some (.loc n), some (.fz (.str SIGNS)), some (.fz (.list MENUD)), some (.fz (.str x)), v] ∧ Grown x i ∧ JR n st s (N + 3 + i))
      (rngS 0 k).l 0 [some (.loc n), some (.fz (.str SIGNS)), some (.fz (.list MENUD)), some (.fz (.str ⟨#[c2]⟩)), none] st3 ⟨_, _, rfl, g0, jr_trans (jr_trans j1 j2) j3⟩
      (fun i en s d hd ⟨x, v, he, gx, js⟩ => by
        subst he
        have hi : i < k := by
          have := (List.getElem?_eq_some_iff.mp hd).1
          simpa [rngS] using this
        rw [Nat.zero_add] at gx js
        obtain ⟨r, s', er, ar, br, jr⟩ := pour (m := 36) js.2 (by omega) (by decide) (by decide)
        obtain ⟨c', hc', sc', _⟩ := sign_pick ar br
        refine ⟨trivial, _, _, rfl, [some (.loc n), some (.fz (.str SIGNS)), some (.fz (.list MENUD)), some (.fz (.str (x ++ ⟨#[c']⟩))), some (.fz d)], s', .inl ?_, _, _, rfl, by rw [Nat.zero_add]; exact gx.more sc', by rw [Nat.zero_add]; exact jr_mono (jr_trans js jr) (by omega)⟩
        have lx : x.length + 1 ≤ sizeLine := by rw [gx.len, sizeLine_eq]; omega
        have ls := signs_le
        unfold b_l_word_1
        simp [er, hc', fAddS, ls, lx, show ∀ c : Nat, (⟨#[c]⟩ : Str).length = 1 from fun _ => rfl])
      (fun en s h => trivial)
    rw [show (rngS 0 k).l.length = k by simp [rngS]] at gx j4
    rw [Nat.zero_add] at gx j4
    have l4 : st4.length = st.length := jr_len j4
    refine ⟨x, st4, ?_, gx.nm k7, jr_mono j4 (by omega)⟩
    have ls := signs_le
    have hr : r1S [(k : Int)] = some (rngS 0 k) := r1S_k (by omega)
    generalize (k : Int) = kI at hk hr
    have hA : (aCons (dOp fIxL (dN fLst (aCons (dC (.int 0)) (aCons (dC (.int 1)) (aCons (dC (.int 2)) (aCons (dC (.int 7)) aNil))))) (dCall 2 F_l_pour [] (aCons (dVar 0) (aCons (dC (.int 4)) aNil)))) aNil) [some (.loc n), some (.fz (.str SIGNS)), some (.fz (.list MENUD)), some (.fz (.str ⟨#[c2]⟩)), none] st2 = .ok [.fz (.int kI)] st3 := by
      simp [e3, hk, sz_le]
    have hF : (sFor (iR r1S (aCons (dOp fIxL (dN fLst (aCons (dC (.int 0)) (aCons (dC (.int 1)) (aCons (dC (.int 2)) (aCons (dC (.int 7)) aNil))))) (dCall 2 F_l_pour [] (aCons (dVar 0) (aCons (dC (.int 4)) aNil)))) aNil)) (gN 4) b_l_word_1)
        [some (.loc n), some (.fz (.str SIGNS)), some (.fz (.list MENUD)), some (.fz (.str ⟨#[c2]⟩)), none] st2 = .go [some (.loc n), some (.fz (.str SIGNS)), some (.fz (.list MENUD)), some (.fz (.str x)), v] st4 := by
      rw [sFor_eq, iR_ok hA rfl hr]
      exact e4
    unfold F_l_word fnD d_l_word
    simp [-sFor_eq, e1, e2, fEq, scaD, eqS, c, hc2, ls, sz_le, hF, l4.symm]
/-! ### words -/
abbrev strsD (l : List Str) : List D := l.map PyData.str
theorem set_last {s : Sto} {k : Nat} {o p : Ob} (h : s.length = k) : (s ++ [o]).set k p = s ++ [p] := by
  rw [← h, List.set_append_right _ _ (Nat.le_refl _), Nat.sub_self]; rfl
theorem get_last {s : Sto} {k : Nat} {o : Ob} (h : s.length = k) : (s ++ [o])[k]? = some o := by
  rw [← h, List.getElem?_append_right (Nat.le_refl _), Nat.sub_self]; rfl
theorem in_found {s : Sto} {k : Nat} {xs : List Str} (h : s.length = k) (neg : Bool) (y : Str) : fIn neg (.fz (.str y)) (.loc k) (s ++ [Ob.lst (strsD xs)]) = .ok (.fz (.bool (if neg = true then !decide (y ∈ xs) else decide (y ∈ xs)))) (s ++ [Ob.lst (strsD xs)]) := by
  have sq : seqW (s ++ [Ob.lst (strsD xs)]) (.loc k) = some (strsD xs) := seqW_loc (get_last h)
  unfold fIn
  simp only [anyW_loc, sq, inD_str, flatD_strs, flatD, Bool.and_self, if_true]
theorem app_found {s : Sto} {k : Nat} {xs : List Str} (h : s.length = k) (hl : xs.length < 100) (y : Str) : fChg gApp (.loc k) [.fz (.str y)] (s ++ [Ob.lst (strsD xs)]) = .ok (.fz .none) (s ++ [Ob.lst (strsD (xs ++ [y]))]) := by
  have l : (strsD xs).length < sizeLine := by rw [List.length_map]; exact Nat.lt_of_lt_of_le hl (sz_le (by decide))
  unfold fChg
  simp only [get_last h, gApp, datW_fz, if_pos l, set_last h]
  rw [show strsD (xs ++ [y]) = strsD xs ++ [.str y] by simp]
theorem q_words {s : Sto} {n k m : Nat} {dd x v5 v6 : Option W} (hm : m ≤ 8) :
    c_l_words_1 [some (.loc n), some (.fz (.int (m : Int))), some (.loc k), dd, x, v5, v6] s = .ok (.own ((List.range m).map fun j => .str (qn j))) s := by
  have hr : r1S [(m : Int)] = some (rngS 0 m) := r1S_k (by omega)
  have hI : iR r1S (aCons (dVar 1) aNil) [some (.loc n), some (.fz (.int (m : Int))), some (.loc k), dd, x, v5, v6] s = .ok (rngS 0 m) s := iR_ok (ws := [.fz (.int (m : Int))]) rfl rfl hr
  unfold c_l_words_1
  rw [dLc_eq, hI, Rt.bind_ok]
  have := lcL_map (s := rngS 0 m) (g := gN 6) (e := dOp fAddS (dC (.str "q")) (dN (f1 fStrI) (aCons (dVar 6) aNil))) (st := s) (en0 := wipeE [some (.loc n), some (.fz (.int (m : Int))), some (.loc k), dd, x, v5, v6] [6])
    (f := fun d => match d with | .int i => .str (("q" : Str) ++ (toString i : String)) | _ => .none) (rngS 0 m).l [] rfl (fun d hd => by
      obtain ⟨j, hj, rfl⟩ := List.mem_map.mp (show d ∈ (List.range m).map fun i => PyData.int (0 + (i : Nat)) from hd)
      have hj' : j < m := List.mem_range.mp hj
      refine ⟨_, .fz (.str (("q" : Str) ++ (toString (0 + (j : Int)) : String))), rfl, ?_, rfl⟩
      have h1 : (0 + (j : Int)).natAbs.log2 < 1920 := int_small (by omega) (by omega)
      have h2 : (num (0 + (j : Int))).length ≤ 2 := num_len (by omega) (by omega)
      have h3 : ("q" : Str).length + (num (0 + (j : Int))).length ≤ sizeLine := Nat.le_trans (Nat.add_le_add (show ("q" : Str).length ≤ 1 by decide +kernel) h2) (sz_le (by decide))
      generalize (0 + (j : Int)) = i at h1 h3
      have e1 : fStrI (.fz (.int i)) s = .ok (.fz (.str (num i))) s := by
        unfold fStrI
        simp only [intW_fz, if_pos h1]
        rfl
      show dOp fAddS (dC (.str "q")) (dN (f1 fStrI) (aCons (dVar 6) aNil)) ([some (.loc n), some (.fz (.int (m : Int))), some (.loc k), dd, x, v5, some (.fz (.int i))]) s = _
      simp only [dOp_eq, dC_eq, Rt.bind_ok, dN_eq, aCons_eq, dVar_eq, aNil_eq, List.getElem?_cons_succ, List.getElem?_cons_zero, f1_eq, e1]
      unfold fAddS
      simp only [strW_fz, if_pos h3]
      rfl) (by simp [rngS]; exact Nat.le_trans hm (sz_le (by decide)))
  rw [this]
  simp [rngS, qn]
def notIn (xs : List Str) : D → Bool
  | .str y => !decide (y ∈ xs)
  | _ => false
theorem other_word {s : Sto} {n k m : Nat} {xs : List Str} {dd x v5 v6 : Option W} (hm : m ≤ 8) (hl : xs.length < m) (hk3 : s.length = k) :
    ∃ y, Nm y ∧ y ∉ xs ∧ dOp fIxL c_l_words_2 (dC (.int 0)) [some (.loc n), some (.fz (.int (m : Int))), some (.loc k), dd, x, v5, v6] (s ++ [.lst (strsD xs)]) = .ok (.fz (.str y)) (s ++ [.lst (strsD xs)]) := by
  have hq := q_words (s := s ++ [.lst (strsD xs)]) (n := n) (k := k) (dd := dd) (x := x) (v5 := v5) (v6 := v6) hm
  let qs := (List.range m).map qn
  have hf := lcL_filter (s := ⟨(List.range m).map fun j => .str (qn j), none⟩) (g := gN 5) (t := bT (dOp (fIn true) (dVar 5) (dVar 2))) (e := dVar 5) (st := s ++ [.lst (strsD xs)]) (en0 := wipeE [some (.loc n), some (.fz (.int (m : Int))), some (.loc k), dd, x, v5, v6] [5])
    (f := fun d => d) (p := notIn xs) ((List.range m).map fun j => .str (qn j)) [] rfl (fun d' hd => by
      obtain ⟨j, hj, rfl⟩ := List.mem_map.mp hd
      refine ⟨_, rfl, ?_, fun _ => ⟨_, rfl, rfl⟩⟩
      show bT (dOp (fIn true) (dVar 5) (dVar 2)) [some (.loc n), some (.fz (.int (m : Int))), some (.loc k), dd, x, some (.fz (.str (qn j))), v6] (s ++ [.lst (strsD xs)]) = _
      simp only [bT_eq, dOp_eq, dVar_eq, List.getElem?_cons_succ, List.getElem?_cons_zero, Rt.bind_ok, in_found hk3, if_true, tst_b]
      rfl) (by simp; exact Nat.le_trans hm (sz_le (by decide)))
  have ne : ∃ y, y ∈ qs ∧ y ∉ xs := by
    refine Classical.byContradiction fun h => ?_
    have all : ∀ y ∈ qs, y ∈ xs := fun y hy => Classical.byContradiction fun h' => h ⟨y, hy, h'⟩
    have := sub_len (qs_nodup hm) all
    simp only [List.length_map, List.length_range] at this
    omega
  obtain ⟨y0, hy0, hy1⟩ := ne
  have hc : c_l_words_2 [some (.loc n), some (.fz (.int (m : Int))), some (.loc k), dd, x, v5, v6] (s ++ [.lst (strsD xs)]) = .ok (.own ((((List.range m).map fun j => PyData.str (qn j)).filter (notIn xs)).map fun d => d)) (s ++ [.lst (strsD xs)]) := by
    unfold c_l_words_2
    rw [dLc_eq, iSeq_eq, hq, Rt.bind_ok, srcW_own, Rt.bind_ok]
    exact hf
  rw [List.map_id'] at hc
  cases hL : ((List.range m).map fun j => PyData.str (qn j)).filter (notIn xs) with
  | nil =>
    obtain ⟨jj, hjj, rfl⟩ := List.mem_map.mp hy0
    have := List.mem_filter (p := notIn xs).mpr ⟨(List.mem_map (f := fun j => PyData.str (qn j))).mpr ⟨jj, hjj, rfl⟩, show notIn xs (.str (qn jj)) = true by simp [notIn, hy1]⟩
    rw [hL] at this
    cases this
  | cons d0 rest =>
    have h0 := List.mem_filter.mp (show d0 ∈ ((List.range m).map fun j => PyData.str (qn j)).filter (notIn xs) by rw [hL]; exact List.mem_cons_self ..)
    obtain ⟨jj, hjj, rfl⟩ := List.mem_map.mp h0.1
    have hjm : jj < m := List.mem_range.mp hjj
    have hnx : qn jj ∉ xs := by simpa [notIn] using h0.2
    refine ⟨qn jj, qn_nm ⟨jj, by omega⟩, hnx, ?_⟩
    rw [hL] at hc
    simp [hc]
theorem words_step {s1 : Sto} {n k m N : Nat} {xs : List Str} {d : D} {v4 v5 v6 : Option W} (hm : m ≤ 8) (hl : xs.length < m) (hk : s1.length = k) (j : JAt s1 n N) (hN : N + 11 ≤ 1000000) :
    ∃ (y : Str) (v5' v6' : Option W) (s3 : Sto), Nm y ∧ y ∉ xs ∧ b_l_words_3 [some (.loc n), some (.fz (.int (m : Int))), some (.loc k), some (.fz d), v4, v5, v6] (s1 ++ [.lst (strsD xs)]) =
      .go [some (.loc n), some (.fz (.int (m : Int))), some (.loc k), some (.fz d), some (.fz (.str y)), v5', v6'] (s3 ++ [.lst (strsD (xs ++ [y]))]) ∧ JR n s1 s3 (N + 11) := by
  obtain ⟨x, s2, e2, nx, j2⟩ := word (jat_app (x := [.lst (strsD xs)]) j) hN
  obtain ⟨s3, rfl, j3⟩ := jr_app (jat_lt j) j2
  have hk3 : s3.length = k := (jr_len j3).trans hk
  by_cases c : x ∈ xs
  · obtain ⟨y, ny, hy, e5⟩ := other_word (n := n) (dd := some (.fz d)) (x := some (.fz (.str x))) (v5 := v5) (v6 := v6) hm hl hk3
    refine ⟨y, v5, v6, s3, ny, hy, ?_, j3⟩
    unfold b_l_words_3
    simp [-dOp_eq, dOp_eq (a := dVar _), e2, e5, in_found hk3, c, seqW_loc (get_last hk3), app_found hk3 (show xs.length < 100 by omega)]
  · refine ⟨x, v5, v6, s3, nx, c, ?_, j3⟩
    unfold b_l_words_3
    simp [e2, in_found hk3, c, seqW_loc (get_last hk3), app_found hk3 (show xs.length < 100 by omega)]
theorem words {st : Sto} {n N m : Nat} (j : JAt st n N) (hm : m ≤ 8) (hN : N + 11 * m ≤ 1000000) :
    ∃ (xs : List Str) (st' : Sto), F_l_words [.loc n, .fz (.int (m : Int))] st = .ok (.own (strsD xs)) st' ∧ xs.length = m ∧ xs.Nodup ∧ (∀ x ∈ xs, Nm x) ∧ JR n st st' (N + 11 * m) := by
  have hn := jat_lt j
  let I : Nat → En → Sto → Prop := fun i en s => ∃ (xs : List Str) (s1 : Sto) (v3 v4 v5 v6 : Option W), en = [some (.loc n), some (.fz (.int (m : Int))), some (.loc st.length), v3, v4, v5, v6] ∧ s = s1 ++ [.lst (strsD xs)] ∧ xs.length = i ∧ xs.Nodup ∧ (∀ x ∈ xs, Nm x) ∧ JR n st s1 (N + 11 * i)
  obtain ⟨en4, st4, e4, hI4⟩ := forL_inv (s := rngS 0 m) (g := gN 3) (b := b_l_words_3) I (rngS 0 m).l 0 [some (.loc n), some (.fz (.int (m : Int))), some (.loc st.length), none, none, none, none] (st ++ [.lst []])
    ⟨[], st, none, none, none, none, rfl, rfl, rfl, List.nodup_nil, (fun _ h => nomatch h), jr_refl j⟩
    (fun i en s d hd hI => by
      obtain ⟨xs, s1, v3, v4, v5, v6, rfl, rfl, hl, hnd, hnm, js⟩ := hI
      rw [Nat.zero_add] at hl js
      have hi : i < m := by
        have := (List.getElem?_eq_some_iff.mp hd).1
        simpa [rngS] using this
      obtain ⟨y, v5', v6', s3, ny, hy, ey, j3⟩ := words_step (m := m) (d := d) (v4 := v4) (v5 := v5) (v6 := v6) (xs := xs) hm (by omega) (jr_len js) js.2 (by omega)
      refine ⟨trivial, _, _, rfl, _, _, .inl ey, ?_⟩
      refine ⟨xs ++ [y], s3, _, _, _, _, rfl, rfl, by rw [List.length_append, List.length_singleton, hl, Nat.zero_add], ?_, ?_, ?_⟩
      · rw [List.nodup_append]
        exact ⟨hnd, by simp, fun a ha b hb e => by rw [List.mem_singleton] at hb; subst hb; subst e; exact hy ha⟩
      · intro z hz
        rcases List.mem_append.mp hz with hz | hz
        · exact hnm z hz
        · rw [List.mem_singleton] at hz; subst hz; exact ny
      · rw [Nat.zero_add]
        exact jr_mono (jr_trans js j3) (by omega))
    (fun en s h => trivial)
  obtain ⟨xs, s4, v3, v4, v5, v6, rfl, rfl, hl, hnd, hnm, js⟩ := hI4
  rw [show (rngS 0 m).l.length = m by simp [rngS], Nat.zero_add] at hl js
  have ls : s4.length = st.length := jr_len js
  refine ⟨xs, s4, ?_, hl, hnd, hnm, js⟩
  have hr : r1S [(m : Int)] = some (rngS 0 m) := r1S_k (by omega)
  have hF : sFor (iR r1S (aCons (dVar 1) aNil)) (gN 3) b_l_words_3 [some (.loc n), some (.fz (.int (m : Int))), some (.loc st.length), none, none, none, none] (st ++ [.lst []]) = .go [some (.loc n), some (.fz (.int (m : Int))), some (.loc st.length), v3, v4, v5, v6] (s4 ++ [.lst (strsD xs)]) := by
    rw [sFor_eq, iR_ok (ws := [.fz (.int (m : Int))]) rfl rfl hr]
    exact e4
  unfold F_l_words fnD d_l_words
  simp [-sFor_eq, hF, sz_le, exitW_loc (Nat.le_refl _) (get_last ls)]
  rw [← ls, List.take_left']
  rfl
/-! ### parts -/
abbrev Side := List (Str × Int)
def memD (p : Str × Int) : D := .tuple [.str p.1, .int p.2]
def sideD (s : Side) : D := .tuple (s.map memD)
def deskD : Option Int → D
  | none => .none
  | some k => .int k
/-- sides and tables as the document wants them -/
structure Fairish (hs gs : Side) (t : Option Int) : Prop where
  h1 : 1 ≤ hs.length
  h4 : hs.length ≤ 4
  g1 : 1 ≤ gs.length
  g4 : gs.length ≤ 4
  nd : ((hs ++ gs).map (·.1)).Nodup
  nm : ∀ z ∈ hs ++ gs, Nm z.1
  bd : ∀ z ∈ hs ++ gs, 1 ≤ z.2 ∧ z.2 ≤ 4
  tb : ∀ k, t = some k → 1 ≤ k ∧ k ≤ 12
/-- names with drawn bounds -/
theorem pairs {n M : Nat} {en0 : En} (h0 : en0[0]? = some (some (.loc n))) (h7 : 7 < en0.length) : ∀ (xs : List Str) (acc : List D) (st : Sto) (N : Nat), JAt st n N → N + xs.length ≤ 1000000 → acc.length + xs.length ≤ 100 →
    ∃ (bs : List Int) (st' : Sto), bs.length = xs.length ∧ (∀ b ∈ bs, 1 ≤ b ∧ b ≤ 4) ∧ JR n st st' (N + xs.length) ∧
      lcL ⟨strsD xs, none⟩ (gN 7) (fun _ st => .ok true st) (dN fTup (aCons (dVar 7) (aCons (dOp fAdd (dC (.int 1)) (dCall 2 F_l_pour [] (aCons (dVar 0) (aCons (dC (.int 4)) aNil)))) aNil))) en0 (strsD xs) acc st = .ok (.own (acc ++ (xs.zip bs).map memD)) st'
  | [], acc, st, N, j, _, _ => ⟨[], st, rfl, (fun _ h => nomatch h), jr_mono (jr_refl j) (by omega), by rw [List.zip_nil_left, List.map_nil, List.append_nil]; exact lcL_nil⟩
  | x :: xs, acc, st, N, j, hN, hl => by
    rw [List.length_cons] at hN hl
    obtain ⟨r, s1, e1, a1, b1, j1⟩ := pour (m := 4) j (by omega) (by decide) (by decide)
    have h0' : (en0.set 7 (some (.fz (.str x))))[0]? = some (some (.loc n)) := by rw [List.getElem?_set_ne (by decide)]; exact h0
    have h7' : (en0.set 7 (some (.fz (.str x))))[7]? = some (some (.fz (.str x))) := List.getElem?_set_self h7
    obtain ⟨bs, s2, hb, hbd, j2, e2⟩ := pairs (M := M) h0 h7 xs (acc ++ [memD (x, 1 + r)]) s1 (N + 1) j1.2 (by omega) (by rw [List.length_append, List.length_singleton]; omega)
    refine ⟨(1 + r) :: bs, s2, by rw [List.length_cons, List.length_cons, hb], fun b hb' => ?_, jr_mono (jr_trans j1 j2) (by rw [List.length_cons]; omega), ?_⟩
    · rcases List.mem_cons.mp hb' with rfl | hb'
      · omega
      · exact hbd b hb'
    have el : dN fTup (aCons (dVar 7) (aCons (dOp fAdd (dC (.int 1)) (dCall 2 F_l_pour [] (aCons (dVar 0) (aCons (dC (.int 4)) aNil)))) aNil)) (en0.set 7 (some (.fz (.str x)))) st = .ok (.fz (memD (x, 1 + r))) s1 := by
      simp [h0', h7', e1, sz_le, memD]
    have lt : acc.length < sizeLine := Nat.lt_of_lt_of_le (show acc.length < 100 by omega) (sz_le (by decide))
    show lcL ⟨PyData.str x :: strsD xs, none⟩ _ _ _ _ (PyData.str x :: strsD xs) acc st = _
    rw [lcL_step (y := memD (x, 1 + r)) rfl el rfl lt]
    refine e2.trans ?_
    rw [List.append_assoc]
    rfl
theorem parts {st : Sto} {n N a b : Nat} (j : JAt st n N) (a1 : 1 ≤ a) (a4 : a ≤ 4) (b1 : 1 ≤ b) (b4 : b ≤ 4) (hN : N + 200 ≤ 1000000) :
    ∃ (hs gs : Side) (t : Option Int) (st' : Sto), F_l_parts [.loc n, .fz (.int (a : Int)), .fz (.int (b : Int))] st = .ok (.fz (.tuple [sideD hs, sideD gs, deskD t])) st' ∧ Fairish hs gs t ∧ hs.length ≤ a ∧ gs.length ≤ b ∧ JR n st st' (N + 200) := by
  obtain ⟨r1, s1, e1, p1, q1, j1⟩ := pour (m := (a : Int)) j (by omega) (by omega) (by omega)
  obtain ⟨r2, s2, e2, p2, q2, j2⟩ := pour (m := (b : Int)) j1.2 (by omega) (by omega) (by omega)
  obtain ⟨h, rfl⟩ := Int.eq_ofNat_of_zero_le p1
  obtain ⟨g, rfl⟩ := Int.eq_ofNat_of_zero_le p2
  obtain ⟨xs, s3, e3, lx, nd, nm, j3⟩ := words (m := (1 + h) + (1 + g)) j2.2 (by omega) (by omega)
  obtain ⟨bs, s4, lb, hbd, j4, e4⟩ := pairs (M := 0) (en0 := wipeE [some (.loc n), some (.fz (.int (a : Int))), some (.fz (.int (b : Int))), some (.fz (.int (1 + (h : Int)))), some (.fz (.int (1 + (g : Int)))), none, none, none] [7]) (n := n) rfl (by simp [wipeE]) xs [] s3 _ j3.2 (by omega) (by simp; omega)
  obtain ⟨r5, s5, e5, p5, q5, j5⟩ := pour (m := 3) j4.2 (by omega) (by decide) (by decide)
  have lz : (xs.zip bs).length = 2 + h + g := by rw [List.length_zip, lb, Nat.min_self, lx]; omega
  -- the pairs
  have e6 : c_l_parts_1 [some (.loc n), some (.fz (.int (a : Int))), some (.fz (.int (b : Int))), some (.fz (.int (1 + (h : Int)))), some (.fz (.int (1 + (g : Int)))), none, none, none] s2 = .ok (.own ((xs.zip bs).map memD)) s4 := by
    have ew : dCall 2 F_l_words [] (aCons (dVar 0) (aCons (dOp fAdd (dVar 3) (dVar 4)) aNil)) [some (.loc n), some (.fz (.int (a : Int))), some (.fz (.int (b : Int))), some (.fz (.int (1 + (h : Int)))), some (.fz (.int (1 + (g : Int)))), none, none, none] s2 = .ok (.own (strsD xs)) s3 := by
      rw [show ((((1 + h) + (1 + g) : Nat)) : Int) = 1 + (h : Int) + (1 + (g : Int)) by omega] at e3
      simp [e3]
    unfold c_l_parts_1
    rw [dLc_eq, iSeq_eq, ew, Rt.bind_ok, srcW_own]
    exact e4
  let ps := xs.zip bs
  have desk : ∃ (t : Option Int) (s6 : Sto), (∀ k, t = some k → 1 ≤ k ∧ k ≤ 12) ∧ JR n s4 s6 (N + 150) ∧ ∀ v5, dIf (bT (dOp (fEq false) (dCall 2 F_l_pour [] (aCons (dVar 0) (aCons (dC (.int 3)) aNil))) (dC (.int 0)))) (dC .none) (dOp fAdd (dC (.int 1)) (dCall 2 F_l_pour [] (aCons (dVar 0) (aCons (dC (.int 12)) aNil))))
      [some (.loc n), some (.fz (.int (a : Int))), some (.fz (.int (b : Int))), some (.fz (.int (1 + (h : Int)))), some (.fz (.int (1 + (g : Int)))), v5, none, none] s4 = .ok (.fz (deskD t)) s6 := by
    by_cases c : r5 = 0
    · refine ⟨none, s5, (fun k hk => nomatch hk), jr_mono j5 (by omega), fun v5 => ?_⟩
      simp [e5, fEq, scaD, eqS, c, deskD]
    · obtain ⟨r6, s6, e6, p6, q6, j6⟩ := pour (m := 12) j5.2 (by omega) (by decide) (by decide)
      refine ⟨some (1 + r6), s6, (fun k hk => by cases hk; omega), jr_mono (jr_trans j5 j6) (by omega), fun v5 => ?_⟩
      simp [e5, e6, fEq, scaD, eqS, c, deskD]
  obtain ⟨t, s6, ht, j6, e7⟩ := desk
  have jj := jr_trans (jr_trans (jr_trans (jr_trans j1 j2) j3) j4) j6
  have l6 : s6.length = st.length := jr_len jj
  refine ⟨ps.take (1 + h), ps.drop (1 + h), t, s6, ?_, ?_, ?_, ?_, jr_mono jj (by omega)⟩
  · have c1 : QD.cutD (ps.map memD) none (some (1 + (h : Int))) = (ps.take (1 + h)).map memD := by
      rw [show (1 + (h : Int)) = ((1 + h : Nat) : Int) by omega, cutD_to (by rw [List.length_map]; show 1 + h ≤ (xs.zip bs).length; omega), List.map_take]
    have c2 : QD.cutD (ps.map memD) (some (1 + (h : Int))) none = (ps.drop (1 + h)).map memD := by
      rw [show (1 + (h : Int)) = ((1 + h : Nat) : Int) by omega, cutD_from (by rw [List.length_map]; show 1 + h ≤ (xs.zip bs).length; omega), List.map_drop]
    have e6' : c_l_parts_1 [some (.loc n), some (.fz (.int (a : Int))), some (.fz (.int (b : Int))), some (.fz (.int (1 + (h : Int)))), some (.fz (.int (1 + (g : Int)))), none, none, none] s2 = .ok (.own (ps.map memD)) s4 := e6
    unfold F_l_parts fnD d_l_parts
    simp [-dIf_eq, e1, e2, e6', e7, dSl_eq, oNone_eq, oSome_eq, fSlL_fz, fTupOf_own, c1, c2, sz_le, l6.symm, sideD]
  · have hp : ∀ z ∈ ps, Nm z.1 ∧ 1 ≤ z.2 ∧ z.2 ≤ 4 := fun z hz => by
      have := List.of_mem_zip (a := z.1) (b := z.2) hz
      exact ⟨nm _ this.1, hbd _ this.2⟩
    have hf : ps.map (·.1) = xs := List.map_fst_zip (by omega)
    refine ⟨?_, ?_, ?_, ?_, by rw [List.take_append_drop, hf]; exact nd, fun z hz => (hp z (by rw [List.take_append_drop] at hz; exact hz)).1, fun z hz => (hp z (by rw [List.take_append_drop] at hz; exact hz)).2, ht⟩
    · rw [List.length_take]; show 1 ≤ min (1 + h) (xs.zip bs).length; omega
    · rw [List.length_take]; show min (1 + h) (xs.zip bs).length ≤ 4; omega
    · rw [List.length_drop]; show 1 ≤ (xs.zip bs).length - (1 + h); omega
    · rw [List.length_drop]; show (xs.zip bs).length - (1 + h) ≤ 4; omega
  · rw [List.length_take]; show min (1 + h) (xs.zip bs).length ≤ a; omega
  · rw [List.length_drop]; show (xs.zip bs).length - (1 + h) ≤ b; omega
end K14
/-! MB: fairs made. -/
namespace K14
open PySem PySem.Spec PyProof.Rows L2 MG QD MU
theorem isi_eq {w x : QD.W} {st : Sto} : fIsi w x st = match tykW st w, clsW x with
  | some a, some b => .ok (.fz (.bool (isT a b))) st
  | _, _ => .no := (rfl)
theorem cls_int : clsW (.fz (tyD "int")) = some (.b "int") := by
  show (bts.find? fun b => decide (Str.ofString b = Str.ofString "int")).map Tyk.b = _
  rw [show (bts.find? fun b => decide (Str.ofString b = Str.ofString "int")) = some "int" by decide +kernel]
  rfl
theorem cls_bool : clsW (.fz (tyD "bool")) = some (.b "bool") := by
  show (bts.find? fun b => decide (Str.ofString b = Str.ofString "bool")).map Tyk.b = _
  rw [show (bts.find? fun b => decide (Str.ofString b = Str.ofString "bool")) = some "bool" by decide +kernel]
  rfl
theorem cls_str : clsW (.fz (tyD "str")) = some (.b "str") := by
  show (bts.find? fun b => decide (Str.ofString b = Str.ofString "str")).map Tyk.b = _
  rw [show (bts.find? fun b => decide (Str.ofString b = Str.ofString "str")) = some "str" by decide +kernel]
  rfl
theorem cls_tup : clsW (.fz (tyD "tuple")) = some (.b "tuple") := by
  show (bts.find? fun b => decide (Str.ofString b = Str.ofString "tuple")).map Tyk.b = _
  rw [show (bts.find? fun b => decide (Str.ofString b = Str.ofString "tuple")) = some "tuple" by decide +kernel]
  rfl
theorem isi_int_int {i : Int} {st : Sto} : fIsi (.fz (.int i)) (.fz (tyD "int")) st = .ok (.fz (.bool true)) st := by rw [isi_eq, cls_int]; rfl
theorem isi_int_bool {i : Int} {st : Sto} : fIsi (.fz (.int i)) (.fz (tyD "bool")) st = .ok (.fz (.bool false)) st := by rw [isi_eq, cls_bool]; rfl
theorem isi_str {i : Str} {st : Sto} : fIsi (.fz (.str i)) (.fz (tyD "str")) st = .ok (.fz (.bool true)) st := by rw [isi_eq, cls_str]; rfl
theorem isi_tup {l : List D} {st : Sto} : fIsi (.fz (.tuple l)) (.fz (tyD "tuple")) st = .ok (.fz (.bool true)) st := by rw [isi_eq, cls_tup]; rfl
theorem is_integer {v a b : Int} {st : Sto} : F_is_integer [.fz (.int v), .fz (.int a), .fz (.int b)] st = .ok (.fz (.bool (decide (a ≤ v) && decide (v ≤ b)))) st := by
  unfold F_is_integer fnD d_is_integer
  by_cases h1 : a ≤ v <;> by_cases h2 : v ≤ b <;> simp [isi_int_int, isi_int_bool, h1, h2]
theorem is_pair {a b : D} {st : Sto} : F_is_pair [.fz (.tuple [a, b])] st = .ok (.fz (.bool true)) st := by
  unfold F_is_pair fnD d_is_pair
  simp [isi_tup, fEq, scaD, eqS, fLen]
theorem is_name {x : Str} (h : Nm x) {st : Sto} : F_is_name [.fz (.str x)] st = .ok (.fz (.bool true)) st := by
  obtain ⟨l1, l8⟩ := Nm.len h
  have ls : x.length ≤ sizeLine := sz_le (by omega)
  unfold Nm at h
  cases ex : x.cps.toList with
  | nil => rw [ex] at h; cases h
  | cons c r =>
    rw [ex] at h
    obtain ⟨h1, h2⟩ := Bool.and_eq_true_iff.mp h
    obtain ⟨h1, _⟩ := Bool.and_eq_true_iff.mp h1
    have all : ∀ d ∈ x.cps.toList, signB d = true := fun d hd => by
      rw [ex] at hd
      rcases List.mem_cons.mp hd with rfl | hd
      · unfold signB; rw [h1]; rfl
      · exact List.all_eq_true.mp h2 d hd
    have len : x.cps.toList.length = x.length := Array.length_toList
    have e : c_is_name_1 [some (.fz (.str x)), none] st = .ok (.own (x.cps.toList.map fun c => .bool (signB c))) st := by
      unfold c_is_name_1
      simp only [dLc_eq, iSeq_eq, dVar_eq, List.getElem?_cons_zero, Rt.bind_ok, srcS_fz]
      rw [lcL_map (f := fun d => match d with | .str z => .bool (signB (z.cps.getD 0 0)) | _ => .none) _ _ rfl (fun d hd => by
        obtain ⟨c, hc, rfl⟩ := List.mem_map.mp hd
        refine ⟨_, .fz (.bool (signB c)), rfl, ?_, rfl⟩
        have : fInS false (.fz (.str ⟨#[c]⟩)) (.fz (.str "abcdefghijklmnopqrstuvwxyz0123456789")) st = .ok (.fz (.bool (signB c))) st := by
          show Rt.ok (QD.W.fz (.bool (decide (c ∈ SIGNS.cps.toList)))) st = _
          rw [in_signs]
        simp [wipeE, this]) (by rw [List.length_map, len]; exact sz_le (by simp; omega))]
      rw [List.nil_append, List.map_map]
      rfl
    have bl : ∀ l : List Nat, blL (l.map fun c => PyData.bool (signB c)) = some (l.map signB) := fun l => by
      induction l with
      | nil => rfl
      | cons a l ih => show (blL (l.map fun c => PyData.bool (signB c))).map _ = _; rw [ih]; rfl
    have ea : fBls (fun bs => bs.all id) (.own (x.cps.toList.map fun c => .bool (signB c))) st = .ok (.fz (.bool true)) st := by
      unfold fBls
      rw [seqR_own, Option.bind_some, bl]
      have : (x.cps.toList.map signB).all id = true := by
        rw [List.all_eq_true]
        intro b hb
        obtain ⟨c, hc, rfl⟩ := List.mem_map.mp hb
        exact all c hc
      simp only [this]
    have e0 : fIxS (.fz (.str x)) (.fz (.int 0)) st = .ok (.fz (.str ⟨#[c]⟩)) st := by
      rw [fIxS_eq, if_pos ls, atI_0, ex]
      rfl
    have e1 : fInS false (.fz (.str ⟨#[c]⟩)) (.fz (.str "abcdefghijklmnopqrstuvwxyz")) st = .ok (.fz (.bool true)) st := by
      show Rt.ok (QD.W.fz (.bool (decide (c ∈ ("abcdefghijklmnopqrstuvwxyz" : Str).cps.toList)))) st = _
      rw [in_low, h1]
    have e2 : fLenS (.fz (.str x)) st = .ok (.fz (.int x.length)) st := by
      unfold fLenS
      simp only [strW_fz, if_pos ls]
    unfold F_is_name fnD d_is_name
    simp [-fIxS_eq, isi_str, e, ea, e0, e1, e2, show (1 : Int) ≤ (x.length : Int) by omega, show (x.length : Int) ≤ 8 by omega]
theorem names_of {s : Side} (h : s.length ≤ 100) {st : Sto} : F_names_of [.fz (sideD s)] st = .ok (.fz (.tuple (s.map fun z => .str z.1))) st := by
  have e : c_names_of_1 [some (.fz (sideD s)), none] st = .ok (.own (s.map fun z => .str z.1)) st := by
    unfold c_names_of_1 sideD
    simp only [dLc_eq, iSeq_eq, dVar_eq, List.getElem?_cons_zero, Rt.bind_ok, srcT_fz]
    rw [lcL_map (f := fun d => match d with | .tuple [.str x, _] => .str x | _ => .none) _ _ rfl (fun d hd => by
      obtain ⟨z, _, rfl⟩ := List.mem_map.mp hd
      refine ⟨_, .fz (.str z.1), rfl, ?_, rfl⟩
      simp [wipeE, memD]) (by simp; exact sz_le (by omega))]
    rw [List.nil_append, List.map_map]
    rfl
  unfold F_names_of fnD d_names_of
  simp [e, fTupOf_own]
theorem is_member {z : Str × Int} (h : Nm z.1) (h1 : 1 ≤ z.2) (h4 : z.2 ≤ 4) {st : Sto} : F_is_member [.fz (memD z)] st = .ok (.fz (.bool true)) st := by
  unfold F_is_member fnD d_is_member memD
  simp [is_pair, is_name h, is_integer, h1, h4]
/-! ### _fault: a right side has none -/
theorem fault {s : Side} {taken : List Str} (h1 : 1 ≤ s.length) (h4 : s.length ≤ 4) (ht : taken.length ≤ 8) (nd : (taken ++ s.map (·.1)).Nodup) (nm : ∀ z ∈ s, Nm z.1) (bd : ∀ z ∈ s, 1 ≤ z.2 ∧ z.2 ≤ 4) {st : Sto} :
    F_fault [.fz (sideD s), .fz (.tuple (strsD taken))] st = .ok (.fz (.tuple [])) st := by
  let I : Nat → En → Sto → Prop := fun i en s' => ∃ v3 v4, en = [some (.fz (sideD s)), some (.fz (.tuple (strsD taken))), some (.loc st.length), v3, v4] ∧ s' = st ++ [.lst (strsD (taken ++ (s.take i).map (·.1)))]
  have el : (enuD (s.map memD)).length = s.length := by unfold enuD; simp
  obtain ⟨en4, st4, e4, v3, v4, rfl, rfl⟩ := forL_inv (s := ⟨enuD (s.map memD), none⟩) (g := gT 2 (gsCons (gN 3) (gsCons (gN 4) gsNil))) (b := b_fault_1) I (enuD (s.map memD)) 0 [some (.fz (sideD s)), some (.fz (.tuple (strsD taken))), some (.loc st.length), none, none] (st ++ [.lst (strsD taken)]) ⟨none, none, rfl, by simp⟩
    (fun i en s' d hd hI => by
      obtain ⟨v3, v4, rfl, rfl⟩ := hI
      obtain ⟨hl, rfl, hg⟩ := enu_get hd
      rw [List.length_map] at hl
      have hz : (s.map memD).getD i .none = memD s[i] := by rw [List.getD_eq_getElem?_getD, List.getElem?_map, List.getElem?_eq_getElem hl]; rfl
      have mz : s[i] ∈ s := List.getElem_mem hl
      have ni : s[i].1 ∉ taken ++ (s.take (0 + i)).map (·.1) := by
        rw [Nat.zero_add]
        intro hm
        have hs : s = s.take i ++ s[i] :: s.drop (i + 1) := by rw [← List.drop_eq_getElem_cons hl, List.take_append_drop]
        rw [hs, List.map_append, List.map_cons, ← List.append_assoc, List.nodup_append] at nd
        exact nd.2.2 _ hm _ (List.mem_cons_self ..) rfl
      refine ⟨trivial, [some (.fz (sideD s)), some (.fz (.tuple (strsD taken))), some (.loc st.length), some (.fz (.int (i : Nat))), some (.fz (memD s[i]))], st ++ [.lst (strsD (taken ++ (s.take (0 + i)).map (·.1)))], by rw [hz]; rfl, [some (.fz (sideD s)), some (.fz (.tuple (strsD taken))), some (.loc st.length), some (.fz (.int (i : Nat))), some (.fz (memD s[i]))], st ++ [.lst (strsD (taken ++ (s.take (0 + i)).map (·.1) ++ [s[i].1]))], .inl ?_, some (.fz (.int (i : Nat))), some (.fz (memD s[i])), rfl, ?_⟩
      · have l100 : (taken ++ (s.take (0 + i)).map (·.1)).length < 100 := by rw [List.length_append, List.length_map, List.length_take]; omega
        unfold b_fault_1
        generalize taken ++ (s.take (0 + i)).map (·.1) = X at ni l100 ⊢
        have em := is_member (nm _ mz) (bd _ mz).1 (bd _ mz).2 (st := st ++ [.lst (strsD X)])
        generalize s[i] = z at em ni ⊢
        have e1 : dOp fIxT (dVar 4) (dC (.int 0)) [some (.fz (sideD s)), some (.fz (.tuple (strsD taken))), some (.loc st.length), some (.fz (.int (i : Nat))), some (.fz (memD z))] (st ++ [.lst (strsD X)]) = .ok (.fz (.str z.1)) (st ++ [.lst (strsD X)]) := by simp [memD]
        have e2 : fIn false (.fz (.str z.1)) (.loc st.length) (st ++ [Ob.lst (strsD X)]) = .ok (.fz (.bool false)) (st ++ [Ob.lst (strsD X)]) := by
          rw [in_found rfl]
          simp [ni]
        unfold memD at em
        have e3 := app_found (s := st) rfl l100 z.1
        simp [em, fEq, scaD, eqS, show ¬ ((i : Int) = 4) by omega, e2, memD, seqW_loc (get_last (s := st) (o := .lst (strsD X)) rfl), e3]
      · rw [List.append_assoc, Nat.zero_add, List.take_add_one, List.getElem?_eq_getElem hl, List.map_append]
        rfl)
    (fun en s h => trivial)
  obtain ⟨sE, hsE⟩ : ∃ sE, sE = st ++ [Ob.lst (strsD (taken ++ (s.take (0 + (enuD (s.map memD)).length)).map (·.1)))] := ⟨_, rfl⟩
  rw [← hsE] at e4
  have lE : sE.take st.length = st := by rw [hsE, List.take_left']; rfl
  have eF : sFor (iEnu true (dVar 0)) (gT 2 (gsCons (gN 3) (gsCons (gN 4) gsNil))) b_fault_1 [some (.fz (sideD s)), some (.fz (.tuple (strsD taken))), some (.loc st.length), none, none] (st ++ [.lst (strsD taken)]) = .go [some (.fz (sideD s)), some (.fz (.tuple (strsD taken))), some (.loc st.length), v3, v4] sE := by
    rw [sFor_eq, iEnu_eq]
    simp only [dVar_eq, List.getElem?_cons_zero, Rt.bind_ok, kndW_fz, sideD, kndD_tup, if_true, sBind_ok]
    exact e4
  have tr : ∀ l : Sto, truW l (.fz (sideD s)) = some true := fun l => by
    have : s ≠ [] := fun e => by subst e; simp at h1
    unfold truW sideD
    simp [this]
  unfold F_fault fnD d_fault
  have tr' : ∀ l : Sto, truW l (.fz (.tuple (s.map memD))) = some true := tr
  unfold sideD at eF ⊢
  simp [-sFor_eq, isi_tup, tr', fLstOf, eF, sz_le, lE]
/-! ### the text -/
theorem js2 {k : Str} {z : Str × Int} {en : En} {st : Sto} {i j : Nat} (hi : en[i]? = some (some (.fz (.str z.1)))) (hj : en[j]? = some (some (.fz (.int z.2)))) (hk : k.length ≤ 6) (h8 : z.1.length ≤ 8) (h1 : 1 ≤ z.2) (h4 : z.2 ≤ 4) :
    ∃ x : Str, x.length ≤ 17 ∧ dJs [(dC (.str k)), (dFmt (dVar i)), (dC (.str " ")), (dFmt (dVar j))] en st = .ok (.fz (.str x)) st := by
  have n2 : (num z.2).length ≤ 2 := num_len (by omega) (by omega)
  have l1 : (Str.empty ++ k).length ≤ sizeLine := by rw [app_len]; exact sz_le (by show 0 + _ ≤ _; omega)
  have l2 : (Str.empty ++ k ++ z.1).length ≤ sizeLine := by rw [app_len, app_len]; exact sz_le (by show 0 + _ + _ ≤ _; omega)
  have sp : (" " : Str).length = 1 := by decide +kernel
  have l3 : (Str.empty ++ k ++ z.1 ++ " ").length ≤ sizeLine := by rw [app_len, app_len, app_len, sp]; exact sz_le (by show 0 + _ + _ + _ ≤ _; omega)
  have l4 : (Str.empty ++ k ++ z.1 ++ " " ++ num z.2).length ≤ 17 := by rw [app_len, app_len, app_len, app_len, sp]; show 0 + _ + _ + _ + _ ≤ _; omega
  have f1 : dFmt (dVar i) en st = .ok (.fz (.str z.1)) st := by
    unfold dFmt
    simp only [dVar_eq, hi, Rt.bind_ok, if_pos (sz_le (show z.1.length ≤ 100000 by omega))]
  have f2 : dFmt (dVar j) en st = .ok (.fz (.str (num z.2))) st := by
    unfold dFmt
    simp only [dVar_eq, hj, Rt.bind_ok, if_pos (int_small (show 0 ≤ z.2 by omega) (by omega))]
    rfl
  refine ⟨_, l4, ?_⟩
  unfold dJs
  simp only [jsD, dC_eq, Rt.bind_ok, strW_fz, if_pos l1, f1, if_pos l2, if_pos l3, f2, if_pos (sz_le (show _ ≤ 100000 from Nat.le_trans l4 (by decide)))]
theorem rows_of {k : Str} {s : Side} {en : En} {st : Sto} (hk : k.length ≤ 6) (h4 : s.length ≤ 4) (nm : ∀ z ∈ s, Nm z.1) (bd : ∀ z ∈ s, 1 ≤ z.2 ∧ z.2 ≤ 4) (hl : 5 < en.length) :
    ∃ xs : List Str, xs.length = s.length ∧ (∀ x ∈ xs, x.length ≤ 17) ∧ lcL ⟨s.map memD, none⟩ (gT 2 (gsCons (gN 4) (gsCons (gN 5) gsNil))) (fun _ st => .ok true st) (dJs [(dC (.str k)), (dFmt (dVar 4)), (dC (.str " ")), (dFmt (dVar 5))]) en (s.map memD) [] st = .ok (.own (strsD xs)) st := by
  suffices H : ∀ (s : Side) (acc : List Str), (∀ z ∈ s, Nm z.1) → (∀ z ∈ s, 1 ≤ z.2 ∧ z.2 ≤ 4) → acc.length + s.length ≤ 10 → ∃ xs : List Str, xs.length = s.length ∧ (∀ x ∈ xs, x.length ≤ 17) ∧ lcL ⟨s.map memD, none⟩ (gT 2 (gsCons (gN 4) (gsCons (gN 5) gsNil))) (fun _ st => .ok true st) (dJs [(dC (.str k)), (dFmt (dVar 4)), (dC (.str " ")), (dFmt (dVar 5))]) en (s.map memD) (strsD acc) st = .ok (.own (strsD (acc ++ xs))) st by
    obtain ⟨xs, h1, h2, h3⟩ := H s [] nm bd (by simp; omega)
    exact ⟨xs, h1, h2, h3⟩
  intro s
  induction s with
  | nil => exact fun acc _ _ _ => ⟨[], rfl, (fun _ h => nomatch h), by rw [List.append_nil]; exact lcL_nil⟩
  | cons z s ih =>
    intro acc nm bd hl'
    rw [List.length_cons] at hl'
    have b := bd z (List.mem_cons_self ..)
    obtain ⟨x, lx, ex⟩ := js2 (k := k) (z := z) (en := (en.set 4 (some (.fz (.str z.1)))).set 5 (some (.fz (.int z.2)))) (st := st) (i := 4) (j := 5) (by rw [List.getElem?_set_ne (by decide), List.getElem?_set_self (by omega)]) (by rw [List.getElem?_set_self (by rw [List.length_set]; omega)]) hk (Nm.len (nm z (List.mem_cons_self ..))).2 b.1 b.2
    obtain ⟨xs, h1, h2, h3⟩ := ih (acc ++ [x]) (fun z hz => nm z (List.mem_cons_of_mem _ hz)) (fun z hz => bd z (List.mem_cons_of_mem _ hz)) (by rw [List.length_append, List.length_singleton]; omega)
    refine ⟨x :: xs, by rw [List.length_cons, List.length_cons, h1], fun y hy => ?_, ?_⟩
    · rcases List.mem_cons.mp hy with rfl | hy
      · exact lx
      · exact h2 y hy
    · rw [List.map_cons, lcL_step (en2 := (en.set 4 (some (.fz (.str z.1)))).set 5 (some (.fz (.int z.2)))) (y := .str x) rfl ex rfl (by rw [List.length_map]; exact Nat.lt_of_lt_of_le (show acc.length < 100 by omega) (sz_le (by decide)))]
      rw [show strsD acc ++ [.str x] = strsD (acc ++ [x]) by simp, h3, List.append_assoc]
      rfl
theorem strL_strs (xs : List Str) : strL (strsD xs) = some xs := strL_map xs
theorem text_of {hs gs : Side} {t : Option Int} (f : Fairish hs gs t) {st : Sto} : ∃ x : Str, F_text_of [.fz (sideD hs), .fz (sideD gs), .fz (deskD t)] st = .ok (.fz (.str x)) st := by
  obtain ⟨x1, l1, w1, e1⟩ := rows_of (k := "host ") (s := hs) (en := wipeE [some (.fz (sideD hs)), some (.fz (sideD gs)), some (.fz (deskD t)), none, none, none] [4, 5]) (st := st) (by decide +kernel) f.h4 (fun z hz => f.nm z (List.mem_append_left _ hz)) (fun z hz => f.bd z (List.mem_append_left _ hz)) (by simp [wipeE])
  obtain ⟨x2, l2, w2, e2⟩ := rows_of (k := "guest ") (s := gs) (en := wipeE [some (.fz (sideD hs)), some (.fz (sideD gs)), some (.fz (deskD t)), some (.loc st.length), none, none] [4, 5]) (st := st ++ [.lst (strsD x1)]) (by decide +kernel) f.g4 (fun z hz => f.nm z (List.mem_append_right _ hz)) (fun z hz => f.bd z (List.mem_append_right _ hz)) (by simp [wipeE])
  have c1 : c_text_of_1 [some (.fz (sideD hs)), some (.fz (sideD gs)), some (.fz (deskD t)), none, none, none] st = .ok (.own (strsD x1)) st := by
    unfold c_text_of_1
    rw [dLc_eq, iSeq_eq]
    exact e1
  have c2 : c_text_of_2 [some (.fz (sideD hs)), some (.fz (sideD gs)), some (.fz (deskD t)), some (.loc st.length), none, none] (st ++ [.lst (strsD x1)]) = .ok (.own (strsD x2)) (st ++ [.lst (strsD x1)]) := by
    unfold c_text_of_2
    rw [dLc_eq, iSeq_eq]
    exact e2
  have h4 := f.h4
  have g4 := f.g4
  have ext : fChg (gExt (st ++ [.lst (strsD x1)])) (.loc st.length) [.own (strsD x2)] (st ++ [.lst (strsD x1)]) = .ok (.fz .none) (st ++ [.lst (strsD (x1 ++ x2))]) := by
    have l : (strsD x1).length + (strsD x2).length ≤ sizeLine := by rw [List.length_map, List.length_map]; exact sz_le (by omega)
    unfold fChg
    simp only [get_last rfl, gExt, seqW_own, if_pos l, set_last rfl]
    rw [show strsD (x1 ++ x2) = strsD x1 ++ strsD x2 by simp]
  have jn : ∀ xs : List Str, xs.length ≤ 9 → (∀ x ∈ xs, x.length ≤ 17) → ∀ en : En, en[3]? = some (some (.loc st.length)) → ∃ y, dJoin (dC (.str "\n")) (dVar 3) en (st ++ [.lst (strsD xs)]) = .ok (.fz (.str y)) (st ++ [.lst (strsD xs)]) := fun xs hl hw en h3 => by
    have s1 := sum_le (c := 17) xs hw
    have nl : ("\n" : Str).length = 1 := by decide +kernel
    have c : (xs.map (·.length)).sum + xs.length * ("\n" : Str).length ≤ 16777216 := by rw [nl]; omega
    refine ⟨Txt.join "\n" xs, ?_⟩
    unfold dJoin
    simp only [dC_eq, Rt.bind_ok, strW_fz, dVar_eq, h3, anyW_loc, seqW_loc (get_last (s := st) (o := .lst (strsD xs)) rfl), Option.bind_some, strL_strs, if_pos c]
  have ls : ∀ l, (st ++ [Ob.lst l]).take st.length = st := fun l => by rw [List.take_left']; rfl
  have sq : ∀ l, seqW (st ++ [Ob.lst l]) (.loc st.length) = some l := fun l => seqW_loc (get_last rfl)
  cases t with
  | none =>
    obtain ⟨y, ey⟩ := jn (x1 ++ x2) (by rw [List.length_append]; omega) (fun x hx => (List.mem_append.mp hx).elim (w1 x) (w2 x)) [some (.fz (sideD hs)), some (.fz (sideD gs)), some (.fz (deskD none)), some (.loc st.length), none, none] rfl
    refine ⟨y, ?_⟩
    have nd : noneW (.fz (deskD none)) = true := rfl
    unfold F_text_of fnD d_text_of
    simp only [List.map_append] at ext ey
    simp [c1, c2, ext, nd, sq, ey, ls]
  | some k =>
    have kb := f.tb k rfl
    have nk : (num k).length ≤ 2 := num_len (by omega) (by omega)
    have tl : ("tables " : Str).length = 7 := by decide +kernel
    have q1 : (Str.empty ++ ("tables " : Str)).length ≤ sizeLine := by rw [app_len, tl]; exact sz_le (by show 0 + _ ≤ _; omega)
    have q2 : (Str.empty ++ ("tables " : Str) ++ num k).length ≤ 17 := by rw [app_len, app_len, tl]; show 0 + _ + _ ≤ _; omega
    have ej : dJs [(dC (.str "tables ")), (dFmt (dVar 2))] [some (.fz (sideD hs)), some (.fz (sideD gs)), some (.fz (deskD (some k))), some (.loc st.length), none, none] (st ++ [.lst (strsD (x1 ++ x2))]) = .ok (.fz (.str (Str.empty ++ ("tables " : Str) ++ num k))) (st ++ [.lst (strsD (x1 ++ x2))]) := by
      have f2 : dFmt (dVar 2) [some (.fz (sideD hs)), some (.fz (sideD gs)), some (.fz (deskD (some k))), some (.loc st.length), none, none] (st ++ [.lst (strsD (x1 ++ x2))]) = .ok (.fz (.str (num k))) (st ++ [.lst (strsD (x1 ++ x2))]) := by
        unfold dFmt
        simp only [dVar_eq, List.getElem?_cons_succ, List.getElem?_cons_zero, deskD, Rt.bind_ok, if_pos (int_small (show 0 ≤ k by omega) (by omega))]
        rfl
      unfold dJs
      simp only [jsD, dC_eq, Rt.bind_ok, strW_fz, if_pos q1, f2, if_pos (sz_le (show _ ≤ 100000 from Nat.le_trans q2 (by decide)))]
    have ap := app_found (s := st) (xs := x1 ++ x2) rfl (by rw [List.length_append]; omega) (Str.empty ++ ("tables " : Str) ++ num k)
    obtain ⟨y, ey⟩ := jn (x1 ++ x2 ++ [Str.empty ++ ("tables " : Str) ++ num k]) (by rw [List.length_append, List.length_append, List.length_singleton]; omega) (fun x hx => by
      rcases List.mem_append.mp hx with hx | hx
      · exact (List.mem_append.mp hx).elim (w1 x) (w2 x)
      · rw [List.mem_singleton] at hx; subst hx; exact q2) [some (.fz (sideD hs)), some (.fz (sideD gs)), some (.fz (deskD (some k))), some (.loc st.length), none, none] rfl
    refine ⟨y, ?_⟩
    have nd : noneW (.fz (deskD (some k))) = false := rfl
    generalize Str.empty ++ ("tables " : Str) ++ num k = z at ej ap ey
    unfold F_text_of fnD d_text_of
    simp only [List.map_append, List.append_assoc, List.map_cons, List.map_nil] at ext ey ap ej
    simp [c1, c2, ext, nd, sq, ey, ls, ej, ap]
/-! ### a fair is made -/
def fairD (hs gs : Side) (t : Option Int) (x : Str) : D := obD 0 [sideD hs, sideD gs, deskD t, .tuple (strsD ((hs ++ gs).map (·.1))), .str x]
theorem fld_step {f : Str} {d : D} {fs fs' : List (Str × D)} {b : Dn} {w : QD.W} {en : En} {st : Sto} (h0 : en[0]? = some (some (.loc st.length))) (hb : b en (st ++ [.ins 0 fs]) = .ok w (st ++ [.ins 0 fs])) (hd : datW w = some d) (hp : putD f d fs = fs') (hl : fs.length < 1000) :
    sFldD 0 f (dVar 0) b en (st ++ [.ins 0 fs]) = .go en (st ++ [.ins 0 fs']) := by
  have g := get_last (s := st) (o := .ins 0 fs) rfl
  have s' := set_last (s := st) (o := .ins 0 fs) (p := .ins 0 fs') rfl
  unfold sFldD
  simp [hb, h0, hd, g, hl, hp, s']
theorem putD_new {f : Str} {d : D} : ∀ {fs : List (Str × D)}, (∀ p ∈ fs, p.1 ≠ f) → putD f d fs = fs ++ [(f, d)]
  | [], _ => rfl
  | (g, x) :: r, h => by
    unfold putD
    rw [if_neg (h _ (List.mem_cons_self ..)), putD_new fun p hp => h p (List.mem_cons_of_mem _ hp)]
    rfl
theorem init {hs gs : Side} {t : Option Int} (f : Fairish hs gs t) {st : Sto} : ∃ x : Str, F_Fairu_initu [.loc st.length, .fz (sideD hs), .fz (sideD gs), .fz (deskD t)] (st ++ [.ins 0 []]) = .ok (.fz .none) (st ++ [.ins 0 [("_hosts", sideD hs), ("_guests", sideD gs), ("_tables", deskD t), ("_names", .tuple (strsD ((hs ++ gs).map (·.1)))), ("_text", .str x)]]) := by
  obtain ⟨nl, hnl⟩ : ∃ nl, nl = strsD ((hs ++ gs).map (·.1)) := ⟨_, rfl⟩
  rw [← hnl]
  obtain ⟨x, ex⟩ := text_of f (st := st ++ [.ins 0 [("_hosts", sideD hs), ("_guests", sideD gs), ("_tables", deskD t), ("_names", .tuple nl)]])
  refine ⟨x, ?_⟩
  have h4 := f.h4
  have g4 := f.g4
  have nd2 := f.nd
  rw [List.map_append] at nd2
  have e1 := fun s => fault (taken := []) (s := hs) f.h1 f.h4 (by decide) (List.nodup_append.mp nd2).1 (fun z hz => f.nm z (List.mem_append_left _ hz)) (fun z hz => f.bd z (List.mem_append_left _ hz)) (st := s)
  have e2 := fun s => fault (taken := hs.map (·.1)) (s := gs) f.g1 f.g4 (by rw [List.length_map]; omega) nd2 (fun z hz => f.nm z (List.mem_append_right _ hz)) (fun z hz => f.bd z (List.mem_append_right _ hz)) (st := s)
  have n1 := fun s => names_of (s := hs) (by omega) (st := s)
  have n2 := fun s => names_of (s := gs) (by omega) (st := s)
  have tb : ∀ en s, en[3]? = some (some (.fz (deskD t))) → bAnd (bT (dOp (fIs true) (dVar 3) (dC .none))) (bNot (bT (dCall 3 F_is_integer [] (aCons (dVar 3) (aCons (dC (.int 1)) (aCons (dC (.int 12)) aNil)))))) en s = .ok false s := fun en s h3 => by
    cases t with
    | none => simp [h3, deskD]
    | some k =>
      have := f.tb k rfl
      simp [h3, deskD, is_integer, this.1, this.2]
  have sq : ∀ fs, (st ++ [Ob.ins 0 fs])[st.length]? = some (.ins 0 fs) := fun fs => get_last rfl
  have ss : ∀ fs gs', (st ++ [Ob.ins 0 fs]).set st.length (.ins 0 gs') = st ++ [.ins 0 gs'] := fun fs gs' => set_last rfl
  have nm : ∀ s : Sto, dOp fCatT (dCall 1 F_names_of [] (aCons (dVar 1) aNil)) (dCall 1 F_names_of [] (aCons (dVar 2) aNil)) [some (.loc st.length), some (.fz (sideD hs)), some (.fz (sideD gs)), some (.fz (deskD t)), some (.fz (.tuple []))] s = .ok (.fz (.tuple nl)) s := fun s => by
    have a3 : (hs.map fun z => PyData.str z.1).length + (gs.map fun z => PyData.str z.1).length ≤ sizeLine := by rw [List.length_map, List.length_map]; exact sz_le (by omega)
    simp only [List.length_map] at a3
    simp [n1, n2, fCatT, a3, hnl]
    rfl
  have k1 := fld_step (f := "_hosts") (d := sideD hs) (fs' := [("_hosts", sideD hs)]) (fs := []) (b := dVar 1) (en := [some (.loc st.length), some (.fz (sideD hs)), some (.fz (sideD gs)), some (.fz (deskD t)), some (.fz (.tuple []))]) (st := st) rfl rfl rfl rfl (by decide)
  have k2 := fld_step (f := "_guests") (d := sideD gs) (fs' := [("_hosts", sideD hs), ("_guests", sideD gs)]) (fs := [("_hosts", sideD hs)]) (b := dVar 2) (en := [some (.loc st.length), some (.fz (sideD hs)), some (.fz (sideD gs)), some (.fz (deskD t)), some (.fz (.tuple []))]) (st := st) rfl rfl rfl ((putD_new (by intro p hp; simp at hp; subst hp; (dsimp only; decide +kernel))).trans rfl) (by show 1 < 1000; decide)
  have k3 := fld_step (f := "_tables") (d := deskD t) (fs' := [("_hosts", sideD hs), ("_guests", sideD gs), ("_tables", deskD t)]) (fs := [("_hosts", sideD hs), ("_guests", sideD gs)]) (b := dVar 3) (en := [some (.loc st.length), some (.fz (sideD hs)), some (.fz (sideD gs)), some (.fz (deskD t)), some (.fz (.tuple []))]) (st := st) rfl rfl rfl ((putD_new (by intro p hp; simp at hp; rcases hp with rfl | rfl <;> (dsimp only; decide +kernel))).trans rfl) (by show 2 < 1000; decide)
  have k4 := fld_step (f := "_names") (d := .tuple nl) (fs' := [("_hosts", sideD hs), ("_guests", sideD gs), ("_tables", deskD t), ("_names", .tuple nl)]) (fs := [("_hosts", sideD hs), ("_guests", sideD gs), ("_tables", deskD t)]) (en := [some (.loc st.length), some (.fz (sideD hs)), some (.fz (sideD gs)), some (.fz (deskD t)), some (.fz (.tuple []))]) (st := st) rfl (nm _) rfl ((putD_new (by intro p hp; simp at hp; rcases hp with rfl | rfl | rfl <;> (dsimp only; decide +kernel))).trans rfl) (by show 3 < 1000; decide)
  have k5 := fld_step (f := "_text") (d := .str x) (fs' := [("_hosts", sideD hs), ("_guests", sideD gs), ("_tables", deskD t), ("_names", .tuple nl), ("_text", .str x)]) (fs := [("_hosts", sideD hs), ("_guests", sideD gs), ("_tables", deskD t), ("_names", .tuple nl)]) (b := dCall 3 F_text_of [] (aCons (dVar 1) (aCons (dVar 2) (aCons (dVar 3) aNil)))) (w := .fz (.str x)) (en := [some (.loc st.length), some (.fz (sideD hs)), some (.fz (sideD gs)), some (.fz (deskD t)), some (.fz (.tuple []))]) (st := st) rfl (by simp [ex]) rfl ((putD_new (by intro p hp; simp at hp; rcases hp with rfl | rfl | rfl | rfl <;> (dsimp only; decide +kernel))).trans rfl) (by show 4 < 1000; decide)
  unfold F_Fairu_initu fnD d_Fairu_initu
  have e1' := fun s => e1 s
  simp only [strsD, List.map_nil] at e1'
  simp only [strsD, List.map_map] at e2
  have tr : ∀ s : Sto, truW s (.fz (.tuple [])) = some false := fun s => rfl
  have n1' : ∀ s, F_names_of [.fz (sideD hs)] s = .ok (.fz (.tuple (strsD (hs.map (·.1))))) s := fun s => by rw [n1]; simp
  simp [-bAnd_eq, e1', e2, n1', tr, tb, k1, k2, k3, k4, k5]
  rw [List.take_of_length_le (by simp)]
/-- the program's Fair(…) -/
theorem made {hs gs : Side} {t : Option Int} (f : Fairish hs gs t) {en : En} {st st1 : Sto} {a : DnA} (ha : a en st = .ok [.fz (sideD hs), .fz (sideD gs), .fz (deskD t)] st1) :
    ∃ x : Str, dMake 4 0 (frzOb 0 ns_Fair) F_Fairu_initu [] a en st = .ok (.fz (fairD hs gs t x)) st1 := by
  obtain ⟨x, ex⟩ := init f (st := st1)
  refine ⟨x, ?_⟩
  unfold fairD
  generalize strsD ((hs ++ gs).map (·.1)) = nl at ex ⊢
  obtain ⟨fs, hF⟩ : ∃ fs : List (Str × D), fs = [(("_hosts" : Str), sideD hs), (("_guests" : Str), sideD gs), (("_tables" : Str), deskD t), (("_names" : Str), PyData.tuple nl), (("_text" : Str), PyData.str x)] := ⟨_, rfl⟩
  rw [← hF] at ex
  have fo : frzOb 0 ns_Fair st1.length (st1 ++ [.ins 0 fs]) = some (.fz (obD 0 [sideD hs, sideD gs, deskD t, .tuple nl, .str x]), st1) := by
    have h1 : fs.map (·.1) = ns_Fair := by rw [hF]; rfl
    have h2 : fs.map (·.2) = [sideD hs, sideD gs, deskD t, .tuple nl, .str x] := by rw [hF]; rfl
    unfold frzOb
    simp only [get_last (s := st1) (o := .ins 0 fs) rfl, h1, h2, and_self, if_true]
    rw [List.take_left']
    rfl
  unfold dMake
  rw [ha]
  simp [ex, fo]
theorem l_fair {hs gs : Side} {t : Option Int} (f : Fairish hs gs t) {st : Sto} : ∃ x : Str, F_l_fair [.fz (.tuple [sideD hs, sideD gs, deskD t])] st = .ok (.fz (fairD hs gs t x)) st := by
  obtain ⟨x, ex⟩ := made f (en := [some (.fz (.tuple [sideD hs, sideD gs, deskD t]))]) (st := st) (st1 := st) (a := (aCons (dOp fIxT (dVar 0) (dC (.int 0))) (aCons (dOp fIxT (dVar 0) (dC (.int 1))) (aCons (dOp fIxT (dVar 0) (dC (.int 2))) aNil)))) (by simp)
  refine ⟨x, ?_⟩
  unfold F_l_fair fnD d_l_fair
  simp [ex, fairD, obD]
/-! ### what a fair tells -/
theorem fair_fld {hs gs : Side} {t : Option Int} {x : Str} {st : Sto} : fldW 0 ns_Fair "_hosts" st (.fz (fairD hs gs t x)) = some (sideD hs) ∧ fldW 0 ns_Fair "_guests" st (.fz (fairD hs gs t x)) = some (sideD gs) ∧ fldW 0 ns_Fair "_tables" st (.fz (fairD hs gs t x)) = some (deskD t) := by
  have n1 : (("_guests" : Str) == "_hosts") = false := by decide +kernel
  have n2 : (("_tables" : Str) == "_hosts") = false := by decide +kernel
  have n3 : (("_tables" : Str) == "_guests") = false := by decide +kernel
  refine ⟨?_, ?_, ?_⟩
  · show (if (0 : Int) = ((0 : Nat) : Int) ∧ ns_Fair.length = 5 then (List.zip ns_Fair [sideD hs, sideD gs, deskD t, PyData.tuple (strsD ((hs ++ gs).map fun z => z.1)), PyData.str x]).lookup ("_hosts" : Str) else none) = _
    rw [if_pos ⟨rfl, rfl⟩]
    simp [ns_Fair, List.lookup]
  · show (if (0 : Int) = ((0 : Nat) : Int) ∧ ns_Fair.length = 5 then (List.zip ns_Fair [sideD hs, sideD gs, deskD t, PyData.tuple (strsD ((hs ++ gs).map fun z => z.1)), PyData.str x]).lookup ("_guests" : Str) else none) = _
    rw [if_pos ⟨rfl, rfl⟩]
    simp [ns_Fair, List.lookup, n1]
  · show (if (0 : Int) = ((0 : Nat) : Int) ∧ ns_Fair.length = 5 then (List.zip ns_Fair [sideD hs, sideD gs, deskD t, PyData.tuple (strsD ((hs ++ gs).map fun z => z.1)), PyData.str x]).lookup ("_tables" : Str) else none) = _
    rw [if_pos ⟨rfl, rfl⟩]
    simp [ns_Fair, List.lookup, n2, n3]
theorem fair_ob {hs gs : Side} {t : Option Int} {x : Str} {st : Sto} : obW 0 ns_Fair st (.fz (fairD hs gs t x)) = some ns_Fair := rfl
theorem hosts {hs gs : Side} {t : Option Int} {x : Str} {st : Sto} : F_Fair_hosts [.fz (fairD hs gs t x)] st = .ok (.fz (sideD hs)) st := by
  unfold F_Fair_hosts fnD d_Fair_hosts
  simp [fair_fld.1]
theorem guests {hs gs : Side} {t : Option Int} {x : Str} {st : Sto} : F_Fair_guests [.fz (fairD hs gs t x)] st = .ok (.fz (sideD gs)) st := by
  unfold F_Fair_guests fnD d_Fair_guests
  simp [fair_fld.2.1]
theorem tables {hs gs : Side} {t : Option Int} {x : Str} {st : Sto} : F_Fair_tables [.fz (fairD hs gs t x)] st = .ok (.fz (deskD t)) st := by
  unfold F_Fair_tables fnD d_Fair_tables
  simp [fair_fld.2.2]
end K14
/-! QW: runs forward: what must hold of how a piece ends (`wR`, `wS`), computed by simp from outside in. -/
namespace QD
open PySem PySem.Spec PyProof.Rows L2 MG
abbrev XP := Str → Option (Str × D) → Sto → Prop
abbrev noX : XP := fun _ _ _ => False
/-- keeps simp out of what comes after -/
inductive Tg {α : Type} (P : α → Sto → Prop) : Type
  | mk
inductive TgS (G : En → Sto → Prop) (R : W → Sto → Prop) (B C : En → Sto → Prop) : Type
  | mk
def wR {α : Type} (X : XP) (r : Rt α) (P : α → Sto → Prop) (_ : Tg P := .mk) : Prop := match r with
  | .ok a st => P a st
  | .ex c p st => X c p st
  | .no => False
/-- how a statement ends: it falls through, returns, breaks, continues -/
def wS (X : XP) (s : Sx) (G : En → Sto → Prop) (R : W → Sto → Prop) (B C : En → Sto → Prop) (_ : TgS G R B C := .mk) : Prop := match s with
  | .go en st => G en st
  | .rt w st => R w st
  | .bk en st => B en st
  | .ct en st => C en st
  | .ex c p st => X c p st
  | .no => False
section
variable {α β : Type} {X : XP} {P P' : α → Sto → Prop} {r r' : Rt α} {en : En} {st : Sto} {a b c : Dn} {x y : DnT} {xs : DnA} {G G' B B' C C' : En → Sto → Prop} {R R' : W → Sto → Prop} {s s' : Sx}
@[simp] theorem wR_ok {v : α} : wR X (.ok v st) P = P v st := (rfl)
@[simp] theorem wR_ex {c : Str} {p : Option (Str × D)} : wR X (.ex c p st : Rt α) P = X c p st := (rfl)
@[simp] theorem wR_no : wR X (.no : Rt α) P = False := (rfl)
@[simp] theorem wS_go : wS X (.go en st) G R B C = G en st := (rfl)
@[simp] theorem wS_rt {w : W} : wS X (.rt w st) G R B C = R w st := (rfl)
@[simp] theorem wS_bk : wS X (.bk en st) G R B C = B en st := (rfl)
@[simp] theorem wS_ct : wS X (.ct en st) G R B C = C en st := (rfl)
@[simp] theorem wS_ex {c : Str} {p : Option (Str × D)} : wS X (.ex c p st) G R B C = X c p st := (rfl)
@[simp] theorem wS_no : wS X .no G R B C = False := (rfl)
@[simp ↓] theorem wR_bind {f : α → Sto → Rt β} {P : β → Sto → Prop} : wR X (r.bind f) P = wR X r fun v st1 => wR X (f v st1) P := by cases r <;> rfl
@[simp ↓] theorem wS_sBind {f : α → Sto → Sx} : wS X (sBind r f) G R B C = wR X r fun v st1 => wS X (f v st1) G R B C := by cases r <;> rfl
@[simp] theorem wR_ite {p : Prop} [Decidable p] : wR X (if p then r else r') P = if p then wR X r P else wR X r' P := by split <;> rfl
@[simp] theorem wS_ite {p : Prop} [Decidable p] : wS X (if p then s else s') G R B C = if p then wS X s G R B C else wS X s' G R B C := by split <;> rfl
theorem wR_b2 {f : α → Sto → Rt β} {P : β → Sto → Prop} {Q : α → Sto → Prop} (h : ∀ v s, wR X (f v s) P = Q v s) : wR X (r.bind f) P = wR X r Q := by
  cases r with
  | ok v s => exact h v s
  | ex c q s => rfl
  | no => rfl
theorem wS_b2 {f : α → Sto → Sx} {Q : α → Sto → Prop} (h : ∀ v s, wS X (f v s) G R B C = Q v s) : wS X (sBind r f) G R B C = wR X r Q := by
  cases r with
  | ok v s => exact h v s
  | ex c q s => rfl
  | no => rfl
/-! what is known of a piece is used -/
theorem wR.use (h : wR noX r P') (k : ∀ v st, P' v st → P v st) : wR X r P := by
  cases r with
  | ok v st => exact k v st h
  | ex c p st => exact h.elim
  | no => exact h
theorem wS.use (h : wS noX s G' R' B' C') (kg : ∀ en st, G' en st → G en st) (kr : ∀ w st, R' w st → R w st) (kb : ∀ en st, B' en st → B en st) (kc : ∀ en st, C' en st → C en st) : wS X s G R B C := by
  cases s with
  | go en st => exact kg _ _ h
  | rt w st => exact kr _ _ h
  | bk en st => exact kb _ _ h
  | ct en st => exact kc _ _ h
  | ex c p st => exact h.elim
  | no => exact h
theorem wR.eq {v : α} {st1 : Sto} (h : wR noX r fun v' st' => v' = v ∧ st' = st1) : r = .ok v st1 := by
  cases r with
  | ok v st => obtain ⟨rfl, rfl⟩ := h; rfl
  | ex c p st => exact h.elim
  | no => exact h.elim
theorem wR.get (h : wR noX r P) : ∃ v st, r = .ok v st ∧ P v st := by
  cases r with
  | ok v st => exact ⟨v, st, rfl, h⟩
  | ex c p st => exact h.elim
  | no => exact h.elim
theorem wR.is {v : α} {st1 : Sto} (e : r = .ok v st1) (h : P v st1) : wR X r P := by rw [e]; exact h
/-! expressions -/
variable {Pw : W → Sto → Prop} {Pl : List W → Sto → Prop} {Pb : Bool → Sto → Prop}
@[simp ↓] theorem wR_dOp {f : W → W → Sto → Rt W} : wR X (dOp f a b en st) Pw = wR X (a en st) fun v st1 => wR X (b en st1) fun u st2 => wR X (f v u st2) Pw := by rw [dOp_eq]; exact wR_b2 fun _ _ => wR_bind
@[simp ↓] theorem wR_dUn {f : W → Sto → Rt W} : wR X (dUn f a en st) Pw = wR X (a en st) fun v st1 => wR X (f v st1) Pw := by rw [dUn_eq]; exact wR_b2 fun _ _ => rfl
@[simp ↓] theorem wR_aCons : wR X (aCons a xs en st) Pl = wR X (a en st) fun v st1 => wR X (xs en st1) fun vs st2 => Pl (v :: vs) st2 := by rw [aCons_eq]; exact wR_b2 fun _ _ => wR_b2 fun _ _ => rfl
@[simp ↓] theorem wR_dN {f : List W → Sto → Rt W} : wR X (dN f xs en st) Pw = wR X (xs en st) fun vs st1 => wR X (f vs st1) Pw := by rw [dN_eq]; exact wR_b2 fun _ _ => rfl
@[simp ↓] theorem wR_dLoc : wR X (dLoc a en st) Pw = wR X (a en st) fun v st1 => wR X (match v with
  | .own l => .ok (.loc st1.length) (st1 ++ [.lst l])
  | _ => .no) Pw := by rw [dLoc_eq]; exact wR_b2 fun _ _ => rfl
@[simp ↓] theorem wR_bT : wR X (bT a en st) Pb = wR X (a en st) fun v st1 => wR X (match tst v with
  | some b => .ok b st1
  | none => .no) Pb := by rw [bT_eq]; exact wR_b2 fun _ _ => rfl
@[simp ↓] theorem wR_bTru : wR X (bTru a en st) Pb = wR X (a en st) fun v st1 => wR X (match truW st1 v with
  | some b => .ok b st1
  | none => .no) Pb := by rw [bTru_eq]; exact wR_b2 fun _ _ => rfl
@[simp ↓] theorem wR_bAnd : wR X (bAnd x y en st) Pb = wR X (x en st) fun z st1 => if z = true then wR X (y en st1) Pb else Pb false st1 := by rw [bAnd_eq]; exact wR_b2 fun _ _ => wR_ite
@[simp ↓] theorem wR_bOr : wR X (bOr x y en st) Pb = wR X (x en st) fun z st1 => if z = true then Pb true st1 else wR X (y en st1) Pb := by rw [bOr_eq]; exact wR_b2 fun _ _ => wR_ite
@[simp ↓] theorem wR_bNot : wR X (bNot x en st) Pb = wR X (x en st) fun z st1 => Pb (!z) st1 := by rw [bNot_eq]; exact wR_b2 fun _ _ => rfl
@[simp ↓] theorem wR_dAnd : wR X (dAnd a b en st) Pw = wR X (a en st) fun v st1 => wR X (match tst v with
  | some true => b en st1
  | some false => .ok (.fz (.bool false)) st1
  | none => .no) Pw := by rw [dAnd_eq]; exact wR_b2 fun _ _ => rfl
@[simp ↓] theorem wR_dOr : wR X (dOr a b en st) Pw = wR X (a en st) fun v st1 => wR X (match tst v with
  | some true => .ok (.fz (.bool true)) st1
  | some false => b en st1
  | none => .no) Pw := by rw [dOr_eq]; exact wR_b2 fun _ _ => rfl
@[simp ↓] theorem wR_dNot : wR X (dNot a en st) Pw = wR X (a en st) fun v st1 => wR X (match tst v with
  | some b => .ok (.fz (.bool (!b))) st1
  | none => .no) Pw := by rw [dNot_eq]; exact wR_b2 fun _ _ => rfl
@[simp ↓] theorem wR_dIf : wR X (dIf x a b en st) Pw = wR X (x en st) fun z st1 => if z = true then wR X (a en st1) Pw else wR X (b en st1) Pw := by rw [dIf_eq]; exact wR_b2 fun _ _ => wR_ite
@[simp ↓] theorem wR_dChain {f g : W → W → Sto → Rt W} : wR X (dChain f g a b c en st) Pw = wR X (a en st) fun v st1 => wR X (b en st1) fun u st2 => wR X (f v u st2) fun z st3 => wR X (match tst z with
  | some true => (c en st3).bind fun u' st4 => g u u' st4
  | some false => .ok (.fz (.bool false)) st3
  | none => .no) Pw := by rw [dChain_eq]; exact wR_b2 fun _ _ => wR_b2 fun _ _ => wR_bind
@[simp ↓] theorem wR_dCall {n : Nat} {F : Fd} {ds : List W} : wR X (dCall n F ds xs en st) Pw = wR X (xs en st) fun ws st1 => wR X (if (ws.map frz ++ ds).length = n then F (ws.map frz ++ ds) st1 else .no) Pw := by rw [dCall_eq]; exact wR_b2 fun _ _ => rfl
@[simp ↓] theorem wR_dM {ty : Sto → W → Bool} {f : W → List W → Sto → Rt W} : wR X (dM ty f a xs en st) Pw = wR X (a en st) fun o st1 => if ty st1 o = true then wR X (xs en st1) fun ws st2 => wR X (f o ws st2) Pw else False := by rw [dM_eq]; exact wR_b2 fun _ _ => by split <;> first | exact wR_bind | rfl
@[simp ↓] theorem wR_dLc {i : En → Sto → Rt Src} {g : DnG} {t : DnT} {vs : List Nat} : wR X (dLc i g t a vs en st) Pw = wR X (i en st) fun s st1 => wR X (lcL s g t a (wipeE en vs) s.l [] st1) Pw := by rw [dLc_eq]; exact wR_b2 fun _ _ => rfl
@[simp ↓] theorem wR_iSeq {f : Sto → W → Option Src} {Ps : Src → Sto → Prop} : wR X (iSeq f a en st) Ps = wR X (a en st) fun v st1 => wR X (match f st1 v with
  | some s => .ok s st1
  | none => .no) Ps := by rw [iSeq_eq]; exact wR_b2 fun _ _ => rfl
@[simp ↓] theorem wR_iR {f : List Int → Option Src} {Ps : Src → Sto → Prop} : wR X (iR f xs en st) Ps = wR X (xs en st) fun ws st1 => wR X (match (intsW ws).bind f with
  | some s => .ok s st1
  | none => .no) Ps := by rw [iR_eq]; exact wR_b2 fun _ _ => rfl
/-! statements -/
variable {p q : DnS}
@[simp ↓] theorem wS_sSeq : wS X (sSeq p q en st) G R B C = wS X (p en st) (fun en1 st1 => wS X (q en1 st1) G R B C) R B C := by
  rw [sSeq_eq]
  cases p en st <;> rfl
@[simp ↓] theorem wS_sDrop : wS X (sDrop a en st) G R B C = wR X (a en st) fun _ st1 => G en st1 := by rw [sDrop_eq]; exact wS_b2 fun _ _ => rfl
@[simp ↓] theorem wS_sRet : wS X (sRet a en st) G R B C = wR X (a en st) fun v st1 => R v st1 := by rw [sRet_eq]; exact wS_b2 fun _ _ => rfl
@[simp ↓] theorem wS_sIf : wS X (sIf x p q en st) G R B C = wR X (x en st) fun z st1 => if z = true then wS X (p en st1) G R B C else wS X (q en st1) G R B C := by rw [sIf_eq]; exact wS_b2 fun _ _ => wS_ite
@[simp ↓] theorem wS_sSet {i : Nat} : wS X (sSet i a en st) G R B C = wR X (a en st) fun v st1 => G (en.set i (some (frz v))) st1 := by rw [sSet_eq]; exact wS_b2 fun _ _ => rfl
@[simp ↓] theorem wS_sPar {i j : Nat} : wS X (sPar i j xs en st) G R B C = wR X (xs en st) fun vs st1 => wS X (match vs with
  | [x, y] => .go ((en.set i (some (frz x))).set j (some (frz y))) st1
  | _ => .no) G R B C := by rw [sPar_eq]; exact wS_b2 fun _ _ => rfl
@[simp ↓] theorem wS_sPar3 {i j l : Nat} : wS X (sPar3 i j l xs en st) G R B C = wR X (xs en st) fun vs st1 => wS X (match vs with
  | [x, y, z] => .go (((en.set i (some (frz x))).set j (some (frz y))).set l (some (frz z))) st1
  | _ => .no) G R B C := by rw [sPar3_eq]; exact wS_b2 fun _ _ => rfl
@[simp ↓] theorem wS_sAsg {g : DnG} : wS X (sAsg a g en st) G R B C = wR X (a en st) fun v st1 => wR X (g v en st1) G := by
  rw [sAsg_eq, wS_sBind]
  cases a en st with
  | ok v st1 => simp only [wR_ok]; cases g v en st1 <;> rfl
  | ex c q s => rfl
  | no => rfl
@[simp ↓] theorem wS_sFor {i : En → Sto → Rt Src} {g : DnG} : wS X (sFor i g p en st) G R B C = wR X (i en st) fun s st1 => wS X (forL s g p s.l en st1) G R B C := by rw [sFor_eq]; exact wS_b2 fun _ _ => rfl
@[simp ↓] theorem wR_gSb {f : W → W → W → Sto → Option Sto} {w : W} {Pe : En → Sto → Prop} : wR X (gSb f a b w en st) Pe = wR X (a en st) fun v st1 => wR X (b en st1) fun u st2 => wR X (match f v u w st2 with
  | some st3 => .ok en st3
  | none => .no) Pe := by rw [gSb_eq]; exact wR_b2 fun _ _ => wR_bind
/-- a def -/
theorem wR_fnD {n : Nat} {ws : List W} {Pw : W → Sto → Prop} (h : wS X (p (ws.map some ++ List.replicate (n - ws.length) none) st) (fun _ st1 => Pw (.fz .none) (st1.take st.length)) (fun w st1 => wR X (match exitW st.length w st1 with
  | some (w', st') => .ok w' st'
  | none => .no) Pw) (fun _ _ => False) (fun _ _ => False)) (hX : ∀ c q st1, X c q st1 → X c q (st1.take st.length)) : wR X (fnD n p ws st) Pw := by
  unfold fnD
  cases e : p (ws.map some ++ List.replicate (n - ws.length) none) st with
  | go en st1 => rw [e] at h; exact h
  | rt w st1 => rw [e] at h; exact h
  | bk en st1 => rw [e] at h; exact h.elim
  | ct en st1 => rw [e] at h; exact h.elim
  | ex c q st1 => rw [e] at h; exact hX _ _ _ h
  | no => rw [e] at h; exact h.elim
@[simp ↓] theorem wR_fn {n : Nat} {ws : List W} {Pw : W → Sto → Prop} : wR noX (fnD n p ws st) Pw = wS noX (p (ws.map some ++ List.replicate (n - ws.length) none) st) (fun _ st1 => Pw (.fz .none) (st1.take st.length)) (fun w st1 => wR noX (match exitW st.length w st1 with
  | some (w', st') => .ok w' st'
  | none => .no) Pw) (fun _ _ => False) (fun _ _ => False) := by
  unfold fnD
  cases p (ws.map some ++ List.replicate (n - ws.length) none) st <;> rfl
/-! turns -/
theorem wS_forG (enc : α → D) (xs : List α) (I : Nat → En → Sto → Prop) {sr : Src} {g : DnG} {l : List D} (hl : l = xs.map enc) (h0 : I 0 en st)
    (hs : ∀ i x en st, xs[i]? = some x → I i en st → sr.ok st ∧ wR X (g (.fz (enc x)) en st) fun en1 st1 => wS X (p en1 st1) (I (i + 1)) R G (I (i + 1)))
    (he : ∀ en st, I xs.length en st → sr.ok st ∧ G en st) : wS X (forL sr g p l en st) G R B C := by
  subst hl
  have main : ∀ (ys : List α) (k : Nat) (en : En) (st : Sto), ys = xs.drop k → k ≤ xs.length → I k en st → wS X (forL sr g p (ys.map enc) en st) G R B C := by
    intro ys
    induction ys with
    | nil =>
      intro k en st e hk h
      have : k = xs.length := by
        have := congrArg List.length e
        rw [List.length_drop, List.length_nil] at this
        omega
      subst this
      obtain ⟨ok, hg⟩ := he en st h
      rw [List.map_nil]
      unfold forL
      rw [if_pos ok]
      exact hg
    | cons y ys ih =>
      intro k en st e hk h
      have hk' : k < xs.length := by
        have := congrArg List.length e
        rw [List.length_drop, List.length_cons] at this
        omega
      have hy : xs[k]? = some y := by
        rw [List.drop_eq_getElem_cons hk'] at e
        rw [List.getElem?_eq_getElem hk', (List.cons.inj e).1]
      have hys : ys = xs.drop (k + 1) := by
        rw [List.drop_eq_getElem_cons hk'] at e
        exact (List.cons.inj e).2
      obtain ⟨ok, hb⟩ := hs k y en st hy h
      rw [List.map_cons]
      unfold forL
      rw [if_pos ok]
      cases e1 : g (.fz (enc y)) en st with
      | no => rw [e1] at hb; exact hb
      | ex c q st1 => rw [e1] at hb; exact hb
      | ok en1 st1 =>
        rw [e1, wR_ok] at hb
        dsimp only
        cases e2 : p en1 st1 with
        | go en2 st2 => rw [e2] at hb; exact ih (k + 1) en2 st2 hys (by omega) hb
        | ct en2 st2 => rw [e2] at hb; exact ih (k + 1) en2 st2 hys (by omega) hb
        | bk en2 st2 => rw [e2] at hb; exact hb
        | rt w st2 => rw [e2] at hb; exact hb
        | ex c q st2 => rw [e2] at hb; exact hb
        | no => rw [e2] at hb; exact hb
  exact main xs 0 en st rfl (Nat.zero_le _) h0
theorem wS_for (enc : α → D) (xs : List α) (I : Nat → En → Sto → Prop) {l0 : List D} {g : DnG} {l : List D} (hl : l = xs.map enc) (h0 : I 0 en st)
    (hs : ∀ i x en st, xs[i]? = some x → I i en st → wR X (g (.fz (enc x)) en st) fun en1 st1 => wS X (p en1 st1) (I (i + 1)) R G (I (i + 1)))
    (he : ∀ en st, I xs.length en st → G en st) : wS X (forL ⟨l0, none⟩ g p l en st) G R B C :=
  wS_forG enc xs I hl h0 (fun i x en st h1 h2 => ⟨trivial, hs i x en st h1 h2⟩) fun en st h => ⟨trivial, he en st h⟩
theorem wS_rng (k : Nat) (I : Nat → En → Sto → Prop) {l0 : List D} {g : DnG} (h0 : I 0 en st)
    (hs : ∀ i en st, i < k → I i en st → wR X (g (.fz (.int (i : Int))) en st) fun en1 st1 => wS X (p en1 st1) (I (i + 1)) R G (I (i + 1)))
    (he : ∀ en st, I k en st → G en st) : wS X (forL (rngS 0 k) g p (rngS 0 k).l en st) G R B C :=
  wS_for (fun i : Nat => .int (0 + (i : Int))) (List.range k) I rfl h0 (fun i x en st h1 h2 => by
    have hi : i < k := by
      have := (List.getElem?_eq_some_iff.mp h1).1
      rwa [List.length_range] at this
    rw [List.getElem?_range hi] at h1
    cases h1
    rw [Int.zero_add]
    exact hs i en st hi h2) (fun en st h => he en st (by rwa [List.length_range] at h))
/-- while: n turns at most -/
theorem wS_whl (I : Nat → En → Sto → Prop) {d : DnT} (hs : ∀ k en st, I k en st → wR X (d en st) fun z st1 => if z = true then ∃ j, k = j + 1 ∧ wS X (p en st1) (I j) R G (I j) else G en st1) :
    ∀ (n : Nat) (en : En) (st : Sto), I n en st → wS X (whlL d p (n + 1) en st) G R B C
  | n, en, st, h => by
    have := hs n en st h
    unfold whlL
    rw [wS_sBind]
    cases e : d en st with
    | ex c q st1 => rw [e] at this; exact this
    | no => rw [e] at this; exact this
    | ok z st1 =>
      rw [e, wR_ok] at this
      rw [wR_ok, wS_ite]
      cases z with
      | false => rw [if_neg Bool.false_ne_true] at this ⊢; exact this
      | true =>
        rw [if_pos rfl] at this ⊢
        obtain ⟨j, hj, hb⟩ := this
        subst hj
        cases e2 : p en st1 with
        | go en2 st2 => rw [e2] at hb; exact wS_whl I hs j en2 st2 hb
        | ct en2 st2 => rw [e2] at hb; exact wS_whl I hs j en2 st2 hb
        | bk en2 st2 => rw [e2] at hb; exact hb
        | rt w st2 => rw [e2] at hb; exact hb
        | ex c q st2 => rw [e2] at hb; exact hb
        | no => rw [e2] at hb; exact hb
@[simp ↓] theorem wS_sWhile {n : En → Sto → Nat} {d : DnT} : wS X (sWhile n d p en st) G R B C = wS X (whlL d p (n en st) en st) G R B C := (rfl)
/-! comprehensions -/
/-- items that may change the store: J before the item i, what comes of it by Rl -/
theorem wR_lcS (enc : α → D) (dec : β → D) (xs : List α) (J : Nat → Sto → Prop) (Rl : Nat → α → β → Prop) {l0 l : List D} {g : DnG} {e : Dn} {Pw : W → Sto → Prop} (hl : l = xs.map enc) (hz : xs.length ≤ 100000) (h0 : J 0 st)
    (hs : ∀ i x st, xs[i]? = some x → J i st → wR noX (g (.fz (enc x)) en st) fun en2 st2 => wR noX (e en2 st2) fun w st4 => ∃ y, datW w = some (dec y) ∧ Rl i x y ∧ J (i + 1) st4)
    (he : ∀ (ys : List β) st, ys.length = xs.length → (∀ i x y, xs[i]? = some x → ys[i]? = some y → Rl i x y) → J xs.length st → Pw (.own (ys.map dec)) st) : wR X (lcL ⟨l0, none⟩ g (fun _ st => .ok true st) e en l [] st) Pw := by
  subst hl
  have sz : 100000 ≤ sizeLine := by decide
  have main : ∀ (zs : List α) (ys : List β) (st : Sto), zs = xs.drop ys.length → ys.length ≤ xs.length → (∀ i x y, xs[i]? = some x → ys[i]? = some y → Rl i x y) → J ys.length st →
      wR X (lcL ⟨l0, none⟩ g (fun _ st => .ok true st) e en (zs.map enc) (ys.map dec) st) Pw := by
    intro zs
    induction zs with
    | nil =>
      intro ys st e1 hk hr h
      have e2 : ys.length = xs.length := by
        have := congrArg List.length e1
        rw [List.length_drop, List.length_nil] at this
        omega
      rw [List.map_nil]
      unfold lcL
      rw [if_pos (show Src.ok ⟨l0, none⟩ st from trivial)]
      exact he ys st e2 hr (e2 ▸ h)
    | cons z zs ih =>
      intro ys st e1 hk hr h
      have hk' : ys.length < xs.length := by
        have := congrArg List.length e1
        rw [List.length_drop, List.length_cons] at this
        omega
      have hz' : xs[ys.length]? = some z := by
        rw [List.drop_eq_getElem_cons hk'] at e1
        rw [List.getElem?_eq_getElem hk', (List.cons.inj e1).1]
      have hzs : zs = xs.drop (ys.length + 1) := by
        rw [List.drop_eq_getElem_cons hk'] at e1
        exact (List.cons.inj e1).2
      obtain ⟨en2, st2, q1, h2⟩ := (hs _ z st hz' h).get
      obtain ⟨w, st4, q2, y, q3, r, j⟩ := h2.get
      rw [List.map_cons]
      unfold lcL
      rw [if_pos (show Src.ok ⟨l0, none⟩ st from trivial), q1, nox_ok, Rt.bind_ok, nox_ok, Rt.bind_ok, if_pos rfl, q2, nox_ok, Rt.bind_ok, q3]
      dsimp only
      rw [if_pos (by rw [List.length_map]; omega)]
      have hl1 : (ys ++ [y]).length = ys.length + 1 := by rw [List.length_append, List.length_singleton]
      have := ih (ys ++ [y]) st4 (by rw [hl1]; exact hzs) (by omega) (fun i x' y' hx hy => by
        by_cases c : i < ys.length
        · rw [List.getElem?_append_left c] at hy
          exact hr i x' y' hx hy
        · rw [List.getElem?_append_right (by omega)] at hy
          have c' : i = ys.length := by
            have := (List.getElem?_eq_some_iff.mp hy).1
            rw [List.length_singleton] at this
            omega
          subst c'
          rw [Nat.sub_self] at hy
          cases hy
          rw [hz'] at hx
          cases hx
          exact r) (by rw [hl1]; exact j)
      rw [List.map_append] at this
      exact this
  exact main xs [] st (by simp) (by simp) (fun i x y _ hy => by simp at hy) h0
/-- each item by itself -/
theorem wR_lcM (enc : α → D) (xs : List α) (f : α → D) {l0 l : List D} {g : DnG} {e : Dn} {Pw : W → Sto → Prop} (hl : l = xs.map enc) (hz : xs.length ≤ 100000)
    (hs : ∀ x ∈ xs, wR noX (g (.fz (enc x)) en st) fun en2 st2 => wR noX (e en2 st2) fun w st4 => datW w = some (f x) ∧ st4 = st)
    (he : Pw (.own (xs.map f)) st) : wR X (lcL ⟨l0, none⟩ g (fun _ st => .ok true st) e en l [] st) Pw := by
  refine wR_lcS enc (fun d : D => d) xs (fun _ s => s = st) (fun _ x y => y = f x) hl hz rfl (fun i x s hx hj => ?_) fun ys s hy hr hj => ?_
  · subst hj
    exact (hs x (List.mem_of_getElem? hx)).use fun en2 st2 h2 => h2.use fun w st4 h => ⟨f x, h.1, rfl, h.2⟩
  · subst hj
    have : ys = xs.map f := by
      apply List.ext_getElem?
      intro i
      rw [List.getElem?_map]
      by_cases c : i < xs.length
      · rw [List.getElem?_eq_getElem c, List.getElem?_eq_getElem (by omega : i < ys.length)]
        have := hr i xs[i] ys[i] (List.getElem?_eq_getElem c) (List.getElem?_eq_getElem (by omega))
        rw [this]; rfl
      · rw [List.getElem?_eq_none (by omega), List.getElem?_eq_none (by omega)]; rfl
    rw [List.map_id', this]
    exact he
/-- .. with a test -/
theorem wR_lcF (enc : α → D) (xs : List α) (t : α → Bool) (f : α → D) {l0 l : List D} {g : DnG} {tt : DnT} {e : Dn} {Pw : W → Sto → Prop} (hl : l = xs.map enc) (hz : xs.length ≤ 100000)
    (hs : ∀ x ∈ xs, wR noX (g (.fz (enc x)) en st) fun en2 st2 => wR noX (tt en2 st2) fun z st3 => z = t x ∧ st3 = st ∧ st2 = st ∧ (t x = true → wR noX (e en2 st) fun w st4 => datW w = some (f x) ∧ st4 = st))
    (he : Pw (.own ((xs.filter t).map f)) st) : wR X (lcL ⟨l0, none⟩ g tt e en l [] st) Pw := by
  subst hl
  have sz : 100000 ≤ sizeLine := by decide
  have main : ∀ (zs : List α) (acc : List D), (∀ z ∈ zs, z ∈ xs) → acc.length + zs.length ≤ 100000 → lcL ⟨l0, none⟩ g tt e en (zs.map enc) acc st = .ok (.own (acc ++ (zs.filter t).map f)) st := by
    intro zs
    induction zs with
    | nil => intro acc _ _; rw [List.map_nil]; unfold lcL; rw [if_pos (show Src.ok ⟨l0, none⟩ st from trivial)]; simp
    | cons z zs ih =>
      intro acc hm hl
      rw [List.length_cons] at hl
      obtain ⟨en2, st2, q1, h2⟩ := (hs z (hm z (List.mem_cons_self ..))).get
      obtain ⟨k, st3, q2, rfl, rfl, rfl, h3⟩ := h2.get
      rw [List.map_cons]
      unfold lcL
      rw [if_pos (show Src.ok ⟨l0, none⟩ _ from trivial), q1, nox_ok, Rt.bind_ok, q2, nox_ok, Rt.bind_ok]
      cases c : t z with
      | false => rw [if_neg Bool.false_ne_true, ih acc (fun z' h => hm z' (List.mem_cons_of_mem _ h)) (by omega), List.filter_cons_of_neg (by rw [c]; exact Bool.false_ne_true)]
      | true =>
        obtain ⟨w, st4, q3, q4, rfl⟩ := (h3 c).get
        rw [if_pos rfl, q3, nox_ok, Rt.bind_ok, q4]
        dsimp only
        rw [if_pos (by omega), ih _ (fun z' h => hm z' (List.mem_cons_of_mem _ h)) (by rw [List.length_append, List.length_singleton]; omega), List.filter_cons_of_pos c, List.map_cons, List.append_assoc]
        rfl
  rw [main xs [] (fun _ h => h) (by simpa using hz), wR_ok, List.nil_append]
  exact he
/-- two clauses, each item by itself -/
theorem wR_lc2M {γ : Type} (enc : α → D) (enc1 : γ → D) (xs : List α) (us : α → List γ) (f : α → γ → D) {l0 l : List D} {g g1 : DnG} {i1 : En → Sto → Rt Src} {e : Dn} {vs1 : List Nat} {Pw : W → Sto → Prop} (hl : l = xs.map enc) (hz : (xs.map fun x => (us x).length).sum ≤ 100000)
    (hs : ∀ x ∈ xs, wR noX (g (.fz (enc x)) en st) fun en2 st2 => st2 = st ∧ wR noX (i1 en2 st) fun s st3 => st3 = st ∧ s = ⟨(us x).map enc1, none⟩ ∧ ∀ u ∈ us x, wR noX (g1 (.fz (enc1 u)) (wipeE en2 vs1) st) fun en3 st4 => wR noX (e en3 st4) fun w st5 => datW w = some (f x u) ∧ st5 = st)
    (he : Pw (.own (xs.flatMap fun x => (us x).map (f x))) st) : wR X (lc2L ⟨l0, none⟩ g (fun _ st => .ok true st) i1 g1 (fun _ st => .ok true st) e vs1 en l [] st) Pw := by
  subst hl
  have sz : 100000 ≤ sizeLine := by decide
  have inner : ∀ (x : α) (en2 : En) (l1 : List D) (ws : List γ) (acc : List D), (∀ u ∈ ws, wR noX (g1 (.fz (enc1 u)) (wipeE en2 vs1) st) fun en3 st4 => wR noX (e en3 st4) fun w st5 => datW w = some (f x u) ∧ st5 = st) → acc.length + ws.length ≤ 100000 →
      lcI ⟨l1, none⟩ g1 (fun _ st => .ok true st) e (wipeE en2 vs1) (ws.map enc1) acc st = .ok (acc ++ ws.map (f x)) st := by
    intro x en2 l1 ws
    induction ws with
    | nil => intro acc _ _; rw [List.map_nil]; unfold lcI; rw [if_pos (show Src.ok ⟨l1, none⟩ st from trivial)]; simp
    | cons w ws ih =>
      intro acc hu hl
      rw [List.length_cons] at hl
      obtain ⟨en3, st4, q1, h2⟩ := (hu w (List.mem_cons_self ..)).get
      obtain ⟨v, st5, q2, q3, rfl⟩ := h2.get
      rw [List.map_cons]
      unfold lcI
      rw [if_pos (show Src.ok ⟨l1, none⟩ _ from trivial), q1, nox_ok, Rt.bind_ok, nox_ok, Rt.bind_ok, if_pos rfl, q2, nox_ok, Rt.bind_ok, q3]
      dsimp only
      rw [if_pos (by omega), ih _ (fun u h => hu u (List.mem_cons_of_mem _ h)) (by rw [List.length_append, List.length_singleton]; omega), List.map_cons, List.append_assoc]
      rfl
  have main : ∀ (zs : List α) (acc : List D), (∀ z ∈ zs, z ∈ xs) → acc.length + (zs.map fun x => (us x).length).sum ≤ 100000 → lc2L ⟨l0, none⟩ g (fun _ st => .ok true st) i1 g1 (fun _ st => .ok true st) e vs1 en (zs.map enc) acc st = .ok (.own (acc ++ zs.flatMap fun x => (us x).map (f x))) st := by
    intro zs
    induction zs with
    | nil => intro acc _ _; rw [List.map_nil]; unfold lc2L; rw [if_pos (show Src.ok ⟨l0, none⟩ st from trivial)]; simp
    | cons z zs ih =>
      intro acc hm hl
      rw [List.map_cons, List.sum_cons] at hl
      obtain ⟨en2, st2, q1, rfl, h2⟩ := (hs z (hm z (List.mem_cons_self ..))).get
      obtain ⟨s, st3, q2, rfl, rfl, h3⟩ := h2.get
      rw [List.map_cons]
      unfold lc2L
      rw [if_pos (show Src.ok ⟨l0, none⟩ _ from trivial), q1, nox_ok, Rt.bind_ok, nox_ok, Rt.bind_ok, if_pos rfl, q2, nox_ok, Rt.bind_ok]
      rw [inner z en2 _ (us z) acc h3 (by omega), Rt.bind_ok, ih _ (fun z' h => hm z' (List.mem_cons_of_mem _ h)) (by rw [List.length_append, List.length_map]; omega), List.flatMap_cons, List.append_assoc]
  rw [main xs [] (fun _ h => h) (by simpa using hz), wR_ok, List.nil_append]
  exact he
@[simp ↓] theorem wR_dLc2 {i i1 : En → Sto → Rt Src} {g g1 : DnG} {t t1 : DnT} {e : Dn} {vs vs1 : List Nat} {Pw : W → Sto → Prop} : wR X (dLc2 i g t i1 g1 t1 e vs vs1 en st) Pw = wR X (i en st) fun s st1 => wR X (lc2L s g t i1 g1 t1 e vs1 (wipeE en vs) s.l [] st1) Pw := by unfold dLc2; (simp only [wR_bind]) <;> rfl
end
end QD
namespace QD
open PySem PySem.Spec PyProof.Rows L2 MG
section
variable {X : XP} {en : En} {st : Sto} {G B C : En → Sto → Prop} {R : W → Sto → Prop} {p : DnS} {g : DnG}
theorem wS_forCons {l0 ds : List D} {d : D} : wS X (forL ⟨l0, none⟩ g p (d :: ds) en st) G R B C = wR X (g (.fz d) en st) fun en1 st1 => wS X (p en1 st1) (fun en2 st2 => wS X (forL ⟨l0, none⟩ g p ds en2 st2) G R B C) R G (fun en2 st2 => wS X (forL ⟨l0, none⟩ g p ds en2 st2) G R B C) := by
  conv => lhs; unfold forL
  rw [if_pos (show Src.ok ⟨l0, none⟩ st from trivial)]
  cases g (.fz d) en st with
  | ok en1 st1 => dsimp only; rw [wR_ok]; cases p en1 st1 <;> rfl
  | ex c q s => rfl
  | no => rfl
theorem wS_forNil {l0 : List D} : wS X (forL ⟨l0, none⟩ g p [] en st) G R B C = G en st := by
  conv => lhs; unfold forL
  rw [if_pos (show Src.ok ⟨l0, none⟩ st from trivial)]
  rfl
@[simp ↓] theorem wS_sParL {is : List Nat} {xs : DnA} : wS X (sParL is xs en st) G R B C = wR X (xs en st) fun vs st1 => wS X (match setW en is vs with
  | some en' => .go en' st1
  | none => .no) G R B C := by rw [sParL_eq]; exact wS_b2 fun _ _ => rfl
@[simp ↓] theorem wR_nox {α : Type} {X : XP} {r : Rt α} {P : α → Sto → Prop} : wR X (nox r) P = wR noX r P := by cases r <;> rfl
theorem natF_int {i : Nat} {en : En} {st : Sto} {k : Int} (h : en[i]? = some (some (.fz (.int k)))) : natF i en st = k.toNat + 1 := by unfold natF; rw [h]
theorem wR_lcR {X : XP} {en : En} {st : Sto} (k : Nat) (f : Nat → D) {g : DnG} {e : Dn} {Pw : W → Sto → Prop} (hz : k ≤ 100000)
    (hs : ∀ i < k, wR noX (g (.fz (.int (i : Int))) en st) fun en2 st2 => wR noX (e en2 st2) fun w st4 => datW w = some (f i) ∧ st4 = st)
    (he : Pw (.own ((List.range k).map f)) st) : wR X (lcL (rngS 0 k) g (fun _ st => .ok true st) e en (rngS 0 k).l [] st) Pw :=
  wR_lcM (fun i : Nat => .int (0 + (i : Int))) (List.range k) f rfl (by rw [List.length_range]; exact hz) (fun i hi => by rw [Int.zero_add]; exact hs i (List.mem_range.mp hi)) he
end
end QD
/-! QR: what is shown stays short. -/
namespace MU
open PySem PySem.Spec PyProof.Rows L2 MG QD
def CO (x : Str) : Prop := ∀ c ∈ x.cps.toList, c < 16 ^ 8
theorem CO.app {x y : Str} (h : CO x) (g : CO y) : CO (x ++ y) := fun c hc => by
  rw [app_cps] at hc
  rcases List.mem_append.mp hc with h' | h'
  · exact h c h'
  · exact g c h'
theorem CO.dec {x : Str} (h : x.cps.toList.all (fun c => decide (c < 16 ^ 8)) = true) : CO x := fun c hc => by
  simpa using List.all_eq_true.mp h c hc
theorem CO.join {sep : Str} (hs : CO sep) : ∀ ys : List Str, (∀ y ∈ ys, CO y) → CO (Str.join sep ys)
  | [], _ => fun c hc => by cases hc
  | [x], h => h x (List.mem_singleton.mpr rfl)
  | x :: y :: r, h => by
    show CO (x ++ sep ++ Str.join sep (y :: r))
    exact ((h x (List.mem_cons_self ..)).app hs).app (CO.join hs (y :: r) fun z hz => h z (List.mem_cons_of_mem _ hz))
theorem CO.num {i : Int} (h0 : 0 ≤ i) (h : i < 100) : CO (num i) := by
  have q : ∀ j : _root_.Fin 100, (MU.num (j.val : Int)).cps.toList.all (fun c => decide (c < 16 ^ 8)) = true := by decide +kernel
  have := q ⟨i.toNat, by omega⟩
  rw [show ((⟨i.toNat, by omega⟩ : _root_.Fin 100).val : Int) = i by show ((i.toNat : Nat) : Int) = i; omega] at this
  exact CO.dec this
theorem CO.nm {x : Str} (h : Nm x) : CO x := fun c hc => by
  unfold Nm at h
  cases e : x.cps.toList with
  | nil => rw [e] at hc; cases hc
  | cons a r =>
    rw [e] at h hc
    have h' : (lowB a && decide (r.length ≤ 7) && r.all signB) = true := h
    simp only [Bool.and_eq_true, decide_eq_true_eq] at h'
    obtain ⟨⟨h1, _⟩, h3⟩ := h'
    have b : ∀ z, signB z = true → z < 16 ^ 8 := fun z hz => by
      unfold signB lowB at hz
      simp only [Bool.or_eq_true, decide_eq_true_eq] at hz
      omega
    rcases List.mem_cons.mp hc with rfl | hc
    · exact b _ (by unfold signB; rw [h1]; rfl)
    · exact b _ (List.all_eq_true.mp h3 c hc)
theorem shown40 {i : Int} (h : i.natAbs < 10 ^ 39) : (PyData.shown (.int i)).length ≤ 40 := by
  have e := int_text_length_le10 (k := 39) (by decide) h
  show (Str.ofString (toString i)).length ≤ 40
  rw [PySem.ofString_length]; exact e
structure Sh (d : PyData) (e b : Nat) : Prop where
  s : d.showable = true
  n : d.hasDict = false
  l : d.leavesShort 40 = true
  dp : d.depth ≤ e
  bk : d.bulk ≤ b
structure ShA (d : List PyData) (e b : Nat) : Prop where
  s : PyData.showableAll d = true
  n : PyData.hasDictAll d = false
  l : PyData.leavesShortAll 40 d = true
  dp : PyData.depthAll d ≤ e
  bk : PyData.bulkAll d ≤ b
theorem Sh.non : Sh .none 0 0 := ⟨rfl, rfl, rfl, Nat.le_refl _, Nat.le_refl _⟩
theorem Sh.bl (b : Bool) : Sh (.bool b) 0 0 := ⟨rfl, rfl, rfl, Nat.le_refl _, Nat.le_refl _⟩
theorem Sh.int {i : Int} (h : i.natAbs < 10 ^ 39) : Sh (.int i) 0 0 := ⟨by
  have : i.natAbs < 2 ^ 1920 := Nat.lt_of_lt_of_le h (by decide +kernel)
  simp only [PyData.showable]
  apply decide_eq_true
  by_cases e : i.natAbs = 0
  · rw [e]; decide +kernel
  · exact (Nat.log2_lt e).mpr this, rfl, by simp only [PyData.leavesShort]; exact decide_eq_true (shown40 h), Nat.le_refl _, Nat.le_refl _⟩
theorem Sh.str {x : Str} (h : CO x) : Sh (.str x) 0 x.length := ⟨rfl, rfl, by
  simp only [PyData.leavesShort]
  exact List.all_eq_true.mpr fun c hc => decide_eq_true (Nat.lt_of_lt_of_le (h c hc) (by decide)), Nat.le_refl _, Nat.le_refl _⟩
theorem Sh.mono {d : PyData} {e b e' b' : Nat} (h : Sh d e b) (h1 : e ≤ e') (h2 : b ≤ b') : Sh d e' b' := ⟨h.s, h.n, h.l, Nat.le_trans h.dp h1, Nat.le_trans h.bk h2⟩
theorem ShA.nil {e b : Nat} : ShA [] e b := ⟨rfl, rfl, rfl, Nat.zero_le _, Nat.zero_le _⟩
theorem ShA.cons {d : PyData} {ds : List PyData} {e b c : Nat} (h : Sh d e b) (g : ShA ds e c) : ShA (d :: ds) e (b + 1 + c) := ⟨by
  simp only [PyData.showableAll, h.s, g.s, Bool.and_self], by simp only [PyData.hasDictAll, h.n, g.n, Bool.or_self], by simp only [PyData.leavesShortAll, h.l, g.l, Bool.and_self], by
  simp only [PyData.depthAll]; exact Nat.max_le.mpr ⟨h.dp, g.dp⟩, by
  simp only [PyData.bulkAll]; have := h.bk; have := g.bk; omega⟩
theorem ShA.tup {ds : List PyData} {e b : Nat} (g : ShA ds e b) : Sh (.tuple ds) (e + 1) b := ⟨by simp only [PyData.showable, g.s], by simp only [PyData.hasDict, g.n], by simp only [PyData.leavesShort, g.l], by simp only [PyData.depth]; exact Nat.succ_le_succ g.dp, by simp only [PyData.bulk]; exact g.bk⟩
theorem ShA.lst {ds : List PyData} {e b : Nat} (g : ShA ds e b) : Sh (.list ds) (e + 1) b := ⟨by simp only [PyData.showable, g.s], by simp only [PyData.hasDict, g.n], by simp only [PyData.leavesShort, g.l], by simp only [PyData.depth]; exact Nat.succ_le_succ g.dp, by simp only [PyData.bulk]; exact g.bk⟩
theorem ShA.map {α : Type} {f : α → PyData} {e b : Nat} : ∀ l : List α, (∀ x ∈ l, Sh (f x) e b) → ShA (l.map f) e (l.length * (b + 1))
  | [], _ => ShA.nil
  | x :: l, h => by
    have := ShA.cons (h x (List.mem_cons_self ..)) (ShA.map l fun y hy => h y (List.mem_cons_of_mem _ hy))
    rw [List.length_cons, Nat.add_mul, Nat.one_mul, Nat.add_comm]
    exact this
theorem Sh.fits {d : PyData} {e b : Nat} (h : Sh d e b) (he : e ≤ 60) (hb : b ≤ 100000) : d.showable = true ∧ d.hasDict = false ∧ d.depth ≤ 60 ∧ d.shown.length ≤ 16777216 := by
  refine ⟨h.s, h.n, Nat.le_trans h.dp he, ?_⟩
  have := PyData.shown_le_bulk 40 (by decide) d h.l
  have := h.bk
  omega

mutual
theorem plain_of : ∀ {d : PyData}, d.hasDict = false → QD.plain d = true
  | .none, _ => rfl
  | .bool _, _ => rfl
  | .int _, _ => rfl
  | .str _, _ => rfl
  | .list l, h => by unfold QD.plain; exact plainA_of (by simpa only [PyData.hasDict] using h)
  | .tuple l, h => by unfold QD.plain; exact plainA_of (by simpa only [PyData.hasDict] using h)
  | .dict l, h => by simp only [PyData.hasDict] at h; cases h
theorem plainA_of : ∀ {l : List PyData}, PyData.hasDictAll l = false → plainA l = true
  | [], _ => rfl
  | d :: l, h => by
    simp only [PyData.hasDictAll, Bool.or_eq_false_iff] at h
    unfold plainA
    rw [plain_of h.1, plainA_of h.2]
    rfl
end
theorem Sh.rep {d : PyData} {e b : Nat} (h : Sh d e b) (he : e ≤ 60) (hb : b ≤ 100000) {w : QD.W} {st : Sto} (hw : lookW st w = some d) : fRepr w st = .ok (.fz (.str d.shown)) st := by
  obtain ⟨h1, h2, h3, h4⟩ := h.fits he hb
  have : shOk d = true := by
    unfold shOk
    rw [plain_of h2, h1, h2, decide_eq_true h3, decide_eq_true h4]
    rfl
  unfold fRepr
  rw [hw]
  dsimp only
  rw [if_pos this]
end MU
/-! GM: lines that grow, pure: the load at a step, the fastest line, how it goes on. -/
namespace GM
open PySem PySem.Spec PyProof.Rows L2 MG QD MU
/-- start, growth, bound -/
abbrev Ln := Int × Int × Int
structure LnOk (l : Ln) : Prop where
  s0 : 0 ≤ l.1
  s1 : l.1 ≤ 1000
  g0 : 0 ≤ l.2.1
  g1 : l.2.1 ≤ 1000
  b0 : 1 ≤ l.2.2
  b1 : l.2.2 ≤ 12
def leadI (a b : Ln) : Int := a.2.1 * b.2.2 - b.2.1 * a.2.2
def shareI (t : Int) (l : Ln) : Int := -(-(l.1 + t * l.2.1) / l.2.2)
def LI (ls : List Ln) (t : Int) : Int := (maxL (ls.map (shareI t))).getD 0
theorem maxL_mem {ns : List Int} {m : Int} (h : maxL ns = some m) : m ∈ ns ∧ ∀ n ∈ ns, n ≤ m := by
  cases ns with
  | nil => cases h
  | cons n ns =>
    cases h
    exact ⟨foldl_max_mem ns n, fun y hy => foldl_max_le ns n y hy⟩
theorem maxL_some {ns : List Int} (h : ns ≠ []) : ∃ m, maxL ns = some m := by
  cases ns with
  | nil => exact absurd rfl h
  | cons a ns => exact ⟨_, rfl⟩
theorem LI_some {ls : List Ln} (h : ls ≠ []) (t : Int) : maxL (ls.map (shareI t)) = some (LI ls t) := by
  obtain ⟨m, e⟩ := maxL_some (ns := ls.map (shareI t)) (by simpa using h)
  unfold LI
  rw [e]; rfl
theorem LI_at {ls : List Ln} (h : ls ≠ []) (t : Int) : ∃ l ∈ ls, LI ls t = shareI t l := by
  obtain ⟨m, _⟩ := maxL_mem (LI_some h t)
  obtain ⟨l, hl, e⟩ := List.mem_map.mp m
  exact ⟨l, hl, e.symm⟩
theorem LI_le {ls : List Ln} {l : Ln} (h : l ∈ ls) (t : Int) : shareI t l ≤ LI ls t := by
  obtain ⟨_, m⟩ := maxL_mem (LI_some (List.ne_nil_of_mem h) t)
  exact m _ (List.mem_map.mpr ⟨l, h, rfl⟩)
theorem LI_same {ls ms : List Ln} (h : ∀ l, l ∈ ls ↔ l ∈ ms) (t : Int) : LI ls t = LI ms t := by
  cases ls with
  | nil =>
    cases ms with
    | nil => rfl
    | cons a ms => exact absurd ((h a).mpr (List.mem_cons_self ..)) (by simp)
  | cons a ls =>
    have n1 : a :: ls ≠ [] := by simp
    have n2 : ms ≠ [] := List.ne_nil_of_mem ((h a).mp (List.mem_cons_self ..))
    obtain ⟨l, hl, e⟩ := LI_at n1 t
    obtain ⟨m, hm, e'⟩ := LI_at n2 t
    have := LI_le ((h l).mp hl) t
    have := LI_le ((h m).mpr hm) t
    omega
/-- ceilings go up with what they are of -/
theorem ceil_mono {a b x y : Int} (hx : 0 < x) (hy : 0 < y) (h : a * y ≤ b * x) : -(-a / x) ≤ -(-b / y) := by
  have h1 : -b ≤ (-b / y) * y + (y - 1) := by have := Int.lt_ediv_add_one_mul_self (-b) hy; rw [Int.add_mul, Int.one_mul] at this; omega
  have h2 : (-b / y) * y ≤ -b := Int.ediv_mul_le _ (by omega)
  -- b ≤ q * y with q = -(-b/y)
  have h3 : b ≤ -(-b / y) * y := by rw [Int.neg_mul]; omega
  have h4 : a ≤ -(-b / y) * x := by
    have : a * y ≤ (-(-b / y) * x) * y := by
      refine Int.le_trans h ?_
      have := Int.mul_le_mul_of_nonneg_right h3 (show 0 ≤ x by omega)
      rw [Int.mul_right_comm] at this
      exact this
    exact Int.le_of_mul_le_mul_right this hy
  have h5 : -(-(-b / y)) ≤ -a / x := by
    rw [Int.neg_neg, Int.le_ediv_iff_mul_le hx]
    have : -(-b / y) * x = -((-b / y) * x) := Int.neg_mul ..
    omega
  omega
/-- a line whose rate is r / p: p steps on it is r more -/
theorem share_turn {l : Ln} {p r : Int} (hb : 0 < l.2.2) (h : p * l.2.1 = r * l.2.2) (t : Int) : shareI (t + p) l = shareI t l + r := by
  unfold shareI
  have e : -(l.1 + (t + p) * l.2.1) = -(l.1 + t * l.2.1) + (-r) * l.2.2 := by rw [Int.add_mul, h, Int.neg_mul]; omega
  rw [e, Int.add_mul_ediv_right _ _ (by omega)]
  omega
def overI (b l : Ln) : Int := -(-(l.1 * b.2.2 - b.1 * l.2.2) / leadI b l)
theorem ceil_ge {n b : Int} (hb : 0 < b) : n ≤ -(-n / b) * b := by
  have := Int.ediv_mul_le (-n) (show b ≠ 0 by omega)
  rw [Int.neg_mul]
  omega
/-- from T on the faster line is ahead -/
theorem over {b l : Ln} {t : Int} (hb : 0 < b.2.2) (hl : 0 < l.2.2) (hp : 0 < leadI b l) (h : overI b l ≤ t) : shareI t l ≤ shareI t b := by
  refine ceil_mono hl hb ?_
  have h1 := ceil_ge (n := l.1 * b.2.2 - b.1 * l.2.2) hp
  have h2 : -(-(l.1 * b.2.2 - b.1 * l.2.2) / leadI b l) * leadI b l ≤ t * leadI b l := Int.mul_le_mul_of_nonneg_right h (by omega)
  have h3 : t * leadI b l = t * (b.2.1 * l.2.2) - t * (l.2.1 * b.2.2) := by unfold leadI; rw [Int.mul_sub]
  have h4 : (l.1 + t * l.2.1) * b.2.2 = l.1 * b.2.2 + t * (l.2.1 * b.2.2) := by rw [Int.add_mul, Int.mul_assoc]
  have h5 : (b.1 + t * b.2.1) * l.2.2 = b.1 * l.2.2 + t * (b.2.1 * l.2.2) := by rw [Int.add_mul, Int.mul_assoc]
  rw [h4, h5]
  omega
/-- the fastest line, its rate in lowest terms -/
structure Fast (ls : List Ln) (b : Ln) (p r : Nat) : Prop where
  mem : b ∈ ls
  top : ∀ l ∈ ls, leadI l b ≤ 0
  rate : ∃ d : Nat, 0 < d ∧ b.2.1 = r * d ∧ b.2.2 = p * d
  low : Nat.Coprime r p
  p0 : 0 < p
theorem Fast.eq {ls : List Ln} {b : Ln} {p r : Nat} (f : Fast ls b p r) : (p : Int) * b.2.1 = r * b.2.2 := by
  obtain ⟨d, _, e1, e2⟩ := f.rate
  rw [e1, e2, ← Int.mul_assoc, ← Int.mul_assoc, Int.mul_comm (p : Int) r]
theorem Fast.line {ls : List Ln} {b l : Ln} {p r : Nat} (f : Fast ls b p r) (hb : 0 < b.2.2) (h : leadI b l = 0) : (p : Int) * l.2.1 = r * l.2.2 := by
  have e := f.eq
  unfold leadI at h
  have h' : b.2.1 * l.2.2 = l.2.1 * b.2.2 := by omega
  have : ((p : Int) * l.2.1) * b.2.2 = (r * l.2.2) * b.2.2 := by
    rw [Int.mul_assoc, ← h', ← Int.mul_assoc, e, Int.mul_right_comm]
  exact Int.eq_of_mul_eq_mul_right (by omega) this
/-- the fastest is ahead of all from T on: then the load goes on by turns -/
theorem Fast.turns {ls : List Ln} {b : Ln} {p r : Nat} {T : Int} (f : Fast ls b p r) (ok : ∀ l ∈ ls, 0 < l.2.2) (hT : ∀ l ∈ ls, 0 < leadI b l → overI b l ≤ T) : ∀ t, T ≤ t → LI ls (t + p) = LI ls t + r := by
  intro t ht
  have hn : ls ≠ [] := List.ne_nil_of_mem f.mem
  have hb := ok b f.mem
  have go : ∀ l ∈ ls, ∀ s, T ≤ s → ∃ l' ∈ ls, (∀ u, shareI (u + p) l' = shareI u l' + r) ∧ shareI s l ≤ shareI s l' := fun l hl s hs => by
    by_cases c : 0 < leadI b l
    · exact ⟨b, f.mem, fun u => share_turn hb f.eq u, over hb (ok l hl) c (Int.le_trans (hT l hl c) hs)⟩
    · have h0 : leadI b l = 0 := by
        have := f.top l hl
        have e : leadI b l = -leadI l b := by unfold leadI; omega
        omega
      exact ⟨l, hl, fun u => share_turn (ok l hl) (f.line hb h0) u, Int.le_refl _⟩
  obtain ⟨l, hl, e⟩ := LI_at hn t
  obtain ⟨l', hl', k, le⟩ := go l hl t ht
  obtain ⟨m, hm, e'⟩ := LI_at hn (t + p)
  obtain ⟨m', hm', k', le'⟩ := go m hm (t + p) (by omega)
  have a1 := LI_le hl' (t + p)
  have a2 := k t
  have a3 := LI_le hm' t
  have a4 := k' t
  omega
theorem Fast.same {ls ms : List Ln} {b c : Ln} {p r q s : Nat} (f : Fast ls b p r) (g : Fast ms c q s) (ok : ∀ l ∈ ls, 0 < l.2.2) (ok' : ∀ l ∈ ms, 0 < l.2.2)
    (h1 : leadI b c = 0) : p = q ∧ r = s := by
  have hb := ok b f.mem
  have hc := ok' c g.mem
  have e1 := f.line hb h1
  have e2 := g.eq
  -- p * c1 = r * c2, q * c1 = s * c2
  have e3 : (p : Int) * s = r * q := by
    have : ((p : Int) * s) * c.2.2 = (r * q) * c.2.2 := by
      rw [Int.mul_assoc, ← e2, Int.mul_left_comm, e1, Int.mul_left_comm, Int.mul_assoc]
    exact Int.eq_of_mul_eq_mul_right (by omega) this
  have e4 : p * s = r * q := by exact_mod_cast e3
  have d1 : p ∣ q := (Nat.Coprime.symm f.low).dvd_of_dvd_mul_left (by rw [← e4]; exact Nat.dvd_mul_right ..)
  have d2 : q ∣ p := (Nat.Coprime.symm g.low).dvd_of_dvd_mul_right (by rw [e4]; exact Nat.dvd_mul_left ..)
  have pq : p = q := Nat.dvd_antisymm d1 d2
  subst pq
  refine ⟨rfl, ?_⟩
  rw [Nat.mul_comm] at e4
  exact (Nat.eq_of_mul_eq_mul_right f.p0 e4).symm
/-- what is told of lines that grow -/
structure IsGrown (ls : List Ln) (e : List Int) (p r : Nat) : Prop where
  fast : ∃ b, Fast ls b p r
  beg : ∃ n : Nat, n ≤ 12000 ∧ e = (List.range (n + p)).map (fun i : Nat => LI ls i) ∧ (∀ t : Int, n ≤ t → LI ls (t + p) = LI ls t + r) ∧ (n = 0 ∨ LI ls ((n : Int) - 1 + p) ≠ LI ls ((n : Int) - 1) + r)
theorem IsGrown.uniq {ls ms : List Ln} {e e' : List Int} {p r q s : Nat} (f : IsGrown ls e p r) (g : IsGrown ms e' q s) (ok : ∀ l ∈ ls, 0 < l.2.2) (h : ∀ l, l ∈ ls ↔ l ∈ ms) : e = e' ∧ p = q ∧ r = s := by
  obtain ⟨b, fb⟩ := f.fast
  obtain ⟨c, gc⟩ := g.fast
  have ok' : ∀ l ∈ ms, 0 < l.2.2 := fun l hl => ok l ((h l).mpr hl)
  have z : leadI b c = 0 := by
    have h1 := fb.top c ((h c).mpr gc.mem)
    have h2 := gc.top b ((h b).mp fb.mem)
    have e : leadI b c = -leadI c b := by unfold leadI; omega
    omega
  obtain ⟨rfl, rfl⟩ := fb.same gc ok ok' z
  refine ⟨?_, rfl, rfl⟩
  obtain ⟨n, _, e1, a1, b1⟩ := f.beg
  obtain ⟨m, _, e2, a2, b2⟩ := g.beg
  have hL : ∀ t, LI ls t = LI ms t := LI_same h
  have nm : n = m := by
    rcases Nat.lt_trichotomy n m with c | c | c
    · rcases b2 with b2 | b2
      · omega
      · refine absurd ?_ b2
        rw [← hL, ← hL]
        exact a1 _ (by omega)
    · exact c
    · rcases b1 with b1 | b1
      · omega
      · refine absurd ?_ b1
        rw [hL, hL]
        exact a2 _ (by omega)
  subst nm
  rw [e1, e2]
  exact List.map_congr_left fun i _ => hL i
/-- one step later -/
def later (l : Ln) : Ln := (l.1 + l.2.1, l.2.1, l.2.2)
theorem share_later (t : Int) (l : Ln) : shareI t (later l) = shareI (t + 1) l := by
  unfold shareI later
  show -(-(l.1 + l.2.1 + t * l.2.1) / l.2.2) = _
  rw [Int.add_mul, Int.one_mul, show l.1 + l.2.1 + t * l.2.1 = l.1 + (t * l.2.1 + l.2.1) by omega]
theorem LI_later (ls : List Ln) (t : Int) : LI (ls.map later) t = LI ls (t + 1) := by
  unfold LI
  rw [List.map_map, show (shareI t ∘ later) = shareI (t + 1) from funext fun l => share_later t l]
theorem IsGrown.next {ls : List Ln} {e e' : List Int} {p r q s : Nat} (f : IsGrown ls e p r) (g : IsGrown (ls.map later) e' q s) (ok : ∀ l ∈ ls, 0 < l.2.2) :
    p = q ∧ r = s ∧ 0 < p ∧ p ≤ e.length ∧ e' = if p < e.length then e.drop 1 else e.drop 1 ++ [e.headD 0 + r] := by
  obtain ⟨b, fb⟩ := f.fast
  obtain ⟨c, gc⟩ := g.fast
  have ok' : ∀ l ∈ ls.map later, 0 < l.2.2 := fun l hl => by
    obtain ⟨k, hk, rfl⟩ := List.mem_map.mp hl
    exact ok k hk
  obtain ⟨c0, hc0, rfl⟩ := List.mem_map.mp gc.mem
  have z : leadI b (later c0) = 0 := by
    have h1 := fb.top c0 hc0
    have h2 := gc.top (later b) (List.mem_map.mpr ⟨b, fb.mem, rfl⟩)
    unfold leadI later at *
    simp only at *
    omega
  obtain ⟨rfl, rfl⟩ := fb.same gc ok ok' z
  obtain ⟨n, _, e1, a1, b1⟩ := f.beg
  obtain ⟨m, _, e2, a2, b2⟩ := g.beg
  simp only [LI_later] at a2 b2 e2
  have le : e.length = n + p := by rw [e1, List.length_map, List.length_range]
  have nm : m = n - 1 := by
    rcases Nat.lt_trichotomy m (n - 1) with c | c | c
    · rcases b1 with b1 | b1
      · omega
      · refine absurd ?_ b1
        have := a2 ((n : Int) - 2) (by omega)
        rw [show (n : Int) - 2 + 1 = n - 1 by omega, show (n : Int) - 2 + p + 1 = n - 1 + p by omega] at this
        exact this
    · exact c
    · rcases b2 with b2 | b2
      · omega
      · refine absurd ?_ b2
        have := a1 ((m : Int) - 1 + 1) (by omega)
        rw [show (m : Int) - 1 + 1 + p = m - 1 + p + 1 by omega] at this
        exact this
  have p0 := fb.p0
  refine ⟨rfl, rfl, p0, by omega, ?_⟩
  have tl : e.drop 1 = (List.range (n + p - 1)).map fun i : Nat => LI ls (i + 1) := by
    rw [e1, show n + p = n + p - 1 + 1 by omega, List.range_succ_eq_map, List.map_cons, List.drop_one, List.tail_cons, List.map_map]
    rfl
  by_cases c : p < e.length
  · rw [if_pos c, tl, e2, nm, show n - 1 + p = n + p - 1 by omega]
  · have n0 : n = 0 := by omega
    subst n0
    rw [if_neg c, tl, e2, nm, show 0 - 1 + p = p - 1 + 1 by omega, List.range_succ, List.map_append, show p - 1 + 1 - 1 = p - 1 by omega]
    congr 1
    have hd : e.headD 0 = LI ls 0 := by
      rw [e1, show 0 + p = p - 1 + 1 by omega, List.range_succ_eq_map]
      rfl
    have := a1 0 (by omega)
    rw [hd, List.map_cons, List.map_nil, ← this]
    congr 2
    omega
end GM
/-! MC: tables of numbers, lines. -/
namespace K14
open PySem PySem.Spec PyProof.Rows L2 MG QD MU GM
abbrev Grid := List (List Int)
abbrev intsD (r : List Int) : List D := r.map PyData.int
def rowD (r : List Int) : D := .tuple (intsD r)
def gridD (g : Grid) : D := .tuple (g.map rowD)
structure Gridish (g : Grid) (m n : Nat) (most : Int) : Prop where
  rows : g.length = m
  cols : ∀ r ∈ g, r.length = n
  least : ∀ r ∈ g, ∀ x ∈ r, 0 ≤ x
  most : ∀ r ∈ g, ∀ x ∈ r, x ≤ most
theorem log_b {b : Int} (h0 : 0 < b) (h : b ≤ 1000000) : b.natAbs.log2 < 9000 := lgN (by decide) (Nat.lt_trans (show b.natAbs < 2 ^ 64 by omega) (by decide +kernel))
theorem ceiling {n b : Int} (h0 : 0 < b) (h : b ≤ 1000000) {st : Sto} : F_ceiling [.fz (.int n), .fz (.int b)] st = .ok (.fz (.int (-(-n / b)))) st := by
  have c : ∀ x, cDiv x b = true := fun x => decide_eq_true ⟨h0, log_b h0 h⟩
  unfold F_ceiling fnD d_ceiling
  simp [c]
theorem check_fair {hs gs : Side} {t : Option Int} {x : Str} {st : Sto} : F_check_fair [.fz (fairD hs gs t x)] st = .ok (.fz .none) st := by
  have e : fIsi (.fz (fairD hs gs t x)) (.fz (clsD 0)) st = .ok (.fz (.bool true)) st := rfl
  unfold F_check_fair fnD d_check_fair
  simp [e]
theorem is_row {r : List Int} {n : Nat} {most : Int} (hl : r.length = n) (hn : n ≤ 100) (h0 : ∀ x ∈ r, 0 ≤ x) (h1 : ∀ x ∈ r, x ≤ most) {st : Sto} : F_is_row [.fz (rowD r), .fz (.int (n : Int)), .fz (.int most)] st = .ok (.fz (.bool true)) st := by
  have e : c_is_row_1 [some (.fz (rowD r)), some (.fz (.int (n : Int))), some (.fz (.int most)), none] st = .ok (.own (r.map fun _ => .bool true)) st := by
    unfold c_is_row_1 rowD
    simp only [dLc_eq, iSeq_eq, dVar_eq, List.getElem?_cons_zero, Rt.bind_ok, srcT_fz]
    rw [lcL_map (f := fun _ => .bool true) _ _ rfl (fun d hd => by
      obtain ⟨x, hx, rfl⟩ := List.mem_map.mp hd
      refine ⟨_, .fz (.bool true), rfl, ?_, rfl⟩
      simp [wipeE, is_integer, h0 x hx, h1 x hx]) (by simp; exact sz_le (by omega))]
    rw [List.nil_append, List.map_map]
    rfl
  have bl : ∀ l : List Int, blL (l.map fun _ => PyData.bool true) = some (l.map fun _ => true) := fun l => by
    induction l with
    | nil => rfl
    | cons a l ih => show (blL (l.map fun _ => PyData.bool true)).map _ = _; rw [ih]; rfl
  have ea : fBls (fun bs => bs.all id) (.own (r.map fun _ => .bool true)) st = .ok (.fz (.bool true)) st := by
    unfold fBls
    rw [seqR_own, Option.bind_some, bl]
    have : (r.map fun _ => true).all id = true := by
      rw [List.all_eq_true]
      intro b hb
      obtain ⟨c, hc, rfl⟩ := List.mem_map.mp hb
      rfl
    simp only [this]
  have el : fLen (.fz (rowD r)) st = .ok (.fz (.int (n : Int))) st := by
    unfold fLen rowD
    simp [hl]
  have ei : fIsi (.fz (rowD r)) (.fz (tyD "tuple")) st = .ok (.fz (.bool true)) st := isi_tup
  unfold F_is_row fnD d_is_row
  simp [ei, el, e, ea, fEq, scaD, eqS]
theorem table_fault {g : Grid} {m n : Nat} {most : Int} (G : Gridish g m n most) (hm : m ≤ 100) (hn : n ≤ 100) {st : Sto} : F_table_fault [.fz (gridD g), .fz (.int (m : Int)), .fz (.int (n : Int)), .fz (.int most)] st = .ok (.fz (.tuple [])) st := by
  let I : Nat → En → Sto → Prop := fun i en s' => s' = st ∧ ∃ v4 v5, en = [some (.fz (gridD g)), some (.fz (.int (m : Int))), some (.fz (.int (n : Int))), some (.fz (.int most)), v4, v5]
  obtain ⟨en4, st4, e4, rfl, v4, v5, rfl⟩ := forL_inv (s := ⟨enuD (g.map rowD), none⟩) (g := gT 2 (gsCons (gN 4) (gsCons (gN 5) gsNil))) (b := b_table_fault_1) I (enuD (g.map rowD)) 0 [some (.fz (gridD g)), some (.fz (.int (m : Int))), some (.fz (.int (n : Int))), some (.fz (.int most)), none, none] st ⟨rfl, none, none, rfl⟩
    (fun i en s' d hd hI => by
      obtain ⟨rfl, v4, v5, rfl⟩ := hI
      obtain ⟨hl, rfl, hg⟩ := enu_get hd
      rw [List.length_map] at hl
      have hz : (g.map rowD).getD i .none = rowD g[i] := by rw [List.getD_eq_getElem?_getD, List.getElem?_map, List.getElem?_eq_getElem hl]; rfl
      have mz : g[i] ∈ g := List.getElem_mem hl
      refine ⟨trivial, [some (.fz (gridD g)), some (.fz (.int (m : Int))), some (.fz (.int (n : Int))), some (.fz (.int most)), some (.fz (.int (i : Nat))), some (.fz (rowD g[i]))], s', by rw [hz]; rfl, [some (.fz (gridD g)), some (.fz (.int (m : Int))), some (.fz (.int (n : Int))), some (.fz (.int most)), some (.fz (.int (i : Nat))), some (.fz (rowD g[i]))], s', .inl ?_, rfl, _, _, rfl⟩
      have er := is_row (r := g[i]) (n := n) (most := most) (G.cols _ mz) hn (G.least _ mz) (G.most _ mz) (st := s')
      generalize g[i] = r at er ⊢
      unfold b_table_fault_1
      simp [er])
    (fun en s h => trivial)
  have eF : sFor (iEnu true (dVar 0)) (gT 2 (gsCons (gN 4) (gsCons (gN 5) gsNil))) b_table_fault_1 [some (.fz (gridD g)), some (.fz (.int (m : Int))), some (.fz (.int (n : Int))), some (.fz (.int most)), none, none] st4 = .go [some (.fz (gridD g)), some (.fz (.int (m : Int))), some (.fz (.int (n : Int))), some (.fz (.int most)), v4, v5] st4 := by
    rw [sFor_eq, iEnu_eq]
    simp only [dVar_eq, List.getElem?_cons_zero, Rt.bind_ok, kndW_fz, gridD, kndD_tup, if_true, sBind_ok]
    exact e4
  have ei : ∀ s, fIsi (.fz (gridD g)) (.fz (tyD "tuple")) s = .ok (.fz (.bool true)) s := fun s => isi_tup
  have el : ∀ s, fLen (.fz (gridD g)) s = .ok (.fz (.int (m : Int))) s := fun s => by
    unfold fLen gridD
    simp [G.rows]
  unfold F_table_fault fnD d_table_fault
  simp [-sFor_eq, ei, el, eF, fEq, scaD, eqS, sz_le]
/-! ### lines: start, growth, bound -/
def lnD (l : Ln) : D := .tuple [.int l.1, .int l.2.1, .int l.2.2]
abbrev lnsD (ls : List Ln) : D := .list (ls.map lnD)
theorem cMul_s {i j : Int} (hi : i.natAbs ≤ 10 ^ 100) (hj : j.natAbs ≤ 10 ^ 100) : cMul i j = true := cMul_ok (Nat.lt_of_le_of_lt hi (by decide +kernel)) (Nat.lt_of_le_of_lt hj (by decide +kernel))
theorem small_abs {i : Int} (h0 : -1000000000 ≤ i) (h1 : i ≤ 1000000000) : i.natAbs ≤ 10 ^ 100 := Nat.le_trans (show i.natAbs ≤ 1000000000 by omega) (by decide +kernel)
/-- the order by rate goes on -/
theorem lead_trans {l b o : Ln} (hl : LnOk l) (hb : LnOk b) (ho : LnOk o) (h1 : leadI l b ≤ 0) (h2 : 0 ≤ leadI o b) : leadI l o ≤ 0 := by
  unfold leadI at *
  have e1 : l.2.1 * b.2.2 ≤ b.2.1 * l.2.2 := by omega
  have e2 : b.2.1 * o.2.2 ≤ o.2.1 * b.2.2 := by omega
  have lb := hl.b0
  have ob := ho.b0
  have bb := hb.b0
  have m1 : l.2.1 * b.2.2 * o.2.2 ≤ b.2.1 * l.2.2 * o.2.2 := Int.mul_le_mul_of_nonneg_right e1 (by omega)
  have m2 : b.2.1 * o.2.2 * l.2.2 ≤ o.2.1 * b.2.2 * l.2.2 := Int.mul_le_mul_of_nonneg_right e2 (by omega)
  have r1 : b.2.1 * l.2.2 * o.2.2 = b.2.1 * o.2.2 * l.2.2 := Int.mul_right_comm ..
  have r2 : l.2.1 * b.2.2 * o.2.2 = l.2.1 * o.2.2 * b.2.2 := Int.mul_right_comm ..
  have r3 : o.2.1 * b.2.2 * l.2.2 = o.2.1 * l.2.2 * b.2.2 := Int.mul_right_comm ..
  have m3 : l.2.1 * o.2.2 * b.2.2 ≤ o.2.1 * l.2.2 * b.2.2 := by rw [← r2, ← r3]; exact Int.le_trans m1 (by rw [r1]; exact m2)
  have := Int.le_of_mul_le_mul_right m3 (by omega)
  omega
end K14
/-! MD: overtaken, grown. -/
namespace K14
open PySem PySem.Spec PyProof.Rows L2 MG QD MU GM
theorem ceil_le {n b m : Int} (hb : 0 < b) (h : n ≤ m) (hm : 0 ≤ m) : -(-n / b) ≤ m := by
  have h1 : -m ≤ -n / b := by
    rw [Int.le_ediv_iff_mul_le hb]
    have : m * 1 ≤ m * b := Int.mul_le_mul_of_nonneg_left (by omega) hm
    rw [Int.neg_mul]
    omega
  omega
theorem mul_small {a b : Int} {A B : Int} (a0 : 0 ≤ a) (a1 : a ≤ A) (b0 : 0 ≤ b) (b1 : b ≤ B) : 0 ≤ a * b ∧ a * b ≤ A * B := ⟨Int.mul_nonneg a0 b0, Int.le_trans (Int.mul_le_mul_of_nonneg_right a1 b0) (Int.mul_le_mul_of_nonneg_left b1 (by omega))⟩
theorem lead_small {b l : Ln} (hb : LnOk b) (hl : LnOk l) : leadI b l ≤ 12000 ∧ -12000 ≤ leadI b l := by
  have p := mul_small hb.g0 hb.g1 (show 0 ≤ l.2.2 by have := hl.b0; omega) hl.b1
  have q := mul_small hl.g0 hl.g1 (show 0 ≤ b.2.2 by have := hb.b0; omega) hb.b1
  unfold leadI
  omega
theorem over_small {b l : Ln} (hb : LnOk b) (hl : LnOk l) : l.1 * b.2.2 - b.1 * l.2.2 ≤ 12000 ∧ -12000 ≤ l.1 * b.2.2 - b.1 * l.2.2 := by
  have p := mul_small hb.s0 hb.s1 (show 0 ≤ l.2.2 by have := hl.b0; omega) hl.b1
  have q := mul_small hl.s0 hl.s1 (show 0 ≤ b.2.2 by have := hb.b0; omega) hb.b1
  omega
theorem intL_ints (ns : List Int) : intL (intsD ns) = some ns := by
  induction ns with
  | nil => rfl
  | cons n ns ih => show (intL (intsD ns)).map _ = _; rw [ih]; rfl
end K14
/-! MF: lines of a fair and two tables. -/
namespace K14
open PySem PySem.Spec PyProof.Rows L2 MG QD MU GM
theorem sumT {ns : List Int} {st : Sto} : fSumT (.fz (.tuple (intsD ns))) st = .ok (.fz (.int ns.sum)) st := by
  unfold fSumT fInts
  simp only [tupW_fz, Option.bind_some, intL_ints]
theorem sumL {ns : List Int} {st : Sto} : fSum (.fz (.list (intsD ns))) st = .ok (.fz (.int ns.sum)) st := by
  unfold fSum fInts
  simp only [seqR_fz, Option.bind_some, intL_ints]
/-- two clauses, each item by itself -/
theorem lcI_map {g : DnG} {e : Dn} {en0 : En} {l : List D} {f : D → D} {st : Sto} : ∀ (ds acc : List D), (∀ d ∈ ds, ∃ en2 w, g (.fz d) en0 st = .ok en2 st ∧ e en2 st = .ok w st ∧ datW w = some (f d)) → acc.length + ds.length ≤ sizeLine → lcI ⟨l, none⟩ g (fun _ st => .ok true st) e en0 ds acc st = .ok (acc ++ ds.map f) st
  | [], acc, _, _ => by
    unfold lcI
    rw [if_pos (show Src.ok ⟨l, none⟩ st from trivial), List.map_nil, List.append_nil]
  | d :: ds, acc, h, hl => by
    obtain ⟨en2, w, e1, e2, e3⟩ := h d (List.mem_cons_self ..)
    rw [List.length_cons] at hl
    unfold lcI
    rw [if_pos (show Src.ok ⟨l, none⟩ st from trivial), e1, nox_ok, Rt.bind_ok, nox_ok, Rt.bind_ok, if_pos rfl, e2, nox_ok, Rt.bind_ok, e3]
    dsimp only
    rw [if_pos (by omega), lcI_map ds _ (fun d' hd' => h d' (List.mem_cons_of_mem _ hd')) (by rw [List.length_append, List.length_singleton]; omega), List.append_assoc]
    rfl
theorem flat_rows {en : En} {st : Sto} (hl : 5 < en.length) {l : List D} : ∀ (g : Grid) (acc : List D), acc.length + g.flatten.length ≤ sizeLine →
    lc2L ⟨l, none⟩ (gN 4) (fun _ st => .ok true st) (iSeq srcT (dVar 4)) (gN 5) (fun _ st => .ok true st) (dVar 5) [5] en (g.map rowD) acc st = .ok (.own (acc ++ intsD g.flatten)) st
  | [], acc, _ => by
    rw [List.map_nil]
    unfold lc2L
    rw [if_pos (show Src.ok ⟨l, none⟩ st from trivial)]
    simp
  | r :: g, acc, h => by
    rw [List.flatten_cons, List.length_append] at h
    rw [List.map_cons]
    unfold lc2L
    rw [if_pos (show Src.ok ⟨l, none⟩ st from trivial), show gN 4 (.fz (rowD r)) en st = .ok (en.set 4 (some (.fz (rowD r)))) st from rfl, nox_ok, Rt.bind_ok, nox_ok, Rt.bind_ok, if_pos rfl]
    have e4 : (en.set 4 (some (.fz (rowD r))))[4]? = some (some (.fz (rowD r))) := List.getElem?_set_self (by omega)
    have ei : iSeq srcT (dVar 4) (en.set 4 (some (.fz (rowD r)))) st = .ok ⟨intsD r, none⟩ st := by
      rw [iSeq_eq, dVar_eq, e4]
      rfl
    rw [ei, nox_ok, Rt.bind_ok, lcI_map (f := fun d => d) _ _ (fun d hd => ⟨_, .fz d, rfl, by
      have : ((wipeE (en.set 4 (some (.fz (rowD r)))) [5]).set 5 (some (frz (.fz d))))[5]? = some (some (.fz d)) := List.getElem?_set_self (by rw [wipeE_len, List.length_set]; exact hl)
      rw [dVar_eq, this], rfl⟩) (by rw [List.length_map]; omega), Rt.bind_ok, List.map_id', flat_rows hl g _ (by rw [List.length_append, List.length_map]; omega), List.append_assoc, List.flatten_cons, show intsD (r ++ g.flatten) = intsD r ++ intsD g.flatten from List.map_append]
def colsI (g : Grid) (n : Nat) : List Int := (List.range n).map fun j => (g.map fun r => r.getD j 0).sum
end K14
/-! MH: limits, three lists side by side. -/
namespace K14
open PySem PySem.Spec PyProof.Rows L2 MG QD MU GM
def boundsI (s : Side) : List Int := s.map (·.2)
theorem bounds_c {s : Side} {en : En} {st : Sto} (h : s.length ≤ 4) : lcL ⟨s.map memD, none⟩ (gT 2 (gsCons (gN 3) (gsCons (gN 4) gsNil))) (fun _ st => .ok true st) (dVar 4) (wipeE [en.getD 0 none, en.getD 1 none, en.getD 2 none, none, none] [3, 4]) (s.map memD) [] st = .ok (.own (intsD (boundsI s))) st := by
  rw [lcL_map (f := fun d => match d with | .tuple [_, x] => x | _ => .none) _ _ rfl (fun d hd => by
    obtain ⟨z, hz, rfl⟩ := List.mem_map.mp hd
    exact ⟨_, .fz (.int z.2), rfl, rfl, rfl⟩) (by simp; exact sz_le (by omega))]
  rw [List.nil_append, List.map_map, intsD, boundsI, List.map_map]
  rfl
/-! ### three lists side by side -/
def z3 : List D → List D → List D → List D
  | a :: A, b :: B, c :: C => .tuple [a, b, c] :: z3 A B C
  | _, _, _ => []
theorem z3_app : ∀ {A B C : List D} {A' B' C' : List D}, A.length = B.length → A.length = C.length → z3 (A ++ A') (B ++ B') (C ++ C') = z3 A B C ++ z3 A' B' C'
  | [], [], [], _, _, _, _, _ => rfl
  | a :: A, b :: B, c :: C, _, _, _, h1, h2 => by
    show PyData.tuple [a, b, c] :: z3 (A ++ _) (B ++ _) (C ++ _) = _
    rw [z3_app (by simpa using h1) (by simpa using h2)]
    rfl
  | [], _ :: _, _, _, _, _, h, _ => by simp at h
  | [], [], _ :: _, _, _, _, _, h => by simp at h
  | _ :: _, [], _, _, _, _, h, _ => by simp at h
  | _ :: _, _ :: _, [], _, _, _, _, h => by simp at h
theorem z3_len : ∀ {A B C : List D}, A.length = B.length → A.length = C.length → (z3 A B C).length = A.length
  | [], [], [], _, _ => rfl
  | a :: A, b :: B, c :: C, h1, h2 => by
    show (z3 A B C).length + 1 = _
    rw [z3_len (by simpa using h1) (by simpa using h2)]
    rfl
  | [], _ :: _, _, h, _ => by simp at h
  | [], [], _ :: _, _, h => by simp at h
  | _ :: _, [], _, h, _ => by simp at h
  | _ :: _, _ :: _, [], _, h => by simp at h
theorem z3_get : ∀ {A B C : List D} {i : Nat}, A.length = B.length → A.length = C.length → i < A.length → (z3 A B C)[i]? = some (.tuple [A.getD i .none, B.getD i .none, C.getD i .none])
  | a :: A, b :: B, c :: C, 0, _, _, _ => rfl
  | a :: A, b :: B, c :: C, i + 1, h1, h2, h => by
    show (z3 A B C)[i]? = _
    rw [z3_get (by simpa using h1) (by simpa using h2) (by simpa using h)]
    rfl
  | [], _, _, _, _, _, h => by simp at h
  | _ :: _, [], _, _, h, _, _ => by simp at h
  | _ :: _, _ :: _, [], _, _, h, _ => by simp at h
theorem zipD3 {A B C : List D} (h1 : A.length = B.length) (h2 : A.length = C.length) : zipD [(false, A), (false, B), (false, C)] = z3 A B C := by
  apply List.ext_getElem?
  intro i
  by_cases h : i < A.length
  · rw [z3_get h1 h2 h]
    show ((List.range A.length).map fun i => PyData.tuple ([(false, A), (false, B), (false, C)].map fun p => p.2.getD i .none))[i]? = _
    rw [List.getElem?_map, List.getElem?_range h]
    rfl
  · rw [List.getElem?_eq_none (l := z3 A B C) (by rw [z3_len h1 h2]; omega), List.getElem?_eq_none (l := zipD [(false, A), (false, B), (false, C)])]
    show ((List.range A.length).map fun i => PyData.tuple ([(false, A), (false, B), (false, C)].map fun p => p.2.getD i .none)).length ≤ i
    rw [List.length_map, List.length_range]
    omega
end K14
/-! MI: the lines that count, growth. -/
namespace K14
open PySem PySem.Spec PyProof.Rows L2 MG QD MU GM
abbrev Tri := Int × Int × Option Int
def triD (z : Tri) : D := .tuple [.int z.1, .int z.2.1, deskD z.2.2]
def lnOf : Tri → Option Ln
  | (a, b, some c) => some (a, b, c)
  | (_, _, none) => none
theorem z3_tri : ∀ {A B : List Int} {C : List (Option Int)}, A.length = B.length → A.length = C.length → z3 (intsD A) (intsD B) (C.map deskD) = (A.zip (B.zip C)).map triD
  | [], [], [], _, _ => rfl
  | a :: A, b :: B, c :: C, h1, h2 => by
    show PyData.tuple [.int a, .int b, deskD c] :: z3 (intsD A) (intsD B) (C.map deskD) = _
    rw [z3_tri (by simpa using h1) (by simpa using h2)]
    rfl
  | [], _ :: _, _, h, _ => by simp at h
  | [], [], _ :: _, _, h => by simp at h
  | _ :: _, [], _, h, _ => by simp at h
  | _ :: _, _ :: _, [], _, h => by simp at h
theorem tri_ln : ∀ l : List Tri, (l.filter fun z => z.2.2.isSome).map triD = (l.filterMap lnOf).map lnD
  | [] => rfl
  | (a, b, some c) :: l => by
    rw [List.filter_cons_of_pos rfl, List.map_cons, tri_ln l]
    rfl
  | (a, b, none) :: l => by
    rw [List.filter_cons_of_neg (by simp), tri_ln l]
    rfl
def sumsT (g : Grid) (n : Nat) : List Int := g.map List.sum ++ g.flatten ++ colsI g n ++ [(g.map List.sum).sum]
def limT (hs gs : Side) (t : Option Int) : List (Option Int) := (boundsI hs).map some ++ List.replicate (hs.length * gs.length) none ++ (boundsI gs).map some ++ [t]
theorem limT_D (hs gs : Side) (t : Option Int) : intsD (boundsI hs) ++ List.replicate (hs.length * gs.length) .none ++ intsD (boundsI gs) ++ [deskD t] = (limT hs gs t).map deskD := by
  unfold limT
  simp [deskD, Function.comp_def]
theorem flat_len {n : Nat} : ∀ (g : Grid), (∀ r ∈ g, r.length = n) → g.flatten.length = g.length * n
  | [], _ => by simp
  | r :: g, h => by
    rw [List.flatten_cons, List.length_append, flat_len g fun r hr => h r (List.mem_cons_of_mem _ hr), h r (List.mem_cons_self ..), List.length_cons, Nat.succ_mul]
    omega
theorem sumsT_len {g : Grid} {m n : Nat} {most : Int} (G : Gridish g m n most) : (sumsT g n).length = m + m * n + n + 1 := by
  unfold sumsT colsI
  simp only [List.length_append, List.length_map, List.length_range, List.length_singleton, flat_len g G.cols, G.rows]
theorem limT_len (hs gs : Side) (t : Option Int) : (limT hs gs t).length = hs.length + hs.length * gs.length + gs.length + 1 := by
  unfold limT boundsI
  simp only [List.length_append, List.length_map, List.length_replicate, List.length_singleton]
def linesT (hs gs : Side) (t : Option Int) (g1 g2 : Grid) : List Ln := ((sumsT g1 gs.length).zip ((sumsT g2 gs.length).zip (limT hs gs t))).filterMap lnOf
end K14
/-! MIa: the lines by rows, columns, tables; growth told. -/
namespace K14
open PySem PySem.Spec PyProof.Rows L2 MG QD MU GM
theorem ln_some : ∀ {A B C : List Int}, (A.zip (B.zip (C.map some))).filterMap lnOf = A.zip (B.zip C)
  | [], _, _ => by simp
  | _ :: _, [], _ => by simp
  | _ :: _, _ :: _, [] => by simp
  | a :: A, b :: B, c :: C => by
    show ((a, b, some c) :: (A.zip (B.zip (C.map some)))).filterMap lnOf = _
    rw [List.filterMap_cons_some (f := lnOf) (b := (a, b, c)) rfl, ln_some]
    rfl
theorem ln_none : ∀ {A B : List Int} {k : Nat}, (A.zip (B.zip (List.replicate k none))).filterMap lnOf = []
  | [], _, _ => by simp
  | _ :: _, [], _ => by simp
  | _ :: _, _ :: _, 0 => by simp
  | a :: A, b :: B, k + 1 => by
    show ((a, b, none) :: (A.zip (B.zip (List.replicate k none)))).filterMap lnOf = _
    rw [List.filterMap_cons_none (f := lnOf) rfl, ln_none]
def tabT (t : Option Int) (g1 g2 : Grid) : List Ln := match t with
  | some k => [((g1.map List.sum).sum, (g2.map List.sum).sum, k)]
  | none => []
theorem zip3_app {A1 A2 B1 B2 : List Int} {C1 C2 : List (Option Int)} (h1 : A1.length = B1.length) (h2 : A1.length = C1.length) : (A1 ++ A2).zip ((B1 ++ B2).zip (C1 ++ C2)) = A1.zip (B1.zip C1) ++ A2.zip (B2.zip C2) := by
  rw [List.zip_append (l₁ := B1) (by omega), List.zip_append (by rw [List.length_zip]; omega)]
theorem linesT_eq {hs gs : Side} {t : Option Int} {g1 g2 : Grid} {k1 k2 : Int} (G1 : Gridish g1 hs.length gs.length k1) (G2 : Gridish g2 hs.length gs.length k2) :
    linesT hs gs t g1 g2 = (g1.map List.sum).zip ((g2.map List.sum).zip (boundsI hs)) ++ (colsI g1 gs.length).zip ((colsI g2 gs.length).zip (boundsI gs)) ++ tabT t g1 g2 := by
  unfold linesT sumsT limT
  have r1 := G1.rows
  have r2 := G2.rows
  have f1 := flat_len g1 G1.cols
  have f2 := flat_len g2 G2.cols
  rw [r1] at f1
  rw [r2] at f2
  have lb : ∀ s : Side, (boundsI s).length = s.length := fun s => by unfold boundsI; simp
  have c1 : (colsI g1 gs.length).length = gs.length := by unfold colsI; simp
  have c2 : (colsI g2 gs.length).length = gs.length := by unfold colsI; simp
  rw [zip3_app (by simp only [List.length_append, List.length_map]; omega) (by simp only [List.length_append, List.length_map, List.length_replicate, lb]; omega),
    zip3_app (by simp only [List.length_append, List.length_map]; omega) (by simp only [List.length_append, List.length_map, List.length_replicate, lb]; omega),
    zip3_app (by simp only [List.length_map]; omega) (by simp only [List.length_map, lb]; omega)]
  rw [List.filterMap_append, List.filterMap_append, List.filterMap_append, ln_some, ln_some, ln_none, List.append_nil]
  congr 1
  cases t <;> rfl
theorem sum_bd {k : Int} : ∀ {l : List Int}, (∀ x ∈ l, 0 ≤ x ∧ x ≤ k) → 0 ≤ l.sum ∧ l.sum ≤ k * l.length
  | [], _ => by simp
  | a :: l, h => by
    have h1 := h a (List.mem_cons_self ..)
    have h2 := sum_bd (k := k) (l := l) fun x hx => h x (List.mem_cons_of_mem _ hx)
    rw [List.sum_cons, List.length_cons, Int.natCast_add, Int.mul_add]
    simp only [Int.natCast_one, Int.mul_one] at *
    omega
theorem row_bd {g : Grid} {m n : Nat} {most : Int} (G : Gridish g m n most) : ∀ s ∈ g.map List.sum, 0 ≤ s ∧ s ≤ most * n := fun s hs => by
  obtain ⟨r, hr, rfl⟩ := List.mem_map.mp hs
  have := sum_bd (k := most) (l := r) fun x hx => ⟨G.least r hr x hx, G.most r hr x hx⟩
  rw [G.cols r hr] at this
  exact this
theorem getD_bd {g : Grid} {m n : Nat} {most : Int} (G : Gridish g m n most) {j : Nat} (hj : j < n) {r : List Int} (hr : r ∈ g) : 0 ≤ r.getD j 0 ∧ r.getD j 0 ≤ most := by
  have hl : j < r.length := by rw [G.cols r hr]; exact hj
  rw [List.getD_eq_getElem?_getD, List.getElem?_eq_getElem hl]
  exact ⟨G.least r hr _ (List.getElem_mem hl), G.most r hr _ (List.getElem_mem hl)⟩
theorem col_bd {g : Grid} {m n : Nat} {most : Int} (G : Gridish g m n most) : ∀ s ∈ colsI g n, 0 ≤ s ∧ s ≤ most * m := fun s hs => by
  obtain ⟨j, hj, rfl⟩ := List.mem_map.mp hs
  have := sum_bd (k := most) (l := g.map fun r => r.getD j 0) fun x hx => by
    obtain ⟨r, hr, rfl⟩ := List.mem_map.mp hx
    exact getD_bd G (List.mem_range.mp hj) hr
  rw [List.length_map, G.rows] at this
  exact this
theorem all_bd {g : Grid} {m n : Nat} {most : Int} (G : Gridish g m n most) : 0 ≤ (g.map List.sum).sum ∧ (g.map List.sum).sum ≤ most * n * m := by
  have := sum_bd (row_bd G)
  rw [List.length_map, G.rows] at this
  exact this
/-- what a line is: of a host or a guest, or of the tables -/
inductive LnIs (k1 k2 : Int) : Ln → Prop
  | side {s g b : Int} : 0 ≤ s → s ≤ k1 * 4 → 0 ≤ g → g ≤ k2 * 4 → 1 ≤ b → b ≤ 4 → LnIs k1 k2 (s, g, b)
  | all {s g b : Int} : 0 ≤ s → s ≤ k1 * 16 → 0 ≤ g → g ≤ k2 * 16 → 1 ≤ b → b ≤ 12 → LnIs k1 k2 (s, g, b)
theorem mem_zip3 {α β γ : Type} {A : List α} {B : List β} {C : List γ} {a : α} {b : β} {c : γ} (h : (a, b, c) ∈ A.zip (B.zip C)) : a ∈ A ∧ b ∈ B ∧ c ∈ C := by
  have h1 := List.of_mem_zip h
  have h2 := List.of_mem_zip h1.2
  exact ⟨h1.1, h2.1, h2.2⟩
theorem linesT_is {hs gs : Side} {t : Option Int} (f : Fairish hs gs t) {g1 g2 : Grid} {k1 k2 : Int} (p1 : 0 ≤ k1) (p2 : 0 ≤ k2) (G1 : Gridish g1 hs.length gs.length k1) (G2 : Gridish g2 hs.length gs.length k2) : ∀ l ∈ linesT hs gs t g1 g2, LnIs k1 k2 l := by
  rintro ⟨s, g, b⟩ hl
  have m4 : ((hs.length : Nat) : Int) ≤ 4 := by have := f.h4; omega
  have n4 : ((gs.length : Nat) : Int) ≤ 4 := by have := f.g4; omega
  have mul4 : ∀ {k a : Int}, 0 ≤ k → a ≤ 4 → k * a ≤ k * 4 := fun h h' => Int.mul_le_mul_of_nonneg_left h' h
  rw [linesT_eq G1 G2] at hl
  rcases List.mem_append.mp hl with hl | hl
  · rcases List.mem_append.mp hl with hl | hl
    · obtain ⟨h1, h2, h3⟩ := mem_zip3 hl
      obtain ⟨z, hz, rfl⟩ := List.mem_map.mp h3
      have b1 := row_bd G1 _ h1
      have b2 := row_bd G2 _ h2
      have b3 := f.bd z (List.mem_append_left _ hz)
      exact .side b1.1 (Int.le_trans b1.2 (mul4 p1 n4)) b2.1 (Int.le_trans b2.2 (mul4 p2 n4)) b3.1 b3.2
    · obtain ⟨h1, h2, h3⟩ := mem_zip3 hl
      obtain ⟨z, hz, rfl⟩ := List.mem_map.mp h3
      have b1 := col_bd G1 _ h1
      have b2 := col_bd G2 _ h2
      have b3 := f.bd z (List.mem_append_right _ hz)
      exact .side b1.1 (Int.le_trans b1.2 (mul4 p1 m4)) b2.1 (Int.le_trans b2.2 (mul4 p2 m4)) b3.1 b3.2
  · cases t with
    | none => cases hl
    | some k =>
      have e := List.mem_singleton.mp hl
      have tb := f.tb k rfl
      have b1 := all_bd G1
      have b2 := all_bd G2
      have big : ∀ {k : Int}, 0 ≤ k → k * gs.length * hs.length ≤ k * 16 := fun {k} h => by
        rw [Int.mul_assoc]
        refine Int.mul_le_mul_of_nonneg_left ?_ h
        have := Nat.mul_le_mul f.g4 f.h4
        exact_mod_cast this
      cases e
      exact .all b1.1 (Int.le_trans b1.2 (big p1)) b2.1 (Int.le_trans b2.2 (big p2)) tb.1 tb.2
theorem LnIs.ok {k1 k2 : Int} (h1 : k1 ≤ 60) (h2 : k2 ≤ 60) (p1 : 0 ≤ k1) (p2 : 0 ≤ k2) {l : Ln} (h : LnIs k1 k2 l) : LnOk l := by
  cases h with
  | side a b c d e f => exact ⟨a, Int.le_trans b (by omega), c, Int.le_trans d (by omega), e, Int.le_trans f (by omega)⟩
  | all a b c d e f => exact ⟨a, Int.le_trans b (by omega), c, Int.le_trans d (by omega), e, f⟩
theorem linesT_ne {hs gs : Side} {t : Option Int} (f : Fairish hs gs t) {g1 g2 : Grid} {k1 k2 : Int} (G1 : Gridish g1 hs.length gs.length k1) (G2 : Gridish g2 hs.length gs.length k2) : linesT hs gs t g1 g2 ≠ [] ∧ (linesT hs gs t g1 g2).length ≤ 50 := by
  have h1 := f.h1
  have h4 := f.h4
  have g4 := f.g4
  have e : (linesT hs gs t g1 g2).length = hs.length + gs.length + (tabT t g1 g2).length := by
    rw [linesT_eq G1 G2]
    unfold colsI boundsI
    simp only [List.length_append, List.length_zip, List.length_map, List.length_range, G1.rows, G2.rows]
    omega
  have : (tabT t g1 g2).length ≤ 1 := by cases t <;> simp [tabT]
  exact ⟨fun z => by rw [z, List.length_nil] at e; omega, by omega⟩
end K14
/-! MIb: growth told. -/
namespace K14
open PySem PySem.Spec PyProof.Rows L2 MG QD MU GM
theorem fast_of {ls : List Ln} {b : Ln} (h : ∀ l ∈ ls, LnOk l) (hb : b ∈ ls) (top : ∀ l ∈ ls, leadI l b ≤ 0) : ∃ p r d : Nat, Fast ls b p r ∧ ((Nat.gcd b.2.1.natAbs b.2.2.natAbs : Nat) : Int) = d ∧ b.2.2 / (d : Int) = p ∧ b.2.1 / (d : Int) = r ∧ 0 < d ∧ d ≤ 12 ∧ p ≤ 12 := by
  have ok := h b hb
  obtain ⟨g, hg⟩ := Int.eq_ofNat_of_zero_le ok.g0
  obtain ⟨c, hc⟩ := Int.eq_ofNat_of_zero_le (show 0 ≤ b.2.2 by have := ok.b0; omega)
  have c0 : 0 < c := by have := ok.b0; omega
  have c12 : c ≤ 12 := by have := ok.b1; omega
  have d0 : 0 < Nat.gcd g c := Nat.gcd_pos_of_pos_right _ c0
  have dg : Nat.gcd g c ∣ g := Nat.gcd_dvd_left ..
  have dc : Nat.gcd g c ∣ c := Nat.gcd_dvd_right ..
  refine ⟨c / Nat.gcd g c, g / Nat.gcd g c, Nat.gcd g c, ⟨hb, top, ⟨Nat.gcd g c, d0, ?_, ?_⟩, Nat.coprime_div_gcd_div_gcd d0, Nat.div_pos (Nat.le_of_dvd c0 dc) d0⟩, ?_, ?_, ?_, d0, Nat.le_trans (Nat.le_of_dvd c0 dc) c12, Nat.le_trans (Nat.div_le_self ..) c12⟩
  · rw [hg, ← Int.natCast_mul, Nat.div_mul_cancel dg]
  · rw [hc, ← Int.natCast_mul, Nat.div_mul_cancel dc]
  · rw [hg, hc]; rfl
  · rw [hc]; rfl
  · rw [hg]; rfl
end K14
/-! MJb: the jug's making, tables drawn. -/
namespace K14
open PySem PySem.Spec PyProof.Rows L2 MG QD MU GM
theorem jr_take {n : Nat} {st s1 : Sto} {M : Nat} {x : List Ob} (j : JR n st s1 M) : (s1 ++ x).take st.length = s1 := by
  rw [← jr_len j, List.take_left']
  rfl
theorem jr_take0 {n : Nat} {st s1 : Sto} {M : Nat} (j : JR n st s1 M) : s1.take st.length = s1 := by rw [← jr_len j, List.take_length]
/-- what uses the jug, with more things behind -/
theorem jr_fr {α : Type} {r : Rt α} {n N M : Nat} {st : Sto} {x : List Ob} {Q : α → Prop} (h : n < st.length) (w : wR noX r fun v s => Q v ∧ JR n (st ++ x) s M) : wR noX r fun v s => ∃ s1, s = s1 ++ x ∧ Q v ∧ JR n st s1 M :=
  w.use fun v s ⟨q, j⟩ => by
    obtain ⟨s1, e, j1⟩ := jr_app h j
    exact ⟨s1, e, q, j1⟩
theorem pourW {st : Sto} {n N : Nat} {m : Int} (j : JAt st n N) (hN : N < 1000000) (m1 : 1 ≤ m) (m2 : m < 10000000000000000) (x : List Ob := []) :
    wR noX (F_l_pour [.loc n, .fz (.int m)] (st ++ x)) fun w s => ∃ s1, s = s1 ++ x ∧ (∃ r : Int, w = .fz (.int r) ∧ 0 ≤ r ∧ r < m) ∧ JR n st s1 (N + 1) := by
  refine jr_fr (N := N) (jat_lt j) ?_
  obtain ⟨r, s', e, h0, h1, j'⟩ := pour (jat_app (x := x) j) hN m1 m2
  exact wR.is e ⟨⟨r, rfl, h0, h1⟩, j'⟩
theorem jug {ns : List Int} (h : ns.length ≤ 63) {i : Int} (i0 : 0 ≤ i) (i1 : i ≤ 1000) {st : Sto} : wR noX (F_l_jug [.fz (roD (ns.map PyData.int)), .fz (.int i)] st) fun w s => s = st ∧ ∃ a b : Int, w = .own [.int a, .int b, .int 0] ∧ JOk a b 0 0 := by
  have own : ∃ o : Int, wR noX (dIf (bT (dOp fLt (dVar 1) (dN (f1 fLen) (aCons (dVar 0) aNil)))) (dOp fIxL (dVar 0) (dVar 1)) (dOp fAdd (dC (.int 40)) (dVar 1)) [some (.fz (roD (ns.map PyData.int))), some (.fz (.int i)), none, none, none] st) fun w s => w = .fz (.int o) ∧ s = st := by
    have hl : ∀ s, fLen (.fz (roD (ns.map PyData.int))) s = .ok (.fz (.int (ns.length : Nat))) s := fun s => by unfold fLen; simp
    by_cases c : i < (ns.length : Int)
    · obtain ⟨k, rfl⟩ := Int.eq_ofNat_of_zero_le i0
      have hk : k < ns.length := by omega
      refine ⟨ns[k], ?_⟩
      simp [hl, hk, atI_n]
    · exact ⟨40 + i, by simp [hl, c]⟩
  obtain ⟨o, ho⟩ := own
  have cut : ∃ zs : List Int, QD.cutD (ns.map PyData.int) none (some 3) = zs.map PyData.int ∧ zs.length ≤ 63 := by
    refine ⟨(ns.drop (HT.sIx (ns.map PyData.int).length 0 none)).take (HT.sIx (ns.map PyData.int).length (ns.map PyData.int).length (some 3) - HT.sIx (ns.map PyData.int).length 0 none), ?_, ?_⟩
    · unfold QD.cutD
      rw [List.map_take, List.map_drop]
    · rw [List.length_take, List.length_drop]
      omega
  obtain ⟨zs, ez, lz⟩ := cut
  have sl : ∀ s, fSlL (.fz (roD (ns.map PyData.int))) none (some 3) s = .ok (.own (zs.map PyData.int)) s := fun s => by unfold fSlL; simp [ez]
  have ct : ∀ s, fCat (.own (zs.map PyData.int)) (.own [.int o]) s = .ok (.own ((zs ++ [o]).map PyData.int)) s := fun s => by
    unfold fCat
    simp only [seqW_own]
    rw [if_pos (by rw [List.length_map]; exact sz_le (by simp; omega))]
    simp
  generalize roD (ns.map PyData.int) = ro at *
  unfold F_l_jug d_l_jug
  simp only [wR_nox, wR_fn, wS_sSeq, wS_sSet, List.map_cons, List.map_nil, List.length_cons, List.length_nil, List.replicate, List.cons_append, List.nil_append]
  refine ho.use ?_
  rintro _ s0 ⟨rfl, rfl⟩
  have c1 : cMul 1299709 (i + 2) = true := cMul_ok (nat4000 (b := 1299709) (by omega) (by omega) (by decide +kernel)) (nat4000 (b := 10000) (by omega) (by omega) (by decide +kernel))
  simp [c1, dSl_eq, oNone_eq, oSome_eq, sl, ct, sz_le]
  refine wS_for (fun z : Int => PyData.int z) (zs ++ [o]) (fun k en s => s = s0 ∧ ∃ (m : Int) (v : Option QD.W), en = [some (.fz ro), some (.fz (.int i)), some (.fz (.int o)), some (.fz (.int m)), v] ∧ 0 ≤ m ∧ m ≤ 9223372036854775783 ∧ (0 < k → m < 9223372036854775783)) (by simp) ⟨rfl, _, _, rfl, by omega, by omega, by omega⟩ ?_ ?_
  · rintro k z en s hk ⟨rfl, m, v, rfl, m0, m1, _⟩
    have c2 : cMul m 2862933555777941757 = true := cMul_ok (nat4000 (b := 9223372036854775783) (by omega) (by omega) (by decide +kernel)) (nat4000 (b := 2862933555777941757) (by omega) (by omega) (by decide +kernel))
    have c3 : ∀ y, cMod y 9223372036854775337 = true := fun y => rfl
    have c4 : ∀ y, cMod y 9223372036854775783 = true := fun y => rfl
    unfold b_l_jug_1
    simp [c2, c3, c4]
    have := Int.emod_lt_of_pos (m * 2862933555777941757 + z % 9223372036854775337 + 5) (show (0 : Int) < 9223372036854775783 by decide)
    have := Int.emod_nonneg (m * 2862933555777941757 + z % 9223372036854775337 + 5) (show (9223372036854775783 : Int) ≠ 0 by decide)
    omega
  · rintro en s ⟨rfl, m, v, rfl, m0, m1, m2⟩
    have m3 := m2 (by simp)
    have c5 : cPow 10 18 = true := by decide +kernel
    simp [c5, sz_le]
    split
    · split <;> exact ⟨_, _, ⟨rfl, rfl⟩, by omega, m0, m3, by decide, by decide⟩
    · split <;> exact ⟨_, _, ⟨rfl, rfl⟩, by omega, m0, m3, by decide, by decide⟩
/-! ### tables drawn -/
end K14
/-! MJc: growing fairs drawn. -/
namespace K14
open PySem PySem.Spec PyProof.Rows L2 MG QD MU GM
theorem app_rows {s : Sto} {k : Nat} {g : Grid} {r : List Int} (hk : s.length = k) (hl : g.length < 1000) : fChg gApp (.loc k) [.fz (rowD r)] (s ++ [.lst (g.map rowD)]) = .ok (.fz .none) (s ++ [.lst ((g ++ [r]).map rowD)]) := by
  have l : (g.map rowD).length < sizeLine := by rw [List.length_map]; exact Nat.lt_of_lt_of_le hl (sz_le (by decide))
  unfold fChg
  simp only [get_last hk, gApp, datW_fz, if_pos l, set_last hk]
  simp
theorem get_mid {s y : Sto} {k : Nat} {o : Ob} (h : s.length = k) : (s ++ o :: y)[k]? = some o := by
  rw [← h, List.getElem?_append_right (Nat.le_refl _), Nat.sub_self]; rfl
theorem set_mid {s y : Sto} {k : Nat} {o p : Ob} (h : s.length = k) : (s ++ o :: y).set k p = s ++ p :: y := by
  rw [← h, List.set_append_right _ _ (Nat.le_refl _), Nat.sub_self]; rfl
theorem app_mid {s y : Sto} {k : Nat} {l : List D} {d : D} (hk : s.length = k) (hl : l.length < 1000) : fChg gApp (.loc k) [.fz d] (s ++ .lst l :: y) = .ok (.fz .none) (s ++ .lst (l ++ [d]) :: y) := by
  have l : l.length < sizeLine := Nat.lt_of_lt_of_le hl (sz_le (by decide))
  unfold fChg
  simp only [get_mid hk, gApp, datW_fz, if_pos l, set_mid hk]
end K14
/-! MKa: orders, tables turned, picked, added. -/
namespace K14
open PySem PySem.Spec PyProof.Rows L2 MG QD MU GM
abbrev ordL (o : List Nat) : List D := o.map fun i : Nat => .int (i : Int)
def ordD (o : List Nat) : D := .list (ordL o)
theorem ordL_ints (o : List Nat) : ordL o = intsD (o.map fun i : Nat => (i : Int)) := by simp [ordL]
theorem rowD_at {r : List Int} {j : Nat} (h : j < r.length) {st : Sto} : fIxT (.fz (rowD r)) (.fz (.int (j : Int))) st = .ok (.fz (.int (r.getD j 0))) st := by
  unfold rowD
  rw [fIxT_eq, atI_n, List.getElem?_map, List.getElem?_eq_getElem h, List.getD_eq_getElem?_getD, List.getElem?_eq_getElem h]
  rfl
theorem gridD_at {g : Grid} {i : Nat} (h : i < g.length) {st : Sto} : fIxT (.fz (gridD g)) (.fz (.int (i : Int))) st = .ok (.fz (rowD (g.getD i []))) st := by
  unfold gridD
  rw [fIxT_eq, atI_n, List.getElem?_map, List.getElem?_eq_getElem h, List.getD_eq_getElem?_getD, List.getElem?_eq_getElem h]
  rfl
theorem rowD_len {r : List Int} {st : Sto} : fLen (.fz (rowD r)) st = .ok (.fz (.int (r.length : Int))) st := by unfold fLen rowD; simp
theorem gridD_len {g : Grid} {st : Sto} : fLen (.fz (gridD g)) st = .ok (.fz (.int (g.length : Int))) st := by unfold fLen gridD; simp
theorem tupL {l : List D} {st : Sto} : fTupOf (.own l) st = .ok (.fz (.tuple l)) st := rfl
def turnG (g : Grid) (n : Nat) : Grid := (List.range n).map fun j => g.map fun r => r.getD j 0
theorem row_mem {g : Grid} {m n : Nat} {most : Int} (G : Gridish g m n most) {i : Nat} (h : i < m) : g.getD i [] ∈ g := by
  have hl : i < g.length := by rw [G.rows]; exact h
  rw [List.getD_eq_getElem?_getD, List.getElem?_eq_getElem hl]
  exact List.getElem_mem hl
def reG (g : Grid) (o1 o2 : List Nat) : Grid := o1.map fun i => o2.map fun j => (g.getD i []).getD j 0
end K14
/-! MKb: tables added. -/
namespace K14
open PySem PySem.Spec PyProof.Rows L2 MG QD MU GM
def addG (g h : Grid) (k : Int) : Grid := List.zipWith (List.zipWith fun a b => a + k * b) g h
theorem zw_range {α β γ : Type} (f : α → β → γ) (da : α) (db : β) : ∀ (l : List α) (m : List β), l.length = m.length → List.zipWith f l m = (List.range l.length).map fun i => f (l.getD i da) (m.getD i db)
  | [], [], _ => rfl
  | a :: l, b :: m, h => by
    rw [List.zipWith_cons_cons, zw_range f da db l m (by simpa using h), List.length_cons, List.range_succ_eq_map, List.map_cons, List.map_map]
    rfl
  | [], _ :: _, h => by simp at h
  | _ :: _, [], h => by simp at h
end K14
/-! MLa: sums of tables in other orders, turned, added (pure). -/
namespace K14
open PySem PySem.Spec PyProof.Rows L2 MG QD MU GM
theorem perm_sum {p q : List Int} (h : p.Perm q) : p.sum = q.sum := by
  induction h with
  | nil => rfl
  | cons x _ ih => rw [List.sum_cons, List.sum_cons, ih]
  | swap x y l => rw [List.sum_cons, List.sum_cons, List.sum_cons, List.sum_cons]; omega
  | trans _ _ a b => exact a.trans b
theorem range_getD {α : Type} (d : α) : ∀ l : List α, (List.range l.length).map (fun i => l.getD i d) = l
  | [] => rfl
  | a :: l => by
    rw [List.length_cons, List.range_succ_eq_map, List.map_cons, List.map_map]
    have := range_getD d l
    show a :: (List.range l.length).map (fun i => l.getD i d) = _
    rw [this]
theorem range_getD' {α : Type} {d : α} {l : List α} {n : Nat} (h : l.length = n) : (List.range n).map (fun i => l.getD i d) = l := by subst h; exact range_getD d l
theorem zip3_range {m : Nat} {A B C : List Int} (ha : A.length = m) (hb : B.length = m) (hc : C.length = m) : A.zip (B.zip C) = (List.range m).map fun i => (A.getD i 0, B.getD i 0, C.getD i 0) := by
  apply List.ext_getElem?
  intro i
  by_cases h : i < m
  · rw [List.getElem?_map, List.getElem?_range h, List.getElem?_eq_getElem (by simp; omega)]
    simp [List.getElem_zip, List.getD_eq_getElem?_getD, ha, hb, hc, h]
  · rw [List.getElem?_eq_none (by simp; omega), List.getElem?_eq_none (by simp; omega)]
theorem zip3_map {o : List Nat} {f g h : Nat → Int} : (o.map f).zip ((o.map g).zip (o.map h)) = o.map fun i => (f i, g i, h i) := by
  induction o with
  | nil => rfl
  | cons a o ih => rw [List.map_cons, List.map_cons, List.map_cons, List.zip_cons_cons, List.zip_cons_cons, ih, List.map_cons]
theorem getD_map {α β : Type} {f : α → β} {l : List α} {i : Nat} {d : α} {e : β} (h : i < l.length) : (l.map f).getD i e = f (l.getD i d) := by
  rw [List.getD_eq_getElem?_getD, List.getD_eq_getElem?_getD, List.getElem?_map, List.getElem?_eq_getElem h]
  rfl
/-- the number in row i, column j -/
def cellI (g : Grid) (i j : Nat) : Int := (g.getD i []).getD j 0
theorem rows_eq {g : Grid} {m n : Nat} {most : Int} (G : Gridish g m n most) : g.map List.sum = (List.range m).map fun i => ((List.range n).map fun j => cellI g i j).sum := by
  have gl := G.rows
  conv => lhs; rw [← range_getD' (d := []) gl, List.map_map]
  refine List.map_congr_left fun i hi => ?_
  show (g.getD i []).sum = _
  have := G.cols _ (row_mem G (List.mem_range.mp hi))
  conv => lhs; rw [← range_getD' (d := 0) this]
  rfl
theorem cols_eq {g : Grid} {m n : Nat} {most : Int} (G : Gridish g m n most) : colsI g n = (List.range n).map fun j => ((List.range m).map fun i => cellI g i j).sum := by
  unfold colsI
  refine List.map_congr_left fun j hj => ?_
  conv => lhs; rw [← range_getD' (d := []) G.rows, List.map_map]
  rfl
theorem re_gridish {g : Grid} {m n : Nat} {most : Int} (G : Gridish g m n most) {o1 o2 : List Nat} (p1 : o1.Perm (List.range m)) (p2 : o2.Perm (List.range n)) : Gridish (reG g o1 o2) m n most := by
  have h1 : ∀ i ∈ o1, i < m := fun i hi => List.mem_range.mp (p1.mem_iff.mp hi)
  have h2 : ∀ i ∈ o2, i < n := fun i hi => List.mem_range.mp (p2.mem_iff.mp hi)
  have cell : ∀ r ∈ reG g o1 o2, ∀ x ∈ r, 0 ≤ x ∧ x ≤ most := fun r hr x hx => by
    obtain ⟨i, hi, rfl⟩ := List.mem_map.mp hr
    obtain ⟨j, hj, rfl⟩ := List.mem_map.mp hx
    exact getD_bd G (h2 j hj) (row_mem G (h1 i hi))
  refine ⟨?_, ?_, fun r hr x hx => (cell r hr x hx).1, fun r hr x hx => (cell r hr x hx).2⟩
  · unfold reG
    rw [List.length_map, p1.length_eq, List.length_range]
  · intro r hr
    obtain ⟨i, hi, rfl⟩ := List.mem_map.mp hr
    rw [List.length_map, p2.length_eq, List.length_range]
theorem re_rows {g : Grid} {m n : Nat} {most : Int} (G : Gridish g m n most) {o1 o2 : List Nat} (p1 : o1.Perm (List.range m)) (p2 : o2.Perm (List.range n)) : (reG g o1 o2).map List.sum = o1.map fun i => (g.map List.sum).getD i 0 := by
  unfold reG
  rw [List.map_map]
  refine List.map_congr_left fun i hi => ?_
  have hi' : i < m := List.mem_range.mp (p1.mem_iff.mp hi)
  show (o2.map fun j => (g.getD i []).getD j 0).sum = _
  rw [perm_sum (p2.map _), getD_map (d := []) (by rw [G.rows]; exact hi'), range_getD' (G.cols _ (row_mem G hi'))]
theorem re_cols {g : Grid} {m n : Nat} {most : Int} (G : Gridish g m n most) {o1 o2 : List Nat} (p1 : o1.Perm (List.range m)) (p2 : o2.Perm (List.range n)) : colsI (reG g o1 o2) n = o2.map fun j => (colsI g n).getD j 0 := by
  have l2 : o2.length = n := by rw [p2.length_eq, List.length_range]
  conv => rhs; rw [← range_getD' (d := 0) l2, List.map_map]
  conv => lhs; unfold colsI
  refine List.map_congr_left fun j hj => ?_
  have hj' : j < o2.length := by rw [l2]; exact List.mem_range.mp hj
  have hm : o2.getD j 0 < n := List.mem_range.mp (p2.mem_iff.mp (by rw [List.getD_eq_getElem?_getD, List.getElem?_eq_getElem hj']; exact List.getElem_mem hj'))
  show ((reG g o1 o2).map fun r => r.getD j 0).sum = (colsI g n).getD (o2.getD j 0) 0
  unfold reG
  rw [List.map_map]
  have e1 : (o1.map ((fun r => r.getD j 0) ∘ fun i => o2.map fun j => (g.getD i []).getD j 0)) = o1.map fun i => (g.getD i []).getD (o2.getD j 0) 0 := by
    refine List.map_congr_left fun i hi => ?_
    show (o2.map fun j => (g.getD i []).getD j 0).getD j 0 = _
    rw [getD_map (d := 0) hj']
  rw [e1, perm_sum (p1.map _)]
  unfold colsI
  rw [getD_map (d := 0) (by rw [List.length_range]; exact hm)]
  have : (List.range n).getD (o2.getD j 0) 0 = o2.getD j 0 := by
    rw [List.getD_eq_getElem?_getD, List.getElem?_range hm]
    rfl
  rw [this]
  conv => rhs; rw [← range_getD' (d := []) G.rows, List.map_map]
  rfl
theorem cols_len {g : Grid} {n : Nat} : (colsI g n).length = n := by unfold colsI; simp
theorem bounds_len (s : Side) : (boundsI s).length = s.length := by unfold boundsI; simp
theorem lines_re {hs gs hs' gs' : Side} {t : Option Int} {g1 g2 : Grid} {k1 k2 : Int} (G1 : Gridish g1 hs.length gs.length k1) (G2 : Gridish g2 hs.length gs.length k2) {o1 o2 : List Nat} (p1 : o1.Perm (List.range hs.length)) (p2 : o2.Perm (List.range gs.length))
    (b1 : boundsI hs' = o1.map fun i => (boundsI hs).getD i 0) (b2 : boundsI gs' = o2.map fun i => (boundsI gs).getD i 0) : ∀ l, l ∈ linesT hs gs t g1 g2 ↔ l ∈ linesT hs' gs' t (reG g1 o1 o2) (reG g2 o1 o2) := by
  have lh : hs'.length = hs.length := by rw [← bounds_len hs', b1, List.length_map, p1.length_eq, List.length_range]
  have lg : gs'.length = gs.length := by rw [← bounds_len gs', b2, List.length_map, p2.length_eq, List.length_range]
  have R1 := re_gridish G1 p1 p2
  have R2 := re_gridish G2 p1 p2
  rw [← lh, ← lg] at R1 R2
  have r1 := G1.rows
  have r2 := G2.rows
  have tot : ∀ {g : Grid} {k : Int}, Gridish g hs.length gs.length k → ((reG g o1 o2).map List.sum).sum = (g.map List.sum).sum := fun {g k} G => by
    rw [re_rows G p1 p2, perm_sum (p1.map _), range_getD' (by rw [List.length_map]; exact G.rows)]
  have tb : tabT t (reG g1 o1 o2) (reG g2 o1 o2) = tabT t g1 g2 := by
    cases t with
    | none => rfl
    | some k => unfold tabT; simp only [tot G1, tot G2]
  intro l
  rw [linesT_eq G1 G2, linesT_eq R1 R2, lg, tb, re_rows G1 p1 p2, re_rows G2 p1 p2, re_cols G1 p1 p2, re_cols G2 p1 p2, b1, b2, zip3_map, zip3_map,
    zip3_range (by rw [List.length_map]; exact r1) (by rw [List.length_map]; exact r2) (bounds_len hs), zip3_range cols_len cols_len (bounds_len gs)]
  simp only [List.mem_append, (p1.map _).mem_iff, (p2.map _).mem_iff]
theorem sum_add {f g : Nat → Int} : ∀ l : List Nat, (l.map fun i => f i + g i).sum = (l.map f).sum + (l.map g).sum
  | [] => rfl
  | a :: l => by
    rw [List.map_cons, List.map_cons, List.map_cons, List.sum_cons, List.sum_cons, List.sum_cons, sum_add l]
    omega
theorem sum_zero : ∀ l : List Nat, (l.map fun _ => (0 : Int)).sum = 0
  | [] => rfl
  | a :: l => by rw [List.map_cons, List.sum_cons, sum_zero l]; rfl
theorem sum_swap {f : Nat → Nat → Int} (m : List Nat) : ∀ n : List Nat, (n.map fun i => (m.map fun j => f i j).sum).sum = (m.map fun j => (n.map fun i => f i j).sum).sum
  | [] => by simp [sum_zero]
  | a :: n => by
    rw [List.map_cons, List.sum_cons, sum_swap m n, ← sum_add]
    rfl
theorem turn_gridish {g : Grid} {m n : Nat} {most : Int} (G : Gridish g m n most) : Gridish (turnG g n) n m most := by
  have cell : ∀ r ∈ turnG g n, ∀ x ∈ r, 0 ≤ x ∧ x ≤ most := fun r hr x hx => by
    obtain ⟨j, hj, rfl⟩ := List.mem_map.mp hr
    obtain ⟨q, hq, rfl⟩ := List.mem_map.mp hx
    exact getD_bd G (List.mem_range.mp hj) hq
  refine ⟨?_, ?_, fun r hr x hx => (cell r hr x hx).1, fun r hr x hx => (cell r hr x hx).2⟩
  · unfold turnG; rw [List.length_map, List.length_range]
  · intro r hr
    obtain ⟨j, hj, rfl⟩ := List.mem_map.mp hr
    rw [List.length_map, G.rows]
theorem turn_rows {g : Grid} {n : Nat} : (turnG g n).map List.sum = colsI g n := by
  unfold turnG colsI
  rw [List.map_map]
  rfl
theorem turn_cell {g : Grid} {m n : Nat} {most : Int} (G : Gridish g m n most) {i j : Nat} (hi : i < m) (hj : j < n) : cellI (turnG g n) j i = cellI g i j := by
  unfold cellI turnG
  rw [getD_map (d := 0) (by rw [List.length_range]; exact hj)]
  have : (List.range n).getD j 0 = j := by rw [List.getD_eq_getElem?_getD, List.getElem?_range hj]; rfl
  rw [this, getD_map (d := []) (by rw [G.rows]; exact hi)]
theorem turn_cols {g : Grid} {m n : Nat} {most : Int} (G : Gridish g m n most) : colsI (turnG g n) m = g.map List.sum := by
  rw [cols_eq (turn_gridish G), rows_eq G]
  refine List.map_congr_left fun i hi => ?_
  congr 1
  refine List.map_congr_left fun j hj => ?_
  exact turn_cell G (List.mem_range.mp hi) (List.mem_range.mp hj)
theorem all_cols {g : Grid} {m n : Nat} {most : Int} (G : Gridish g m n most) : (colsI g n).sum = (g.map List.sum).sum := by
  rw [cols_eq G, rows_eq G, sum_swap]
theorem lines_turn {hs gs : Side} {t : Option Int} {g1 g2 : Grid} {k1 k2 : Int} (G1 : Gridish g1 hs.length gs.length k1) (G2 : Gridish g2 hs.length gs.length k2) : ∀ l, l ∈ linesT hs gs t g1 g2 ↔ l ∈ linesT gs hs t (turnG g1 gs.length) (turnG g2 gs.length) := by
  have tb : tabT t (turnG g1 gs.length) (turnG g2 gs.length) = tabT t g1 g2 := by
    cases t with
    | none => rfl
    | some k => unfold tabT; simp only [turn_rows, all_cols G1, all_cols G2]
  intro l
  rw [linesT_eq G1 G2, linesT_eq (turn_gridish G1) (turn_gridish G2), tb, turn_rows, turn_rows, turn_cols G1, turn_cols G2]
  simp only [List.mem_append]
  exact ⟨fun h => by rcases h with (h | h) | h <;> simp [h], fun h => by rcases h with (h | h) | h <;> simp [h]⟩
/-! ### tables added -/
theorem add_gridish {g h : Grid} {m n : Nat} {a b k : Int} (G : Gridish g m n a) (H : Gridish h m n b) (hk : 0 ≤ k) : Gridish (addG g h k) m n (a + k * b) := by
  have e : addG g h k = (List.range m).map fun i => (List.range n).map fun j => cellI g i j + k * cellI h i j := by
    unfold addG
    rw [zw_range _ [] [] _ _ (by rw [G.rows, H.rows]), G.rows]
    refine List.map_congr_left fun i hi => ?_
    have c1 := G.cols _ (row_mem G (List.mem_range.mp hi))
    have c2 := H.cols _ (row_mem H (List.mem_range.mp hi))
    rw [zw_range _ 0 0 _ _ (by rw [c1, c2]), c1]
    rfl
  have cell : ∀ r ∈ addG g h k, ∀ x ∈ r, 0 ≤ x ∧ x ≤ a + k * b := fun r hr x hx => by
    rw [e] at hr
    obtain ⟨i, hi, rfl⟩ := List.mem_map.mp hr
    obtain ⟨j, hj, rfl⟩ := List.mem_map.mp hx
    have b1 := getD_bd G (List.mem_range.mp hj) (row_mem G (List.mem_range.mp hi))
    have b2 := getD_bd H (List.mem_range.mp hj) (row_mem H (List.mem_range.mp hi))
    have q1 := Int.mul_nonneg hk b2.1
    have q2 := Int.mul_le_mul_of_nonneg_left b2.2 hk
    unfold cellI
    omega
  refine ⟨?_, ?_, fun r hr x hx => (cell r hr x hx).1, fun r hr x hx => (cell r hr x hx).2⟩
  · rw [e, List.length_map, List.length_range]
  · intro r hr
    rw [e] at hr
    obtain ⟨i, hi, rfl⟩ := List.mem_map.mp hr
    rw [List.length_map, List.length_range]
theorem sum_zw {k : Int} : ∀ {r q : List Int}, r.length = q.length → (List.zipWith (fun a b => a + k * b) r q).sum = r.sum + k * q.sum
  | [], [], _ => by simp
  | a :: r, b :: q, h => by
    rw [List.zipWith_cons_cons, List.sum_cons, List.sum_cons, List.sum_cons, sum_zw (by simpa using h), Int.mul_add]
    omega
  | [], _ :: _, h => by simp at h
  | _ :: _, [], h => by simp at h
theorem add_rows {n : Nat} {k : Int} : ∀ {g h : Grid}, (∀ r ∈ g, r.length = n) → (∀ r ∈ h, r.length = n) → (addG g h k).map List.sum = List.zipWith (fun a b => a + k * b) (g.map List.sum) (h.map List.sum)
  | [], _, _, _ => rfl
  | _ :: _, [], _, _ => rfl
  | r :: g, q :: h, hg, hh => by
    unfold addG
    rw [List.zipWith_cons_cons, List.map_cons, List.map_cons, List.map_cons, List.zipWith_cons_cons, sum_zw (by rw [hg r (List.mem_cons_self ..), hh q (List.mem_cons_self ..)])]
    congr 1
    exact add_rows (fun r hr => hg r (List.mem_cons_of_mem _ hr)) fun r hr => hh r (List.mem_cons_of_mem _ hr)
theorem add_col {n j : Nat} {k : Int} (hj : j < n) : ∀ {g h : Grid}, g.length = h.length → (∀ r ∈ g, r.length = n) → (∀ r ∈ h, r.length = n) → ((addG g h k).map fun r => r.getD j 0).sum = (g.map fun r => r.getD j 0).sum + k * (h.map fun r => r.getD j 0).sum
  | [], [], _, _, _ => by simp [addG]
  | r :: g, q :: h, e, hg, hh => by
    have lr : j < r.length := by rw [hg r (List.mem_cons_self ..)]; exact hj
    have lq : j < q.length := by rw [hh q (List.mem_cons_self ..)]; exact hj
    have ih := add_col (k := k) hj (g := g) (h := h) (by simpa using e) (fun r hr => hg r (List.mem_cons_of_mem _ hr)) fun r hr => hh r (List.mem_cons_of_mem _ hr)
    have c : (List.zipWith (fun a b => a + k * b) r q).getD j 0 = r.getD j 0 + k * q.getD j 0 := by
      simp only [List.getD_eq_getElem?_getD, List.getElem?_zipWith, List.getElem?_eq_getElem lr, List.getElem?_eq_getElem lq]
      rfl
    unfold addG at ih ⊢
    rw [List.zipWith_cons_cons, List.map_cons, List.map_cons, List.map_cons, List.sum_cons, List.sum_cons, List.sum_cons, ih, c, Int.mul_add]
    omega
  | [], _ :: _, h, _, _ => by simp at h
  | _ :: _, [], h, _, _ => by simp at h
theorem add_cols {g h : Grid} {m n : Nat} {a b k : Int} (G : Gridish g m n a) (H : Gridish h m n b) : colsI (addG g h k) n = List.zipWith (fun a b => a + k * b) (colsI g n) (colsI h n) := by
  rw [zw_range _ 0 0 _ _ (by rw [cols_len, cols_len]), cols_len]
  conv => lhs; unfold colsI
  refine List.map_congr_left fun j hj => ?_
  have hj' := List.mem_range.mp hj
  rw [add_col hj' (by rw [G.rows, H.rows]) G.cols H.cols]
  have e : ∀ g : Grid, (colsI g n).getD j 0 = (g.map fun r => r.getD j 0).sum := fun g => by
    unfold colsI
    rw [getD_map (d := 0) (by rw [List.length_range]; exact hj')]
    have : (List.range n).getD j 0 = j := by rw [List.getD_eq_getElem?_getD, List.getElem?_range hj']; rfl
    rw [this]
  rw [e, e]
theorem zip_later : ∀ {A B C : List Int}, (List.zipWith (fun a b => a + 1 * b) A B).zip (B.zip C) = (A.zip (B.zip C)).map later
  | [], _, _ => by simp
  | _ :: _, [], _ => by simp
  | _ :: _, _ :: _, [] => by simp
  | a :: A, b :: B, c :: C => by
    rw [List.zipWith_cons_cons, List.zip_cons_cons, List.zip_cons_cons, List.zip_cons_cons, List.map_cons, zip_later]
    unfold later
    rw [Int.one_mul]
theorem lines_later {hs gs : Side} {t : Option Int} {g1 g2 : Grid} {k1 k2 : Int} (G1 : Gridish g1 hs.length gs.length k1) (G2 : Gridish g2 hs.length gs.length k2) : linesT hs gs t (addG g1 g2 1) g2 = (linesT hs gs t g1 g2).map later := by
  rw [linesT_eq G1 G2, linesT_eq (add_gridish G1 G2 (by decide)) G2, List.map_append, List.map_append, add_rows G1.cols G2.cols, add_cols G1 G2, zip_later, zip_later]
  congr 1
  cases t with
  | none => rfl
  | some k =>
    unfold tabT later
    simp only [List.map_cons, List.map_nil]
    rw [add_rows G1.cols G2.cols, sum_zw (by rw [List.length_map, List.length_map, G1.rows, G2.rows]), Int.one_mul]
end K14
/-! MR: the load of a table. -/
namespace K14
open PySem PySem.Spec PyProof.Rows L2 MG QD MU GM
theorem zip2 {α β : Type} {f : α → D} {g : β → D} {x y : Bool} {A : List α} {B : List β} (h : A.length = B.length) : zipD [(x, A.map f), (y, B.map g)] = (A.zip B).map fun z => .tuple [f z.1, g z.2] := by
  show (List.range (A.map f).length).map (fun i => PyData.tuple ([(x, A.map f), (y, B.map g)].map fun p => p.2.getD i .none)) = _
  apply List.ext_getElem?
  intro i
  by_cases c : i < A.length
  · have c' : i < B.length := by omega
    rw [List.getElem?_map, List.getElem?_range (by rw [List.length_map]; exact c), List.getElem?_map, List.getElem?_eq_getElem (by rw [List.length_zip]; omega), List.getElem_zip]
    show some (PyData.tuple [(A.map f).getD i .none, (B.map g).getD i .none]) = _
    simp [List.getD_eq_getElem?_getD, c, c']
  · rw [List.getElem?_eq_none (by simp; omega), List.getElem?_eq_none (by simp; omega)]
theorem ok2 {α β : Type} {f : α → D} {g : β → D} {x y : Bool} {A : List α} {B : List β} (h : A.length = B.length) : okZ [(x, A.map f), (y, B.map g)] = true := by
  show (decide ([(y, B.map g)].length ≤ 3) && [(y, B.map g)].all fun p => decide (p.2.length = (A.map f).length)) = true
  simp [h]
theorem zip_cols {g : Grid} {m n : Nat} {most : Int} (G : Gridish g m n most) (m1 : 1 ≤ m) (m4 : m ≤ 4) : ∃ ks, (kndD (gridD g)).bind (fun k => kndDs k.2) = some ks ∧ okZ ks = true ∧ zipD ks = (List.range n).map fun j => .tuple (intsD (g.map fun r => r.getD j 0)) := by
  have gl := G.rows
  have kd : ∀ g : Grid, kndDs (g.map rowD) = some (g.map fun r => (true, intsD r)) := fun g => by
    induction g with
    | nil => rfl
    | cons r g ih => show (match kndD (rowD r), kndDs (g.map rowD) with | some k, some ks => some (k :: ks) | _, _ => none) = _; rw [ih]; rfl
  refine ⟨g.map fun r => (true, intsD r), by show kndDs (g.map rowD) = _; rw [kd], ?_⟩
  have gc := G.cols
  cases g with
  | nil => simp at gl; omega
  | cons r0 g =>
    have r0n : r0.length = n := gc r0 (List.mem_cons_self ..)
    constructor
    · show (decide ((g.map fun r => (true, intsD r)).length ≤ 3) && (g.map fun r => (true, intsD r)).all fun p => decide (p.2.length = (intsD r0).length)) = true
      rw [Bool.and_eq_true_iff]
      refine ⟨decide_eq_true (by rw [List.length_map]; rw [List.length_cons] at gl; omega), List.all_eq_true.mpr fun p hp => ?_⟩
      obtain ⟨r, hr, rfl⟩ := List.mem_map.mp hp
      exact decide_eq_true (by show (intsD r).length = _; rw [List.length_map, List.length_map, gc r (List.mem_cons_of_mem _ hr), r0n])
    · show (List.range (intsD r0).length).map (fun i => PyData.tuple (((true, intsD r0) :: g.map fun r => (true, intsD r)).map fun p => p.2.getD i .none)) = _
      rw [List.length_map, r0n]
      apply List.map_congr_left
      intro j hj
      have hj' := List.mem_range.mp hj
      show PyData.tuple (((r0 :: g).map fun r => (true, intsD r)).map fun p => p.2.getD j .none) = _
      rw [List.map_map, intsD, List.map_map]
      congr 1
      apply List.map_congr_left
      intro r hr
      have hl : j < r.length := by rw [gc r hr]; exact hj'
      show (intsD r).getD j .none = .int (r.getD j 0)
      rw [List.getD_eq_getElem?_getD, List.getElem?_map, List.getD_eq_getElem?_getD, List.getElem?_eq_getElem hl]
      rfl
def ceilI (n b : Int) : Int := -(-n / b)
def hostR (hs : Side) (R : List Int) : List D := (hs.zip R).map fun z => .tuple [.tuple [.str "host", .str z.1.1], .int (ceilI z.2 z.1.2)]
def guestR (gs : Side) (R : List Int) : List D := (gs.zip R).map fun z => .tuple [.tuple [.str "guest", .str z.1.1], .int (ceilI z.2 z.1.2)]
def tabR (t : Option Int) (s : Int) : List D := match t with
  | some k => [.tuple [.tuple [.str "tables"], .int (ceilI s k)]]
  | none => []
theorem reasons {hs gs : Side} {t : Option Int} {x : Str} (f : Fairish hs gs t) {g : Grid} {most : Int} (G : Gridish g hs.length gs.length most) {st : Sto} :
    F_reasons [.fz (fairD hs gs t x), .fz (gridD g)] st = .ok (.own (hostR hs (g.map List.sum) ++ guestR gs (colsI g gs.length) ++ tabR t (colsI g gs.length).sum)) st := by
  apply wR.eq
  have h4 := f.h4
  have g4 := f.g4
  have gr := G.rows
  obtain ⟨ks, k1, k2, k3⟩ := zip_cols G f.h1 f.h4
  have cl : (colsI g gs.length).length = gs.length := by unfold colsI; simp
  have e1 : ∀ st, wR noX (c_reasons_1 [some (.fz (fairD hs gs t x)), some (.fz (gridD g)), none, none, none, none, none, none, none] st) fun w s => w = .own (intsD (colsI g gs.length)) ∧ s = st := fun st => by
    have kk : (kndW (.fz (gridD g))).bind (fun k => kndDs k.2) = some ks := k1
    unfold c_reasons_1
    simp only [wR_dLc, iZipS_eq, wR_bind, dVar_eq, List.getElem?_cons_succ, List.getElem?_cons_zero, wR_ok, kk, k2, k3, if_true]
    refine wR_lcM (fun j : Nat => .tuple (intsD (g.map fun r => r.getD j 0))) (List.range gs.length) (fun j => .int (g.map fun r => r.getD j 0).sum) rfl (by rw [List.length_range]; omega) (fun j hj => ?_) ?_
    · have := fun s => sumT (ns := g.map fun r => r.getD j 0) (st := s)
      generalize intsD (g.map fun r => r.getD j 0) = z at *
      simp [wipeE, this]
    · simp [colsI]
  have p1 : ∀ en s, en[0]? = some (some (.fz (fairD hs gs t x))) → dProp 0 ns_Fair F_Fair_hosts (dVar 0) en s = .ok (.fz (sideD hs)) s := fun en s h => by
    rw [dProp_eq, dVar_eq, h]
    simp only [Rt.bind_ok, fair_ob, hosts]
  have p2 : ∀ en s, en[0]? = some (some (.fz (fairD hs gs t x))) → dProp 0 ns_Fair F_Fair_guests (dVar 0) en s = .ok (.fz (sideD gs)) s := fun en s h => by
    rw [dProp_eq, dVar_eq, h]
    simp only [Rt.bind_ok, fair_ob, guests]
  have p3 : ∀ en s, en[0]? = some (some (.fz (fairD hs gs t x))) → dProp 0 ns_Fair F_Fair_tables (dVar 0) en s = .ok (.fz (deskD t)) s := fun en s h => by
    rw [dProp_eq, dVar_eq, h]
    simp only [Rt.bind_ok, fair_ob, tables]
  have e2 : ∀ (v2 v3 : Option QD.W) st, wR noX (c_reasons_2 [some (.fz (fairD hs gs t x)), some (.fz (gridD g)), v2, v3, none, none, none, none, none] st) fun w s => w = .own (hostR hs (g.map List.sum)) ∧ s = st := fun v2 v3 st => by
    have kk : kndWs [.fz (sideD hs), .fz (gridD g)] = some [(true, hs.map memD), (true, g.map rowD)] := rfl
    unfold c_reasons_2
    simp only [wR_dLc, iZip_eq, wR_bind, wR_aCons, aNil_eq, p1 _ _ (List.getElem?_cons_zero), dVar_eq, List.getElem?_cons_succ, List.getElem?_cons_zero, wR_ok, kk, ok2 (show hs.length = g.length by omega), zip2 (show hs.length = g.length by omega), if_true]
    refine wR_lcM (fun z : (Str × Int) × List Int => .tuple [memD z.1, rowD z.2]) (hs.zip g) (fun z => .tuple [.tuple [.str "host", .str z.1.1], .int (ceilI z.2.sum z.1.2)]) rfl (by rw [List.length_zip]; omega) (fun z hz => ?_) ?_
    · have hb := f.bd z.1 (List.mem_append_left _ (List.of_mem_zip (a := z.1) (b := z.2) hz).1)
      have su := fun s => sumT (ns := z.2) (st := s)
      have ce := fun n s => ceiling (n := n) (b := z.1.2) (by omega) (by omega) (st := s)
      have rd : rowD z.2 = .tuple (intsD z.2) := rfl
      rw [rd]
      generalize intsD z.2 = iz at *
      simp [wipeE, memD, su, ce, sz_le, ceilI]
    · refine ⟨?_, rfl⟩
      unfold hostR
      rw [show hs.zip (g.map List.sum) = (hs.zip g).map fun z => (z.1, z.2.sum) by rw [List.zip_map_right]; rfl, List.map_map]
      rfl
  have e3 : ∀ (v3 : Option QD.W) st, wR noX (c_reasons_3 [some (.fz (fairD hs gs t x)), some (.fz (gridD g)), some (.fz (.list (intsD (colsI g gs.length)))), v3, none, none, none, none, none] st) fun w s => w = .own (guestR gs (colsI g gs.length)) ∧ s = st := fun v3 st => by
    have kk : kndWs [.fz (sideD gs), .fz (.list (intsD (colsI g gs.length)))] = some [(true, gs.map memD), (false, (colsI g gs.length).map PyData.int)] := rfl
    unfold c_reasons_3
    simp only [wR_dLc, iZip_eq, wR_bind, wR_aCons, aNil_eq, p2 _ _ (List.getElem?_cons_zero), dVar_eq, List.getElem?_cons_succ, List.getElem?_cons_zero, wR_ok, kk, ok2 cl.symm, zip2 cl.symm, if_true]
    refine wR_lcM (fun z : (Str × Int) × Int => .tuple [memD z.1, .int z.2]) (gs.zip (colsI g gs.length)) (fun z => .tuple [.tuple [.str "guest", .str z.1.1], .int (ceilI z.2 z.1.2)]) rfl (by rw [List.length_zip]; omega) (fun z hz => ?_) ?_
    · have hb := f.bd z.1 (List.mem_append_right _ (List.of_mem_zip (a := z.1) (b := z.2) hz).1)
      have ce := fun n s => ceiling (n := n) (b := z.1.2) (by omega) (by omega) (st := s)
      simp [wipeE, memD, ce, sz_le, ceilI]
    · exact ⟨rfl, rfl⟩
  have lH : (hostR hs (g.map List.sum)).length ≤ 10 := by unfold hostR; rw [List.length_map, List.length_zip]; omega
  have lG : (guestR gs (colsI g gs.length)).length ≤ 10 := by unfold guestR; rw [List.length_map, List.length_zip]; omega
  have sc : ∀ s, fSum (.fz (.list (intsD (colsI g gs.length)))) s = .ok (.fz (.int (colsI g gs.length).sum)) s := fun s => sumL
  obtain ⟨S, hS⟩ : ∃ S, S = (colsI g gs.length).sum := ⟨_, rfl⟩
  rw [← hS] at sc ⊢
  generalize hostR hs (g.map List.sum) = H at *
  generalize guestR gs (colsI g gs.length) = G' at *
  generalize intsD (colsI g gs.length) = C at *
  have q0 : ∀ l, seqW (st ++ [.lst l]) (.loc st.length) = some l := fun l => seqW_loc (get_last rfl)
  have ext : fChg (gExt (st ++ [.lst H])) (.loc st.length) [.own G'] (st ++ [.lst H]) = .ok (.fz .none) (st ++ [.lst (H ++ G')]) := by
    have l : H.length + G'.length ≤ sizeLine := sz_le (by omega)
    unfold fChg
    simp only [get_last (s := st) rfl, gExt, seqW_own, if_pos l, set_last (s := st) rfl]
  have ap : ∀ d, fChg gApp (.loc st.length) [.fz d] (st ++ [.lst (H ++ G')]) = .ok (.fz .none) (st ++ [.lst (H ++ G' ++ [d])]) := fun d => by
    have l : (H ++ G').length < sizeLine := Nat.lt_of_lt_of_le (show (H ++ G').length < 100 by rw [List.length_append]; omega) (sz_le (by decide))
    unfold fChg
    simp only [get_last (s := st) rfl, gApp, datW_fz, if_pos l, set_last (s := st) rfl]
  have ex : ∀ l, exitW st.length (.loc st.length) (st ++ [.lst l]) = some (.own l, st) := fun l => by
    rw [exitW_loc (Nat.le_refl _) (get_last rfl), List.take_left']
    rfl
  unfold F_reasons d_reasons
  simp
  refine (e1 st).use ?_
  rintro _ s ⟨rfl, rfl⟩
  simp
  refine (e2 _ _ s).use ?_
  rintro _ s ⟨rfl, rfl⟩
  simp [q0]
  refine (e3 _ _).use ?_
  rintro _ _ ⟨rfl, rfl⟩
  cases t with
  | none => simp [-dProp_eq, ext, p3, deskD, ex, tabR]
  | some k =>
    have tb := f.tb k rfl
    have ce := fun n s => ceiling (n := n) (b := k) (by omega) (by omega) (st := s)
    simp [-dProp_eq, -List.append_assoc, ext, p3, deskD, ex, tabR, q0, sc, ce, sz_le, ap, ceilI]
end K14
/-! MS: the load of growing tables. -/
namespace K14
open PySem PySem.Spec PyProof.Rows L2 MG QD MU GM
def encN (z : D × Int) : D := .tuple [z.1, .int z.2]
def tabN (t : Option Int) (s : Int) : List (D × Int) := match t with
  | some k => [(PyData.tuple [.str "tables"], ceilI s k)]
  | none => []
def needsT (hs gs : Side) (t : Option Int) (g : Grid) : List (D × Int) :=
  ((hs.zip (g.map List.sum)).map fun z => (PyData.tuple [.str "host", .str z.1.1], ceilI z.2 z.1.2)) ++ ((gs.zip (colsI g gs.length)).map fun z => (PyData.tuple [.str "guest", .str z.1.1], ceilI z.2 z.1.2)) ++ tabN t (colsI g gs.length).sum
theorem needs_eq {hs gs : Side} {t : Option Int} {g : Grid} : hostR hs (g.map List.sum) ++ guestR gs (colsI g gs.length) ++ tabR t (colsI g gs.length).sum = (needsT hs gs t g).map encN := by
  unfold needsT hostR guestR
  rw [List.map_append, List.map_append, List.map_map, List.map_map]
  congr 1
  cases t <;> rfl
theorem least_rounds {hs gs : Side} {t : Option Int} {x : Str} (f : Fairish hs gs t) {g : Grid} {most M : Int} (G : Gridish g hs.length gs.length most) (hM : maxL ((needsT hs gs t g).map (·.2)) = some M) {st : Sto} :
    F_least_rounds [.fz (fairD hs gs t x), .fz (gridD g)] st = .ok (.fz (.int M)) st := by
  apply wR.eq
  have rs := fun s => reasons f G (x := x) (st := s)
  rw [needs_eq] at rs
  have h4 := f.h4
  have g4 := f.g4
  have le : (needsT hs gs t g).length ≤ 100 := by
    unfold needsT
    rw [List.length_append, List.length_append, List.length_map, List.length_map, List.length_zip, List.length_zip]
    have : (tabN t (colsI g gs.length).sum).length ≤ 1 := by cases t <;> simp [tabN]
    omega
  generalize needsT hs gs t g = ne at *
  have em : ∀ s, fMax (.own (intsD (ne.map (·.2)))) s = .ok (.fz (.int M)) s := fun s => by
    unfold fMax fInts
    simp only [seqR_own, Option.bind_some, intL_ints, hM, Option.map_some]
  unfold F_least_rounds d_least_rounds
  simp [c_least_rounds_1, rs]
  refine wR_lcM encN ne (fun z => .int z.2) rfl (by omega) (fun z hz => ?_) ?_
  · simp [wipeE, encN]
  · rw [show (ne.map fun z => PyData.int z.2) = intsD (ne.map (·.2)) by simp]
    generalize intsD (ne.map (·.2)) = z at *
    simp [em]
theorem side_needs {k : Int} : ∀ {hs : Side} {R1 R2 : List Int}, (hs.zip (List.zipWith (fun a b => a + k * b) R1 R2)).map (fun z => ceilI z.2 z.1.2) = (R1.zip (R2.zip (boundsI hs))).map (shareI k)
  | [], _, _ => by simp [boundsI]
  | _ :: _, [], _ => by simp
  | _ :: _, _ :: _, [] => by simp
  | z :: hs, a :: R1, b :: R2 => by
    rw [List.zipWith_cons_cons, List.zip_cons_cons, List.map_cons, side_needs (hs := hs)]
    rfl
theorem needs_add {hs gs : Side} {t : Option Int} {g1 g2 : Grid} {k1 k2 k : Int} (G1 : Gridish g1 hs.length gs.length k1) (G2 : Gridish g2 hs.length gs.length k2) : (needsT hs gs t (addG g1 g2 k)).map (·.2) = (linesT hs gs t g1 g2).map (shareI k) := by
  rw [linesT_eq G1 G2]
  unfold needsT
  rw [List.map_append, List.map_append, List.map_append, List.map_append, List.map_map, List.map_map, add_rows G1.cols G2.cols, add_cols G1 G2]
  have e1 : (hs.zip (List.zipWith (fun a b => a + k * b) (g1.map List.sum) (g2.map List.sum))).map ((fun z : D × Int => z.2) ∘ fun z => (PyData.tuple [.str "host", .str z.1.1], ceilI z.2 z.1.2)) = _ := side_needs (hs := hs) (R1 := g1.map List.sum) (R2 := g2.map List.sum)
  have e2 : (gs.zip (List.zipWith (fun a b => a + k * b) (colsI g1 gs.length) (colsI g2 gs.length))).map ((fun z : D × Int => z.2) ∘ fun z => (PyData.tuple [.str "guest", .str z.1.1], ceilI z.2 z.1.2)) = _ := side_needs (hs := gs) (R1 := colsI g1 gs.length) (R2 := colsI g2 gs.length)
  rw [e1, e2]
  congr 1
  cases t with
  | none => rfl
  | some b =>
    rw [sum_zw (by rw [cols_len, cols_len]), all_cols G1, all_cols G2]
    rfl
theorem grid_mono' {g : Grid} {m n : Nat} {a b : Int} (G : Gridish g m n a) (h : a ≤ b) : Gridish g m n b := ⟨G.rows, G.cols, G.least, fun r hr x hx => Int.le_trans (G.most r hr x hx) h⟩
theorem load {hs gs : Side} {t : Option Int} {x : Str} (f : Fairish hs gs t) {g1 g2 : Grid} {k1 k2 k : Int} (G1 : Gridish g1 hs.length gs.length k1) (G2 : Gridish g2 hs.length gs.length k2) (hk : 0 ≤ k) (hb : k1 + k * k2 ≤ 1000000000000000000000000000000) {st : Sto} :
    F_load [.fz (fairD hs gs t x), .fz (gridD (addG g1 g2 k))] st = .ok (.fz (.int (LI (linesT hs gs t g1 g2) k))) st := by
  apply wR.eq
  have A := grid_mono' (add_gridish G1 G2 hk) hb
  have tf := fun st => table_fault A (by have := f.h4; omega) (by have := f.g4; omega) (st := st)
  have lr := fun s => least_rounds f A (x := x) (M := LI (linesT hs gs t g1 g2) k) (by rw [needs_add G1 G2]; exact LI_some (linesT_ne f G1 G2).1 k) (st := s)
  have hh : ∀ s, fLen (.fz (sideD hs)) s = .ok (.fz (.int (hs.length : Nat))) s := fun s => by unfold fLen sideD; simp
  have hg : ∀ s, fLen (.fz (sideD gs)) s = .ok (.fz (.int (gs.length : Nat))) s := fun s => by unfold fLen sideD; simp
  have tr : ∀ s, truW s (.fz (.tuple [])) = some false := fun s => rfl
  have chk := fun s => check_fair (hs := hs) (gs := gs) (t := t) (x := x) (st := s)
  generalize gridD (addG g1 g2 k) = A1 at *
  unfold F_load d_load F_check_meetings d_check_meetings F_meetings_fault d_meetings_fault
  simp [chk, fair_ob, hosts, guests, hh, hg, tf, tr, lr]
end K14
/-! MN: the law's own sums. -/
namespace K14
open PySem PySem.Spec PyProof.Rows L2 MG QD MU GM
theorem rowN_at {r : List Int} {j : Nat} (h : j < r.length) {st : Sto} : fIxT (.fz (rowD r)) (.fz (.int (j : Int))) st = .ok (.fz (.int (r.getD j 0))) st := by
  unfold rowD
  rw [fIxT_eq, atI_n, List.getElem?_map, List.getElem?_eq_getElem h, List.getD_eq_getElem?_getD, List.getElem?_eq_getElem h]
  rfl
theorem sumO {ns : List Int} {st : Sto} : fSum (.own (intsD ns)) st = .ok (.fz (.int ns.sum)) st := by
  unfold fSum fInts
  simp only [seqR_own, Option.bind_some, intL_ints]
theorem in_rows {g : Grid} (h : g.length ≤ 1000) {st : Sto} : F_l_in_rows [.fz (gridD g)] st = .ok (.own (intsD (g.map List.sum))) st := by
  apply wR.eq
  have sr : ∀ s, srcT s (.fz (gridD g)) = some ⟨g.map rowD, none⟩ := fun s => rfl
  unfold F_l_in_rows d_l_in_rows
  simp [c_l_in_rows_1, sr]
  refine wR_lcM rowD g (fun r => .int r.sum) rfl (by omega) (fun r hr => ?_) ?_
  · have lo : ∀ s, fLstOf (.fz (rowD r)) s = .ok (.own (intsD r)) s := fun s => rfl
    have su := fun s => sumO (ns := r) (st := s)
    generalize intsD r = z at *
    simp [wipeE, lo, su]
  · simp
theorem in_columns {g : Grid} {m n : Nat} {most : Int} (G : Gridish g m n most) (m1 : 1 ≤ m) (m4 : m ≤ 100) (n4 : n ≤ 100) {st : Sto} : F_l_in_columns [.fz (gridD g)] st = .ok (.own (intsD (colsI g n))) st := by
  apply wR.eq
  have gl := G.rows
  obtain ⟨r0, rest, hg⟩ := List.exists_cons_of_length_pos (show 0 < g.length by omega)
  have a0 : ∀ s, fIxT (.fz (gridD g)) (.fz (.int 0)) s = .ok (.fz (rowD r0)) s := fun s => by rw [hg]; unfold gridD; simp
  have c0 : r0.length = n := G.cols r0 (by rw [hg]; exact List.mem_cons_self ..)
  have l0 : ∀ s, fLen (.fz (rowD r0)) s = .ok (.fz (.int (n : Int))) s := fun s => by unfold fLen rowD; simp [c0]
  have hr : r1S [(n : Int)] = some (rngS 0 n) := r1S_k (by omega)
  have sr : ∀ s, srcT s (.fz (gridD g)) = some ⟨g.map rowD, none⟩ := fun s => rfl
  unfold F_l_in_columns d_l_in_columns
  simp [c_l_in_columns_2, a0, l0, hr]
  refine wR_lcR n (fun j => .int (g.map fun r => r.getD j 0).sum) (by omega) (fun j hj => ?_) ?_
  · simp [wipeE, c_l_in_columns_1, sr]
    refine wR_lcM rowD g (fun r => .int (r.getD j 0)) rfl (by omega) (fun r hr => ?_) ?_
    · have := rowN_at (r := r) (j := j) (by rw [G.cols r hr]; exact hj) (st := st)
      simp [wipeE, this]
    · rw [show (g.map fun r => PyData.int (r.getD j 0)) = intsD (g.map fun r => r.getD j 0) by simp]
      simp only [aNil_eq, f1_eq, sumO, wR_ok]
      exact ⟨rfl, trivial⟩
  · simp [colsI]
def tabX (t : Option Int) (a b : Int) : List Ln := match t with
  | some k => [(a, b, k)]
  | none => []
end K14
/-! MT: growths far on. -/
namespace K14
open PySem PySem.Spec PyProof.Rows L2 MG QD MU GM
theorem ceil_up {x b : Int} (hb : 0 < b) : (x + b - 1) / b = -(-x / b) := by
  have h1 := Int.emod_add_mul_ediv (-x) b
  have h2 := Int.emod_nonneg (-x) (show b ≠ 0 by omega)
  have h3 := Int.emod_lt_of_pos (-x) hb
  have e : x + b - 1 = (b - 1 - -x % b) + -(-x / b) * b := by
    have : -(-x / b) * b = -(b * (-x / b)) := by rw [Int.neg_mul, Int.mul_comm]
    omega
  rw [e, Int.add_mul_ediv_right _ _ (by omega), Int.ediv_eq_zero_of_lt (by omega) (by omega)]
  omega
theorem lay_ints : ∀ r : List Int, PyData.canLayAll0 (intsD r) = true
  | [] => rfl
  | a :: r => by
    show (PyData.canLay0 (.int a) && PyData.canLayAll0 (intsD r)) = true
    rw [lay_ints r]
    rfl
theorem LI_sm {ls : List Ln} {K1 K2 : Int} (h : ∀ l ∈ ls, 0 ≤ l.1 ∧ l.1 ≤ K1 ∧ 0 ≤ l.2.1 ∧ l.2.1 ≤ K2 ∧ 1 ≤ l.2.2) (hn : ls ≠ []) {t : Int} (t0 : 0 ≤ t) : 0 ≤ LI ls t ∧ LI ls t ≤ K1 + t * K2 := by
  obtain ⟨l, hl, e⟩ := LI_at hn t
  obtain ⟨s0, s1, g0, g1, b0⟩ := h l hl
  rw [e]
  have m0 := Int.mul_nonneg t0 g0
  have m1 := Int.mul_le_mul_of_nonneg_left g1 t0
  have h1 : -(-(l.1 + t * l.2.1) / l.2.2) ≤ l.1 + t * l.2.1 := ceil_le (by omega) (Int.le_refl _) (by omega)
  have h2 : -(l.1 + t * l.2.1) / l.2.2 ≤ 0 := by
    have := Int.ediv_le_ediv (show 0 < l.2.2 by omega) (show -(l.1 + t * l.2.1) ≤ 0 by omega)
    rw [Int.zero_ediv] at this
    exact this
  unfold shareI
  omega
theorem lines_sm {hs gs : Side} {t : Option Int} (f : Fairish hs gs t) {g1 g2 : Grid} (G1 : Gridish g1 hs.length gs.length 9) (G2 : Gridish g2 hs.length gs.length 3) : ∀ l ∈ linesT hs gs t g1 g2, 0 ≤ l.1 ∧ l.1 ≤ 144 ∧ 0 ≤ l.2.1 ∧ l.2.1 ≤ 48 ∧ 1 ≤ l.2.2 := fun l hl => by
  cases linesT_is f (by decide) (by decide) G1 G2 l hl with
  | side q1 q2 q3 q4 q5 q6 => exact ⟨q1, Int.le_trans q2 (by decide), q3, Int.le_trans q4 (by decide), q5⟩
  | all q1 q2 q3 q4 q5 q6 => exact ⟨q1, Int.le_trans q2 (by decide), q3, Int.le_trans q4 (by decide), q5⟩
def toldD (e : List Int) (p r : Nat) : D := .tuple [rowD e, .int p, .int r]
/-- the load at any step, by what is told -/
theorem far {ls : List Ln} {p r n : Nat} (hA : ∀ t : Int, n ≤ t → LI ls (t + p) = LI ls t + r) (q : Nat) : ∀ t : Int, n ≤ t → LI ls (t + q * p) = LI ls t + q * r := by
  induction q with
  | zero => intro t _; simp
  | succ q ih =>
    intro t ht
    have h1 := ih t ht
    have h2 := hA (t + q * p) (by have := Int.mul_nonneg (Int.natCast_nonneg q) (Int.natCast_nonneg p); omega)
    rw [show ((q + 1 : Nat) : Int) = q + 1 by omega, Int.add_mul, Int.add_mul, Int.one_mul, Int.one_mul, ← Int.add_assoc, h2, h1]
    omega
def BIG : Int := 300000000000000000000000000000
end K14
/-! MU13: numbers, tables drawn; tables parted. -/
namespace K14
open PySem PySem.Spec PyProof.Rows L2 MG QD MU GM
theorem pour0 {st : Sto} {n N : Nat} {m : Int} (j : JAt st n N) (hN : N < 1000000) (m1 : 1 ≤ m) (m2 : m < 10000000000000000) :
    wR noX (F_l_pour [.loc n, .fz (.int m)] st) fun w s => (∃ r : Int, w = .fz (.int r) ∧ 0 ≤ r ∧ r < m) ∧ JR n st s (N + 1) := by
  have h := pourW j hN m1 m2 []
  rw [List.append_nil] at h
  refine h.use ?_
  rintro _ _ ⟨s1, rfl, q, j1⟩
  rw [List.append_nil]
  exact ⟨q, j1⟩
abbrev TOPN : Int := 1000000000000000000000000000000
theorem num_pick {i a b : Int} (h0 : 0 ≤ i) (h : i < 6) (a0 : 0 ≤ a) (a1 : a ≤ TOPN) (b0 : 0 ≤ b) (b1 : b ≤ TOPN) :
    ∃ y : Int, atI [PyData.int 0, PyData.int 1000000000000000000000000000000, PyData.int 999999999999999999999999999999, PyData.int a, PyData.int a, PyData.int b] i = some (.int y) ∧ 0 ≤ y ∧ y ≤ TOPN := by
  have : i = 0 ∨ i = 1 ∨ i = 2 ∨ i = 3 ∨ i = 4 ∨ i = 5 := by omega
  rcases this with rfl | rfl | rfl | rfl | rfl | rfl
  · exact ⟨0, rfl, by decide, by decide⟩
  · exact ⟨1000000000000000000000000000000, rfl, by decide, by decide⟩
  · exact ⟨999999999999999999999999999999, rfl, by decide, by decide⟩
  · exact ⟨a, rfl, a0, a1⟩
  · exact ⟨a, rfl, a0, a1⟩
  · exact ⟨b, rfl, b0, b1⟩
theorem number {st : Sto} {n N : Nat} {way : Int} (j : JAt st n N) (hN : N + 10 ≤ 900000) (w0 : 0 ≤ way) (w2 : way ≤ 2) :
    wR noX (F_l_number [.loc n, .fz (.int way)] st) fun w s => (∃ r : Int, w = .fz (.int r) ∧ 0 ≤ r ∧ r ≤ TOPN) ∧ JR n st s (N + 3) := by
  have fin : ∀ {s : Sto} {M : Nat}, JR n st s M → M ≤ N + 3 → JR n st (s.take st.length) (N + 3) := fun jj h => by
    rw [jr_take0 jj]; exact jr_mono jj h
  have way' : way = 0 ∨ way = 1 ∨ way = 2 := by omega
  unfold F_l_number d_l_number
  rcases way' with rfl | rfl | rfl
  · simp [sz_le, atI]
    refine (pour0 (m := 4) j (by omega) (by omega) (by omega)).use ?_
    rintro _ s1 ⟨⟨a, rfl, a0, a1⟩, j1⟩
    simp
    exact ⟨⟨a0, by show a ≤ (1000000000000000000000000000000 : Int); omega⟩, fin j1 (by omega)⟩
  · simp [sz_le, atI]
    refine (pour0 (m := 30) j (by omega) (by omega) (by omega)).use ?_
    rintro _ s1 ⟨⟨a, rfl, a0, a1⟩, j1⟩
    simp
    exact ⟨⟨a0, by show a ≤ (1000000000000000000000000000000 : Int); omega⟩, fin j1 (by omega)⟩
  · have c15 : cPow 10 15 = true := by decide +kernel
    have c30 : cPow 10 30 = true := by decide +kernel
    have c9 : cPow 10 9 = true := by decide +kernel
    simp [c15, c30, c9]
    refine (pour0 (m := 1000000000000000) j (by omega) (by omega) (by omega)).use ?_
    rintro _ s1 ⟨⟨a, rfl, a0, a1⟩, j1⟩
    have cm : cMul a 1000000000000000 = true := cMul_s (Nat.le_trans (show a.natAbs ≤ 1000000000000000 by omega) (by decide +kernel)) (by decide +kernel)
    simp [cm, c15, c30, c9]
    refine (pour0 (m := 1000000000000000) j1.2 (by omega) (by omega) (by omega)).use ?_
    rintro _ s2 ⟨⟨b, rfl, b0, b1⟩, j2⟩
    have cd : ∀ y, cDiv y 1000000000 = true := fun y => decide_eq_true ⟨by omega, by decide +kernel⟩
    simp [sz_le, cd]
    refine ⟨c30, c9, ?_⟩
    refine (pour0 (m := 6) j2.2 (by omega) (by omega) (by omega)).use ?_
    rintro _ s3 ⟨⟨c, rfl, k0, k1⟩, j3⟩
    obtain ⟨y, e, y0, y1⟩ := num_pick (a := a * 1000000000000000 + b) (b := (a * 1000000000000000 + b) / 1000000000) k0 k1 (by omega) (by unfold TOPN; omega) (by omega) (by unfold TOPN; omega)
    simp [e]
    exact ⟨⟨y0, y1⟩, fin (jr_trans (jr_trans j1 j2) j3) (by omega)⟩
theorem ints_of {α : Type} {gs : List α} {ys : List Int} {P : Int → Prop} (hy : ys.length = gs.length) (h : ∀ i y, i < gs.length → ys[i]? = some y → P y) : ∀ y ∈ ys, P y := fun y hm => by
  obtain ⟨i, hi, e⟩ := List.mem_iff_getElem.mp hm
  exact h i y (by omega) (by rw [List.getElem?_eq_getElem hi, e])
theorem grid_row {hs gs : Side} {dk : D} {st : Sto} {n N : Nat} {way : Int} {v3 v4 : Option QD.W} (j : JAt st n N) (hN : N + 100 ≤ 900000) (w0 : 0 ≤ way) (w2 : way ≤ 2) (g4 : gs.length ≤ 4) :
    wR noX (c_l_grid_1 [some (.loc n), some (.fz (.tuple [sideD hs, sideD gs, dk])), some (.fz (.int way)), v3, v4] st) fun w s => (∃ r : List Int, w = .own (intsD r) ∧ r.length = gs.length ∧ ∀ y ∈ r, 0 ≤ y ∧ y ≤ TOPN) ∧ JR n st s (N + 12) := by
  have ix : ∀ s, fIxT (.fz (.tuple [sideD hs, sideD gs, dk])) (.fz (.int 1)) s = .ok (.fz (sideD gs)) s := fun s => rfl
  have sr : ∀ s, srcT s (.fz (sideD gs)) = some ⟨gs.map memD, none⟩ := fun s => rfl
  generalize PyData.tuple [sideD hs, sideD gs, dk] = pd at *
  unfold c_l_grid_1
  simp [ix, sr]
  refine wR_lcS memD PyData.int gs (fun i s => JR n st s (N + 3 * i)) (fun _ _ y => 0 ≤ y ∧ y ≤ TOPN) rfl (by omega) (jr_refl j) ?_ ?_
  · rintro i z s hz j1
    have hi := (List.getElem?_eq_some_iff.mp hz).1
    simp [wipeE]
    refine (number j1.2 (by omega) w0 w2).use ?_
    rintro _ s1 ⟨⟨a, rfl, a0, a1⟩, j2⟩
    exact ⟨a, rfl, ⟨a0, a1⟩, jr_mono (jr_trans j1 j2) (by omega)⟩
  · intro ys s hy hr j1
    exact ⟨⟨ys, rfl, hy, ints_of hy fun i y hi e => hr i gs[i] y (List.getElem?_eq_getElem hi) e⟩, jr_mono j1 (by omega)⟩
theorem grid {hs gs : Side} {dk : D} {st : Sto} {n N : Nat} {way : Int} (j : JAt st n N) (hN : N + 1000 ≤ 900000) (w0 : 0 ≤ way) (w2 : way ≤ 2) (h4 : hs.length ≤ 4) (g4 : gs.length ≤ 4) :
    wR noX (F_l_grid [.loc n, .fz (.tuple [sideD hs, sideD gs, dk]), .fz (.int way)] st) fun w s => (∃ g : Grid, w = .fz (gridD g) ∧ Gridish g hs.length gs.length TOPN) ∧ JR n st s (N + 50) := by
  have ix : ∀ s, fIxT (.fz (.tuple [sideD hs, sideD gs, dk])) (.fz (.int 0)) s = .ok (.fz (sideD hs)) s := fun s => rfl
  have sr : ∀ s, srcT s (.fz (sideD hs)) = some ⟨hs.map memD, none⟩ := fun s => rfl
  have rw_ := fun (st' : Sto) (N' : Nat) (v3 v4 : Option QD.W) (j' : JAt st' n N') (h' : N' + 100 ≤ 900000) => grid_row (hs := hs) (gs := gs) (dk := dk) (v3 := v3) (v4 := v4) j' h' w0 w2 g4
  generalize PyData.tuple [sideD hs, sideD gs, dk] = pd at *
  unfold F_l_grid d_l_grid
  simp [c_l_grid_2, ix, sr]
  refine wR_lcS memD rowD hs (fun i s => JR n st s (N + 12 * i)) (fun _ _ r => r.length = gs.length ∧ ∀ y ∈ r, 0 ≤ y ∧ y ≤ TOPN) rfl (by omega) (jr_refl j) ?_ ?_
  · rintro i z s hz j2
    have hi := (List.getElem?_eq_some_iff.mp hz).1
    simp [wipeE]
    refine (rw_ s _ _ _ j2.2 (by omega)).use ?_
    rintro _ s2 ⟨⟨r, rfl, hl, hb⟩, j3⟩
    have tp : ∀ s, fTupOf (.own (intsD r)) s = .ok (.fz (rowD r)) s := fun s => rfl
    simp [tp]
    exact ⟨r, rfl, ⟨hl, hb⟩, jr_mono (jr_trans j2 j3) (by omega)⟩
  · intro ys s hy hr j2
    have tp : ∀ s, fTupOf (.own (ys.map rowD)) s = .ok (.fz (gridD ys)) s := fun s => rfl
    simp [tp]
    refine ⟨⟨ys, rfl, hy, fun r hr' => ?_, fun r hr' y hy' => ?_, fun r hr' y hy' => ?_⟩, by rw [jr_take0 j2]; exact jr_mono j2 (by omega)⟩
    all_goals
      obtain ⟨i, hi, e⟩ := List.mem_iff_getElem.mp hr'
      have := hr i hs[i] r (List.getElem?_eq_getElem (by omega)) (by rw [List.getElem?_eq_getElem hi, e])
    · exact this.1
    · exact (this.2 y hy').1
    · exact (this.2 y hy').2
end K14
/-! MV13: tables parted, a side with another bound, the load, what it does. -/
namespace K14
open PySem PySem.Spec PyProof.Rows L2 MG QD MU GM
def partG (g : Grid) (b : Int) : Grid := g.map fun r => r.map fun x => x / b
theorem part_gridish {g : Grid} {m n : Nat} {most b : Int} (G : Gridish g m n most) (hb : 1 ≤ b) : Gridish (partG g b) m n most := by
  refine ⟨by unfold partG; rw [List.length_map, G.rows], fun r hr => ?_, fun r hr x hx => ?_, fun r hr x hx => ?_⟩
  all_goals
    obtain ⟨q, hq, rfl⟩ := List.mem_map.mp hr
  · rw [List.length_map, G.cols q hq]
  · obtain ⟨y, hy, rfl⟩ := List.mem_map.mp hx
    exact Int.ediv_nonneg (G.least q hq y hy) (by omega)
  · obtain ⟨y, hy, rfl⟩ := List.mem_map.mp hx
    exact Int.le_trans (Int.ediv_le_self _ (G.least q hq y hy)) (G.most q hq y hy)
theorem half_gridish {g : Grid} {m n : Nat} (G : Gridish g m n TOPN) : Gridish (partG g 2) m n 500000000000000000000000000000 := by
  refine ⟨(part_gridish G (by decide)).rows, (part_gridish G (by decide)).cols, (part_gridish G (by decide)).least, fun r hr x hx => ?_⟩
  obtain ⟨q, hq, rfl⟩ := List.mem_map.mp hr
  obtain ⟨y, hy, rfl⟩ := List.mem_map.mp hx
  have := G.most q hq y hy
  have h : y ≤ 1000000000000000000000000000000 := this
  show y / 2 ≤ 500000000000000000000000000000
  omega
theorem fifth_gridish {g : Grid} {m n : Nat} (G : Gridish g m n 500000000000000000000000000000) : Gridish (partG g 5) m n 100000000000000000000000000000 := by
  refine ⟨(part_gridish G (by decide)).rows, (part_gridish G (by decide)).cols, (part_gridish G (by decide)).least, fun r hr x hx => ?_⟩
  obtain ⟨q, hq, rfl⟩ := List.mem_map.mp hr
  obtain ⟨y, hy, rfl⟩ := List.mem_map.mp hx
  have := G.most q hq y hy
  show y / 5 ≤ 100000000000000000000000000000
  omega
theorem load1 {hs gs : Side} {t : Option Int} {x : Str} (f : Fairish hs gs t) {g : Grid} {most M : Int} (A : Gridish g hs.length gs.length most) (hb : most ≤ TOPN) (hM : maxL ((needsT hs gs t g).map (·.2)) = some M) {st : Sto} :
    F_load [.fz (fairD hs gs t x), .fz (gridD g)] st = .ok (.fz (.int M)) st := by
  apply wR.eq
  have A' := grid_mono' A hb
  have tf := fun st => table_fault A' (by have := f.h4; omega) (by have := f.g4; omega) (st := st)
  have lr := fun s => least_rounds f A (x := x) (M := M) hM (st := s)
  have hh : ∀ s, fLen (.fz (sideD hs)) s = .ok (.fz (.int (hs.length : Nat))) s := fun s => by unfold fLen sideD; simp
  have hg : ∀ s, fLen (.fz (sideD gs)) s = .ok (.fz (.int (gs.length : Nat))) s := fun s => by unfold fLen sideD; simp
  have tr : ∀ s, truW s (.fz (.tuple [])) = some false := fun s => rfl
  have chk := fun s => check_fair (hs := hs) (gs := gs) (t := t) (x := x) (st := s)
  generalize gridD g = A1 at *
  unfold F_load d_load F_check_meetings d_check_meetings F_meetings_fault d_meetings_fault
  simp [chk, fair_ob, hosts, guests, hh, hg, tf, tr, lr]
/-! ### what loads do -/
def cl (p : Int × Int) : Int := ceilI p.1 p.2
def tabP (t : Option Int) (s : Int) : List (Int × Int) := match t with
  | some k => [(s, k)]
  | none => []
def prT (hs gs : Side) (t : Option Int) (g : Grid) : List (Int × Int) := (g.map List.sum).zip (boundsI hs) ++ (colsI g gs.length).zip (boundsI gs) ++ tabP t (colsI g gs.length).sum
theorem zip_cl {F : Side → Str × Int → D} : ∀ (hs : Side) (R : List Int), (((hs.zip R).map fun z => (F hs z.1, ceilI z.2 z.1.2)).map (·.2)) = (R.zip (boundsI hs)).map cl := by
  intro hs R
  rw [List.map_map]
  show (hs.zip R).map (fun z => ceilI z.2 z.1.2) = _
  unfold boundsI
  induction hs generalizing R with
  | nil => cases R <;> rfl
  | cons a hs ih =>
    cases R with
    | nil => rfl
    | cons b R => simp only [List.zip_cons_cons, List.map_cons, ih]; rfl
theorem needs_pr {hs gs : Side} {t : Option Int} {g : Grid} : (needsT hs gs t g).map (·.2) = (prT hs gs t g).map cl := by
  unfold needsT prT
  rw [List.map_append, List.map_append, List.map_append, List.map_append, zip_cl (F := fun _ z => PyData.tuple [.str "host", .str z.1]), zip_cl (F := fun _ z => PyData.tuple [.str "guest", .str z.1])]
  cases t <;> rfl
theorem pr_ne {hs gs : Side} {t : Option Int} (f : Fairish hs gs t) {g : Grid} {most : Int} (G : Gridish g hs.length gs.length most) : (prT hs gs t g) ≠ [] := by
  intro e
  have l := congrArg List.length e
  have h1 := f.h1
  unfold prT at l
  rw [List.length_append, List.length_append, List.length_zip, List.length_map, G.rows, bounds_len, List.length_nil, Nat.min_self] at l
  omega
/-- the load as a number -/
def ldI (hs gs : Side) (t : Option Int) (g : Grid) : Int := (maxL ((prT hs gs t g).map cl)).getD 0
theorem ld_some {hs gs : Side} {t : Option Int} (f : Fairish hs gs t) {g : Grid} {most : Int} (G : Gridish g hs.length gs.length most) : maxL ((prT hs gs t g).map cl) = some (ldI hs gs t g) := by
  obtain ⟨m, h⟩ := maxL_some (ns := (prT hs gs t g).map cl) (by simpa using pr_ne f G)
  unfold ldI
  rw [h]
  rfl
theorem loadOf {hs gs : Side} {t : Option Int} {x : Str} (f : Fairish hs gs t) {g : Grid} {most : Int} (A : Gridish g hs.length gs.length most) (hb : most ≤ TOPN) {st : Sto} :
    F_load [.fz (fairD hs gs t x), .fz (gridD g)] st = .ok (.fz (.int (ldI hs gs t g))) st := load1 f A hb (by rw [needs_pr]; exact ld_some f A)
theorem ld_at {hs gs : Side} {t : Option Int} (f : Fairish hs gs t) {g : Grid} {most : Int} (G : Gridish g hs.length gs.length most) : (∃ p ∈ prT hs gs t g, ldI hs gs t g = cl p) ∧ ∀ p ∈ prT hs gs t g, cl p ≤ ldI hs gs t g := by
  obtain ⟨h1, h2⟩ := maxL_mem (ld_some f G)
  obtain ⟨p, hp, e⟩ := List.mem_map.mp h1
  exact ⟨⟨p, hp, e.symm⟩, fun p hp => h2 _ (List.mem_map_of_mem hp)⟩
theorem sum_nn : ∀ {l : List Int}, (∀ x ∈ l, 0 ≤ x) → 0 ≤ l.sum
  | [], _ => by simp
  | a :: l, h => by
    have := sum_nn (l := l) fun x hx => h x (List.mem_cons_of_mem _ hx)
    have := h a (List.mem_cons_self ..)
    rw [List.sum_cons]; omega
theorem cols_nn {g : Grid} {m n : Nat} {most : Int} (G : Gridish g m n most) : ∀ x ∈ colsI g n, 0 ≤ x := fun x hx => by
  unfold colsI at hx
  obtain ⟨j, hj, rfl⟩ := List.mem_map.mp hx
  refine sum_nn fun y hy => ?_
  obtain ⟨r, hr, rfl⟩ := List.mem_map.mp hy
  have hj := List.mem_range.mp hj
  have l := G.cols r hr
  rw [List.getD_eq_getElem?_getD, List.getElem?_eq_getElem (by omega)]
  exact G.least r hr _ (List.getElem_mem _)
theorem pr_pos {hs gs : Side} {t : Option Int} (f : Fairish hs gs t) {g : Grid} {most : Int} (G : Gridish g hs.length gs.length most) : ∀ p ∈ prT hs gs t g, 0 ≤ p.1 ∧ 1 ≤ p.2 := by
  intro p hp
  have bd : ∀ (s : Side), (∀ z ∈ s, 1 ≤ z.2 ∧ z.2 ≤ 4) → ∀ b ∈ boundsI s, 1 ≤ b := fun s h b hb => by
    unfold boundsI at hb
    obtain ⟨z, hz, rfl⟩ := List.mem_map.mp hb
    exact (h z hz).1
  unfold prT at hp
  rcases List.mem_append.mp hp with hp | hp
  · rcases List.mem_append.mp hp with hp | hp
    · obtain ⟨h1, h2⟩ := List.of_mem_zip hp
      obtain ⟨r, hr, e⟩ := List.mem_map.mp h1
      exact ⟨by rw [← e]; exact sum_nn (G.least r hr), bd hs (fun z hz => f.bd z (List.mem_append_left _ hz)) _ h2⟩
    · obtain ⟨h1, h2⟩ := List.of_mem_zip hp
      exact ⟨cols_nn G _ h1, bd gs (fun z hz => f.bd z (List.mem_append_right _ hz)) _ h2⟩
  · cases t with
    | none => cases hp
    | some k =>
      rw [show tabP (some k) (colsI g gs.length).sum = [((colsI g gs.length).sum, k)] from rfl, List.mem_singleton] at hp
      subst hp
      exact ⟨sum_nn (cols_nn G), (f.tb k rfl).1⟩
end K14
/-! MW13: two tables together, many times one, other bounds. -/
namespace K14
open PySem PySem.Spec PyProof.Rows L2 MG QD MU GM
theorem ceil_lt {n b m : Int} (hb : 0 < b) : ceilI n b ≤ m ↔ n ≤ m * b := by
  unfold ceilI
  constructor
  · intro h
    have := ceil_ge (n := n) hb
    have := Int.mul_le_mul_of_nonneg_right h (Int.le_of_lt hb)
    omega
  · intro h
    have h1 : -m ≤ -n / b := (Int.le_ediv_iff_mul_le hb).mpr (by rw [Int.neg_mul]; omega)
    omega
theorem zip_zw {R1 R2 B : List Int} {k : Int} : (List.zipWith (fun a b => a + k * b) R1 R2).zip B = List.zipWith (fun p q : Int × Int => (p.1 + k * q.1, p.2)) (R1.zip B) (R2.zip B) := by
  induction R1 generalizing R2 B with
  | nil => simp
  | cons a R1 ih =>
    cases R2 with
    | nil => simp
    | cons c R2 =>
      cases B with
      | nil => simp
      | cons b B => simp [ih]
theorem pr_add {hs gs : Side} {t : Option Int} {g1 g2 : Grid} {k1 k2 k : Int} (G1 : Gridish g1 hs.length gs.length k1) (G2 : Gridish g2 hs.length gs.length k2) :
    prT hs gs t (addG g1 g2 k) = List.zipWith (fun p q : Int × Int => (p.1 + k * q.1, p.2)) (prT hs gs t g1) (prT hs gs t g2) := by
  have e1 := add_rows (k := k) G1.cols G2.cols
  have e2 := add_cols (k := k) G1 G2
  unfold prT
  rw [e1, e2, List.zipWith_append, List.zipWith_append, zip_zw, zip_zw, sum_zw (by rw [cols_len, cols_len])]
  · cases t <;> rfl
  · rw [List.length_zip, List.length_zip, List.length_map, List.length_map, G1.rows, G2.rows]
  · rw [List.length_append, List.length_append, List.length_zip, List.length_zip, List.length_zip, List.length_zip, List.length_map, List.length_map, G1.rows, G2.rows, cols_len, cols_len]
theorem tab_len (t : Option Int) (a b : Int) : (tabP t a).length = (tabP t b).length := by cases t <;> rfl
theorem pr_len {hs gs : Side} {t : Option Int} {g1 g2 : Grid} {k1 k2 : Int} (G1 : Gridish g1 hs.length gs.length k1) (G2 : Gridish g2 hs.length gs.length k2) : (prT hs gs t g1).length = (prT hs gs t g2).length := by
  unfold prT
  rw [List.length_append, List.length_append, List.length_append, List.length_append, List.length_zip, List.length_zip, List.length_zip, List.length_zip, List.length_map, List.length_map, G1.rows, G2.rows, cols_len, cols_len,
    tab_len t (colsI g1 gs.length).sum (colsI g2 gs.length).sum]
theorem zip_snd {A B : List Int} (h : A.length = B.length) : (A.zip B).map (·.2) = B := by
  induction A generalizing B with
  | nil => cases B with
    | nil => rfl
    | cons _ _ => cases h
  | cons a A ih => cases B with
    | nil => cases h
    | cons b B => simp [ih (Nat.succ.inj h)]
theorem pr_snd {hs gs : Side} {t : Option Int} {g : Grid} {k : Int} (G : Gridish g hs.length gs.length k) : (prT hs gs t g).map (·.2) = boundsI hs ++ boundsI gs ++ (match t with | some k => [k] | none => []) := by
  unfold prT
  rw [List.map_append, List.map_append, zip_snd (by rw [List.length_map, G.rows, bounds_len]), zip_snd (by rw [cols_len, bounds_len])]
  cases t <;> rfl
/-- item by item: the sums, the same bounds -/
theorem pr_at {hs gs : Side} {t : Option Int} {g1 g2 : Grid} {k1 k2 k : Int} (G1 : Gridish g1 hs.length gs.length k1) (G2 : Gridish g2 hs.length gs.length k2) {i : Nat} (h : i < (prT hs gs t g1).length) :
    ∃ a b c : Int, (prT hs gs t g1)[i]? = some (a, c) ∧ (prT hs gs t g2)[i]? = some (b, c) ∧ (prT hs gs t (addG g1 g2 k))[i]? = some (a + k * b, c) := by
  have h2 : i < (prT hs gs t g2).length := by rw [← pr_len G1 G2]; exact h
  obtain ⟨a, c, ea⟩ : ∃ a c, (prT hs gs t g1)[i] = (a, c) := ⟨_, _, rfl⟩
  obtain ⟨b, d, eb⟩ : ∃ b d, (prT hs gs t g2)[i] = (b, d) := ⟨_, _, rfl⟩
  have s1 := congrArg (fun l => l[i]?) ((pr_snd (t := t) G1).trans (pr_snd (t := t) G2).symm)
  simp only [List.getElem?_map, List.getElem?_eq_getElem h, List.getElem?_eq_getElem h2, ea, eb, Option.map_some, Option.some.injEq] at s1
  subst s1
  refine ⟨a, b, c, by rw [List.getElem?_eq_getElem h, ea], by rw [List.getElem?_eq_getElem h2, eb], ?_⟩
  rw [pr_add G1 G2, List.getElem?_zipWith, List.getElem?_eq_getElem h, List.getElem?_eq_getElem h2, ea, eb]
theorem add_len {hs gs : Side} {t : Option Int} {g1 g2 : Grid} {k1 k2 k : Int} (G1 : Gridish g1 hs.length gs.length k1) (G2 : Gridish g2 hs.length gs.length k2) : (prT hs gs t (addG g1 g2 k)).length = (prT hs gs t g1).length := by
  rw [pr_add G1 G2, List.length_zipWith, pr_len G1 G2, Nat.min_self]
theorem both {hs gs : Side} {t : Option Int} (f : Fairish hs gs t) {g1 g2 : Grid} {k1 k2 : Int} (G1 : Gridish g1 hs.length gs.length k1) (G2 : Gridish g2 hs.length gs.length k2) :
    ldI hs gs t g1 ≤ ldI hs gs t (addG g1 g2 1) ∧ ldI hs gs t g2 ≤ ldI hs gs t (addG g1 g2 1) ∧ ldI hs gs t (addG g1 g2 1) ≤ ldI hs gs t g1 + ldI hs gs t g2 := by
  obtain ⟨⟨p1, m1, e1⟩, u1⟩ := ld_at f G1
  obtain ⟨⟨p2, m2, e2⟩, u2⟩ := ld_at f G2
  have G3 := add_gridish G1 G2 (k := 1) (by decide)
  obtain ⟨⟨p3, m3, e3⟩, u3⟩ := ld_at f G3
  have pos := pr_pos f G1
  have pos2 := pr_pos f G2
  refine ⟨?_, ?_, ?_⟩
  · obtain ⟨i, hi, e⟩ := List.mem_iff_getElem.mp m1
    obtain ⟨a, b, c, x1, x2, x3⟩ := pr_at (t := t) (k := 1) G1 G2 hi
    have ep : p1 = (a, c) := by rw [← e]; rw [List.getElem?_eq_getElem hi] at x1; exact Option.some.inj x1
    have q1 := pos2 _ (List.mem_of_getElem? x2)
    have q2 := pos2 _ (List.mem_of_getElem? x2)
    have q3 := u3 _ (List.mem_of_getElem? x3)
    rw [e1, ep]
    refine Int.le_trans ?_ q3
    unfold cl
    rw [ceil_lt (by have := q1.2; simp only at this ⊢; omega)]
    have := (ceil_lt (n := a + 1 * b) (b := c) (m := ceilI (a + 1 * b) c) (by have := q1.2; simp only at this; omega)).mp (Int.le_refl _)
    have := q1.1
    simp only at *
    omega
  · obtain ⟨i, hi, e⟩ := List.mem_iff_getElem.mp m2
    have hi' : i < (prT hs gs t g1).length := by rw [pr_len G1 G2]; exact hi
    obtain ⟨a, b, c, x1, x2, x3⟩ := pr_at (t := t) (k := 1) G1 G2 hi'
    have ep : p2 = (b, c) := by rw [← e]; rw [List.getElem?_eq_getElem hi] at x2; exact Option.some.inj x2
    have q1 := pos _ (List.mem_of_getElem? x1)
    have q3 := u3 _ (List.mem_of_getElem? x3)
    rw [e2, ep]
    refine Int.le_trans ?_ q3
    unfold cl
    rw [ceil_lt (by have := q1.2; simp only at this ⊢; omega)]
    have := (ceil_lt (n := a + 1 * b) (b := c) (m := ceilI (a + 1 * b) c) (by have := q1.2; simp only at this; omega)).mp (Int.le_refl _)
    have := q1.1
    simp only at *
    omega
  · obtain ⟨i, hi, e⟩ := List.mem_iff_getElem.mp m3
    have hi' : i < (prT hs gs t g1).length := by rw [← add_len (k := 1) G1 G2]; exact hi
    obtain ⟨a, b, c, x1, x2, x3⟩ := pr_at (t := t) (k := 1) G1 G2 hi'
    have ep : p3 = (a + 1 * b, c) := by rw [← e]; rw [List.getElem?_eq_getElem hi] at x3; exact Option.some.inj x3
    have q1 := pos _ (List.mem_of_getElem? x1)
    have v1 := u1 _ (List.mem_of_getElem? x1)
    have v2 := u2 _ (List.mem_of_getElem? x2)
    have c0 : 0 < c := by have := q1.2; simp only at this; omega
    rw [e3, ep]
    unfold cl at v1 v2 ⊢
    simp only at v1 v2 ⊢
    rw [ceil_lt c0] at v1 v2 ⊢
    rw [Int.add_mul]
    omega
theorem times {hs gs : Side} {t : Option Int} (f : Fairish hs gs t) {g : Grid} {k0 k : Int} (G : Gridish g hs.length gs.length k0) (hk : 1 ≤ k) :
    (ldI hs gs t g = 0 → ldI hs gs t (addG g g (k - 1)) = 0) ∧ (ldI hs gs t g ≠ 0 → k * (ldI hs gs t g - 1) < ldI hs gs t (addG g g (k - 1)) ∧ ldI hs gs t (addG g g (k - 1)) ≤ k * ldI hs gs t g) := by
  obtain ⟨⟨p1, m1, e1⟩, u1⟩ := ld_at f G
  have G3 := add_gridish G G (k := k - 1) (by omega)
  obtain ⟨⟨p3, m3, e3⟩, u3⟩ := ld_at f G3
  have pos := pr_pos f G
  have km : ∀ a : Int, a + (k - 1) * a = k * a := fun a => by rw [Int.sub_mul]; omega
  have nn : ∀ p ∈ prT hs gs t (addG g g (k - 1)), 0 ≤ cl p := fun p hp => by
    have := pr_pos f G3 p hp
    unfold cl ceilI
    have := Int.ediv_le_ediv (show 0 < p.2 by omega) (show -p.1 ≤ 0 by omega)
    rw [Int.zero_ediv] at this
    omega
  have n3 : 0 ≤ ldI hs gs t (addG g g (k - 1)) := by rw [e3]; exact nn _ m3
  have up : ldI hs gs t (addG g g (k - 1)) ≤ k * ldI hs gs t g := by
    obtain ⟨i, hi, e⟩ := List.mem_iff_getElem.mp m3
    have hi' : i < (prT hs gs t g).length := by rw [← add_len (k := k - 1) G G]; exact hi
    obtain ⟨a, b, c, x1, x2, x3⟩ := pr_at (t := t) (k := k - 1) G G hi'
    rw [x1] at x2
    obtain ⟨rfl, _⟩ := Prod.mk.inj (Option.some.inj x2)
    have ep : p3 = (a + (k - 1) * a, c) := by rw [← e]; rw [List.getElem?_eq_getElem hi] at x3; exact Option.some.inj x3
    have q1 := pos _ (List.mem_of_getElem? x1)
    have v1 := u1 _ (List.mem_of_getElem? x1)
    have c0 : 0 < c := by have := q1.2; simp only at this; omega
    rw [e3, ep]
    unfold cl at v1 ⊢
    simp only at v1 ⊢
    rw [ceil_lt c0] at v1 ⊢
    rw [km, Int.mul_assoc]
    exact Int.mul_le_mul_of_nonneg_left v1 (by omega)
  refine ⟨fun z => ?_, fun z => ⟨?_, up⟩⟩
  · rw [z, Int.mul_zero] at up
    omega
  · obtain ⟨i, hi, e⟩ := List.mem_iff_getElem.mp m1
    obtain ⟨a, b, c, x1, x2, x3⟩ := pr_at (t := t) (k := k - 1) G G hi
    rw [x1] at x2
    obtain ⟨rfl, _⟩ := Prod.mk.inj (Option.some.inj x2)
    have ep : p1 = (a, c) := by rw [← e]; rw [List.getElem?_eq_getElem hi] at x1; exact Option.some.inj x1
    have q1 := pos _ (List.mem_of_getElem? x1)
    have c0 : 0 < c := by have := q1.2; simp only at this; omega
    have v3 := u3 _ (List.mem_of_getElem? x3)
    refine Int.lt_of_lt_of_le ?_ v3
    rw [e1, ep]
    unfold cl
    simp only
    rw [km]
    have h1 : (ceilI a c - 1) * c < a := by
      refine Int.not_le.mp fun h => ?_
      have := (ceil_lt c0).mpr h
      omega
    have h2 : k * ((ceilI a c - 1) * c) < k * a := Int.mul_lt_mul_of_pos_left h1 (by omega)
    refine Int.not_le.mp fun h => ?_
    have h3 := (ceil_lt c0).mp h
    rw [Int.mul_assoc] at h3
    omega
/-- wider bounds, and less of them: no greater a load -/
theorem weaker {hs gs hs' gs' : Side} {t t' : Option Int} (f : Fairish hs gs t) (f' : Fairish hs' gs' t') {g : Grid} {k k' : Int} (G : Gridish g hs.length gs.length k) (G' : Gridish g hs'.length gs'.length k')
    (h : ∀ p' ∈ prT hs' gs' t' g, ∃ p ∈ prT hs gs t g, p.1 = p'.1 ∧ p.2 ≤ p'.2) : ldI hs' gs' t' g ≤ ldI hs gs t g := by
  obtain ⟨⟨p1, m1, e1⟩, u1⟩ := ld_at f' G'
  obtain ⟨_, u⟩ := ld_at f G
  obtain ⟨p, hp, q1, q2⟩ := h p1 m1
  have pos := pr_pos f G p hp
  refine Int.le_trans ?_ (u p hp)
  rw [e1]
  unfold cl
  have c0 : 0 < p.2 := by omega
  have := (ceil_lt (n := p.1) (b := p.2) (m := ceilI p.1 p.2) c0).mp (Int.le_refl _)
  rw [ceil_lt (by omega), ← q1]
  have n0 : 0 ≤ ceilI p.1 p.2 := by
    unfold ceilI
    have := Int.ediv_le_ediv c0 (show -p.1 ≤ 0 by omega)
    rw [Int.zero_ediv] at this
    omega
  exact Int.le_trans this (Int.mul_le_mul_of_nonneg_left q2 n0)
end K14
/-! MX13: another bound. -/
namespace K14
open PySem PySem.Spec PyProof.Rows L2 MG QD MU GM
def setB (s : Side) (i : Nat) (b : Int) : Side := s.set i ((s.getD i default).1, b)
theorem side_at {s : Side} {i : Nat} (h : i < s.length) : (s.map memD)[i]? = some (memD (s.getD i default)) := by
  rw [List.getElem?_map, List.getD_eq_getElem?_getD, List.getElem?_eq_getElem h]; rfl
theorem set_mem {s : Side} {i : Nat} {b : Int} : (s.map memD).set i (memD ((s.getD i default).1, b)) = (setB s i b).map memD := by
  unfold setB; rw [List.map_set]
theorem sideT {s : Side} {i : Nat} (h : i < s.length) {st : Sto} : fIxT (.fz (sideD s)) (.fz (.int (i : Int))) st = .ok (.fz (memD (s.getD i default))) st := by
  unfold fIxT sideD
  simp [atI_n, side_at h]
theorem madeN {hs gs : Side} (f : Fairish hs gs none) {en : En} {st st1 : Sto} {a : DnA} (ha : a en st = .ok [.fz (sideD hs), .fz (sideD gs)] st1) :
    ∃ x : Str, dMake 4 0 (frzOb 0 ns_Fair) F_Fairu_initu [.fz .none] a en st = .ok (.fz (fairD hs gs none x)) st1 := by
  obtain ⟨x, ex⟩ := made f (en := en) (st := st1) (st1 := st1) (a := fun _ s => .ok [.fz (sideD hs), .fz (sideD gs), .fz (deskD none)] s) rfl
  refine ⟨x, ?_⟩
  rw [← ex]
  unfold dMake
  rw [ha]
  rfl
theorem setB_fair {hs gs : Side} {t : Option Int} {i : Nat} {b : Int} (f : Fairish hs gs t) (h : i < hs.length) (b1 : 1 ≤ b) (b4 : b ≤ 4) : Fairish (setB hs i b) gs t := by
  have e1 : (setB hs i b).map (·.1) = hs.map (·.1) := by
    unfold setB
    rw [List.map_set]
    apply List.ext_getElem?
    intro k
    by_cases c : i = k
    · subst c
      rw [List.getElem?_set_self (by simpa using h), List.getElem?_map, List.getD_eq_getElem?_getD, List.getElem?_eq_getElem h]; rfl
    · rw [List.getElem?_set_ne c]
  have mem : ∀ z ∈ setB hs i b, z.1 ∈ hs.map (·.1) ∧ (z ∈ hs ∨ z.2 = b) := fun z hz => by
    refine ⟨by rw [← e1]; exact List.mem_map_of_mem hz, ?_⟩
    unfold setB at hz
    rcases List.mem_or_eq_of_mem_set hz with hz | rfl
    · exact .inl hz
    · exact .inr rfl
  have ln : (setB hs i b).length = hs.length := by unfold setB; rw [List.length_set]
  refine ⟨by rw [ln]; exact f.h1, by rw [ln]; exact f.h4, f.g1, f.g4, by rw [List.map_append, e1, ← List.map_append]; exact f.nd, fun z hz => ?_, fun z hz => ?_, f.tb⟩
  · rcases List.mem_append.mp hz with hz | hz
    · obtain ⟨y, hy, e⟩ := List.mem_map.mp (mem z hz).1
      rw [← e]; exact f.nm y (List.mem_append_left _ hy)
    · exact f.nm z (List.mem_append_right _ hz)
  · rcases List.mem_append.mp hz with hz | hz
    · rcases (mem z hz).2 with hz | e
      · exact f.bd z (List.mem_append_left _ hz)
      · rw [e]; exact ⟨b1, b4⟩
    · exact f.bd z (List.mem_append_right _ hz)
theorem swap_fair {hs gs : Side} {t : Option Int} (f : Fairish hs gs t) : Fairish gs hs t := by
  refine ⟨f.g1, f.g4, f.h1, f.h4, ?_, fun z hz => f.nm z ?_, fun z hz => f.bd z ?_, f.tb⟩
  · rw [List.map_append]
    exact (List.Perm.nodup_iff List.perm_append_comm).mp (by rw [← List.map_append]; exact f.nd)
  · exact List.mem_append.mpr (List.mem_append.mp hz).symm
  · exact List.mem_append.mpr (List.mem_append.mp hz).symm
theorem setB_pairs {s : Side} {i : Nat} {b : Int} (h : i < s.length) (hb : (s.getD i default).2 ≤ b) (R : List Int) (hR : R.length = s.length) : ∀ p' ∈ R.zip (boundsI (setB s i b)), ∃ p ∈ R.zip (boundsI s), p.1 = p'.1 ∧ p.2 ≤ p'.2 := fun p' hp => by
  obtain ⟨k, hk, e⟩ := List.mem_iff_getElem.mp hp
  have lk : k < R.length := by rw [List.length_zip] at hk; omega
  have eb : boundsI (setB s i b) = (boundsI s).set i b := by unfold boundsI setB; rw [List.map_set]
  have l2 : k < (boundsI s).length := by rw [bounds_len]; omega
  refine ⟨(R[k], (boundsI s)[k]), ?_, ?_, ?_⟩
  · rw [List.mem_iff_getElem]
    exact ⟨k, by rw [List.length_zip]; omega, by rw [List.getElem_zip]⟩
  · rw [← e, List.getElem_zip]
  · rw [← e, List.getElem_zip]
    simp only [eb]
    by_cases c : i = k
    · subst c
      rw [List.getElem_set_self]
      rw [List.getD_eq_getElem?_getD, List.getElem?_eq_getElem h] at hb
      have e2 : (boundsI s)[i] = s[i].2 := by simp [boundsI]
      rw [e2]
      exact hb
    · rw [List.getElem_set_ne c]
      exact Int.le_refl _
theorem sum_le {M : Int} : ∀ {l : List Int}, (∀ x ∈ l, x ≤ M) → l.sum ≤ l.length * M
  | [], _ => by simp
  | a :: l, h => by
    have := sum_le (l := l) fun x hx => h x (List.mem_cons_of_mem _ hx)
    have := h a (List.mem_cons_self ..)
    rw [List.sum_cons, List.length_cons, Int.natCast_add, Int.add_mul]; omega
theorem up4 {n : Nat} {M s : Int} (h : s ≤ n * M) (n4 : n ≤ 4) (m0 : 0 ≤ M) : s ≤ 4 * M := Int.le_trans h (Int.mul_le_mul_of_nonneg_right (by omega) m0)
theorem cols_le {g : Grid} {m n : Nat} {most : Int} (G : Gridish g m n most) (m4 : m ≤ 4) (m0 : 0 ≤ most) : ∀ x ∈ colsI g n, x ≤ 4 * most := fun x hx => by
  unfold colsI at hx
  obtain ⟨j, hj, rfl⟩ := List.mem_map.mp hx
  refine up4 (n := m) (Int.le_trans (sum_le (M := most) fun y hy => ?_) (by rw [List.length_map, G.rows]; exact Int.le_refl _)) m4 m0
  obtain ⟨r, hr, rfl⟩ := List.mem_map.mp hy
  have hj := List.mem_range.mp hj
  have l := G.cols r hr
  rw [List.getD_eq_getElem?_getD, List.getElem?_eq_getElem (by omega)]
  exact G.most r hr _ (List.getElem_mem _)
theorem pr_top {hs gs : Side} {t : Option Int} (f : Fairish hs gs t) {g : Grid} {most : Int} (G : Gridish g hs.length gs.length most) (m0 : 0 ≤ most) : ∀ p ∈ prT hs gs t g, p.1 ≤ 16 * most := by
  intro p hp
  unfold prT at hp
  rcases List.mem_append.mp hp with hp | hp
  · rcases List.mem_append.mp hp with hp | hp
    · obtain ⟨h1, _⟩ := List.of_mem_zip hp
      obtain ⟨r, hr, e⟩ := List.mem_map.mp h1
      have := up4 (sum_le (G.most r hr)) (by rw [G.cols r hr]; exact f.g4) m0
      omega
    · obtain ⟨h1, _⟩ := List.of_mem_zip hp
      have := cols_le G f.h4 m0 _ h1
      omega
  · cases t with
    | none => cases hp
    | some k =>
      rw [show tabP (some k) (colsI g gs.length).sum = [((colsI g gs.length).sum, k)] from rfl, List.mem_singleton] at hp
      subst hp
      have := up4 (sum_le (cols_le G f.h4 m0)) (by rw [cols_len]; exact f.g4) (by omega)
      simp only
      omega
theorem ld_top {hs gs : Side} {t : Option Int} (f : Fairish hs gs t) {g : Grid} {most : Int} (G : Gridish g hs.length gs.length most) (m0 : 0 ≤ most) : 0 ≤ ldI hs gs t g ∧ ldI hs gs t g ≤ 16 * most := by
  obtain ⟨⟨p, hp, e⟩, _⟩ := ld_at f G
  obtain ⟨p0, p1⟩ := pr_pos f G p hp
  have p2 := pr_top f G m0 p hp
  rw [e]
  unfold cl
  constructor
  · unfold ceilI
    have := Int.ediv_le_ediv (show 0 < p.2 by omega) (show -p.1 ≤ 0 by omega)
    rw [Int.zero_ediv] at this
    omega
  · rw [ceil_lt (by omega)]
    refine Int.le_trans p2 ?_
    have := Int.mul_le_mul_of_nonneg_left p1 (show 0 ≤ 16 * most by omega)
    omega
end K14
/-! MXb14: the law's own shares. -/
namespace K14
open PySem PySem.Spec PyProof.Rows L2 MG QD MU GM
def shD (kind : Str) (z : (Str × Int) × Int) : D := .tuple [.int (-(-z.2 / z.1.2)), .tuple [.str kind, .str z.1.1]]
theorem share_side {st : Sto} {parts A1 : D} {S : Side} {R : List Int} {side : Nat} {kind : Str} {acc : List D} {sums : D} (hk : ∀ s, fIxL (.own [.str "host", .str "guest"]) (.fz (.int (side : Int))) s = .ok (.fz (.str kind)) s) (hp : ∀ s, fIxT (.fz parts) (.fz (.int (side : Int))) s = .ok (.fz (sideD S)) s)
    (hs : ∀ s, fIxL (.fz sums) (.fz (.int (side : Int))) s = .ok (.fz (.list (intsD R))) s) (hl : R.length = S.length) (h4 : S.length ≤ 4) (bd : ∀ z ∈ S, 1 ≤ z.2 ∧ z.2 ≤ 4) (ha : acc.length ≤ 20) {v5 v6 v7 : Option QD.W} {G : En → Sto → Prop} {R' : QD.W → Sto → Prop} {B C : En → Sto → Prop}
    (k : ∀ v5 v6 v7, G [some (.fz parts), some (.fz A1), some (.loc st.length), some (.fz sums), some (.fz (.int (side : Int))), v5, v6, v7] (st ++ [.lst (acc ++ (S.zip R).map (shD kind))])) :
    wS noX (b_l_shares_2 [some (.fz parts), some (.fz A1), some (.loc st.length), some (.fz sums), some (.fz (.int (side : Int))), v5, v6, v7] (st ++ [.lst acc])) G R' B C := by
  have ln : ∀ s, fLen (.fz (sideD S)) s = .ok (.fz (.int (S.length : Nat))) s := fun s => by unfold fLen sideD; simp
  have hr : r1S [(S.length : Int)] = some (rngS 0 S.length) := r1S_k (by omega)
  unfold b_l_shares_2
  simp [hp, ln, hr]
  refine wS_rng (l0 := []) S.length (fun i en s => ∃ v5 v6 v7, en = [some (.fz parts), some (.fz A1), some (.loc st.length), some (.fz sums), some (.fz (.int (side : Int))), v5, v6, v7] ∧ s = st ++ [.lst (acc ++ ((S.zip R).map (shD kind)).take i)]) ⟨_, _, _, rfl, by simp⟩ ?_ ?_
  · rintro i en s hi ⟨v5, v6, v7, rfl, rfl⟩
    have hR : i < R.length := by omega
    have zb := bd S[i] (List.getElem_mem hi)
    have m1 : ∀ s, fIxT (.fz (sideD S)) (.fz (.int (i : Int))) s = .ok (.fz (.tuple [.str S[i].1, .int S[i].2])) s := fun s => by
      unfold sideD
      rw [fIxT_eq, atI_n, List.getElem?_map, List.getElem?_eq_getElem hi]
      rfl
    have m2 : ∀ s, fIxL (.fz (.list (intsD R))) (.fz (.int (i : Int))) s = .ok (.fz (.int R[i])) s := fun s => by
      rw [fIxL_eq, seqR_fz]
      simp [atI_n, hR]
    have cd : ∀ y, cDiv y S[i].2 = true := fun y => decide_eq_true ⟨by omega, log_b (by omega) (by omega)⟩
    have e : (R[i] + S[i].2 - 1) / S[i].2 = -(-R[i] / S[i].2) := ceil_up (by omega)
    have tk : ((S.zip R).map (shD kind)).take (i + 1) = ((S.zip R).map (shD kind)).take i ++ [.tuple [.int (-(-R[i] / S[i].2)), .tuple [.str kind, .str S[i].1]]] := by
      rw [List.take_add_one, List.getElem?_map, List.getElem?_eq_getElem (by rw [List.length_zip]; omega), List.getElem_zip]
      rfl
    have lz : (acc ++ ((S.zip R).map (shD kind)).take i).length ≤ 30 := by rw [List.length_append, List.length_take]; omega
    rw [tk, ← List.append_assoc]
    generalize acc ++ ((S.zip R).map (shD kind)).take i = z at *
    have sq : seqW (st ++ [Ob.lst z]) (.loc st.length) = some z := seqW_loc (get_last rfl)
    have ap : ∀ d, fChg gApp (.loc st.length) [.fz d] (st ++ [.lst z]) = .ok (.fz .none) (st ++ [.lst (z ++ [d])]) := fun d => by
      have l : z.length < sizeLine := Nat.lt_of_lt_of_le (show z.length < 100 by omega) (sz_le (by decide))
      unfold fChg
      simp only [get_last (s := st) rfl, gApp, datW_fz, if_pos l, set_last (s := st) rfl]
    generalize S[i].1 = nm at *
    generalize S[i].2 = b at *
    generalize R[i] = x at *
    generalize intsD R = iR' at *
    unfold b_l_shares_1
    simp [hp, m1, sq, hs, m2, cd, e, hk, sz_le, ap]
  · rintro en s ⟨v5, v6, v7, rfl, rfl⟩
    rw [List.take_of_length_le (by rw [List.length_map, List.length_zip]; omega)]
    exact k _ _ _
def shT (t : Option Int) (s : Int) : List D := match t with
  | some k => [.tuple [.int (-(-s / k)), .tuple [.str "tables"]]]
  | none => []
def encS (z : D × Int) : D := .tuple [.int z.2, z.1]
theorem needs_len {hs gs : Side} {t : Option Int} (f : Fairish hs gs t) {g : Grid} : (needsT hs gs t g).length ≤ 100 := by
  have h4 := f.h4
  have g4 := f.g4
  unfold needsT
  rw [List.length_append, List.length_append, List.length_map, List.length_map, List.length_zip, List.length_zip]
  have : (tabN t (colsI g gs.length).sum).length ≤ 1 := by cases t <;> simp [tabN]
  omega
theorem shares {hs gs : Side} {t : Option Int} (f : Fairish hs gs t) {g1 : Grid} {k1 : Int} (G1 : Gridish g1 hs.length gs.length k1) {st : Sto} :
    F_l_shares [.fz (.tuple [sideD hs, sideD gs, deskD t]), .fz (gridD g1)] st = .ok (.own ((needsT hs gs t g1).map encS)) st := by
  have h4 := f.h4
  have g4 := f.g4
  have r1 := G1.rows
  have cl : ∀ g n, (colsI g n).length = n := fun g n => by unfold colsI; simp
  have ir1 := fun s => in_rows (g := g1) (by omega) (st := s)
  have ic1 := fun s => in_columns G1 f.h1 (by omega) (by omega) (st := s)
  have key : (needsT hs gs t g1).map encS = (hs.zip (g1.map List.sum)).map (shD "host") ++ (gs.zip (colsI g1 gs.length)).map (shD "guest") ++ shT t (g1.map List.sum).sum := by
    unfold needsT
    rw [List.map_append, List.map_append, List.map_map, List.map_map, all_cols G1]
    congr 1
    cases t <;> rfl
  rw [key]
  apply wR.eq
  have lR : (g1.map List.sum).length = hs.length := by rw [List.length_map]; omega
  have lC := cl g1 gs.length
  have su : ∀ s, fSum (.fz (.list (intsD (g1.map List.sum)))) s = .ok (.fz (.int (g1.map List.sum).sum)) s := fun s => sumL
  have ix2 : ∀ s, fIxT (.fz (.tuple [sideD hs, sideD gs, deskD t])) (.fz (.int 2)) s = .ok (.fz (deskD t)) s := fun s => rfl
  generalize g1.map List.sum = R at *
  generalize colsI g1 gs.length = Cc at *
  have hr2 : r1S [2] = some ⟨[.int 0, .int 1], none⟩ := r1S_k (n := 2) (by decide)
  have l8 : ((hs.zip R).map (shD "host")).length ≤ 10 := by rw [List.length_map, List.length_zip]; omega
  have l16 : ((hs.zip R).map (shD "host") ++ (gs.zip Cc).map (shD "guest")).length ≤ 20 := by rw [List.length_append, List.length_map, List.length_map, List.length_zip, List.length_zip]; omega
  generalize hA1 : gridD g1 = A1 at *
  unfold F_l_shares d_l_shares
  simp [sz_le, ir1, ic1, hr2]
  rw [wS_forCons]
  simp
  refine share_side (side := 0) (kind := "host") (S := hs) (R := R) (acc := []) (fun _ => rfl) (fun _ => rfl) (fun _ => rfl) lR h4 (fun z hz => f.bd z (List.mem_append_left _ hz)) (by decide) ?_
  intro v5 v6 v7
  rw [wS_forCons]
  simp
  refine share_side (side := 1) (kind := "guest") (S := gs) (R := Cc) (fun _ => rfl) (fun _ => rfl) (fun _ => rfl) lC g4 (fun z hz => f.bd z (List.mem_append_right _ hz)) (by omega) ?_
  intro v5 v6 v7
  rw [wS_forNil]
  generalize (hs.zip R).map (shD "host") ++ (gs.zip Cc).map (shD "guest") = z at *
  have sq : ∀ z, seqW (st ++ [Ob.lst z]) (.loc st.length) = some z := fun z => seqW_loc (get_last rfl)
  have ex : ∀ l, exitW st.length (.loc st.length) (st ++ [.lst l]) = some (.own l, st) := fun l => by
    rw [exitW_loc (Nat.le_refl _) (get_last rfl), List.take_left']
    rfl
  have ap : ∀ d, fChg gApp (.loc st.length) [.fz d] (st ++ [.lst z]) = .ok (.fz .none) (st ++ [.lst (z ++ [d])]) := fun d => by
    have l : z.length < sizeLine := Nat.lt_of_lt_of_le (show z.length < 100 by omega) (sz_le (by decide))
    unfold fChg
    simp only [get_last (s := st) rfl, gApp, datW_fz, if_pos l, set_last (s := st) rfl]
  cases t with
  | none => simp [ix2, deskD, shT, ex]
  | some k =>
    have tb := f.tb k rfl
    have cd : ∀ y, cDiv y k = true := fun y => decide_eq_true ⟨by omega, log_b (by omega) (by omega)⟩
    have e : (R.sum + k - 1) / k = -(-R.sum / k) := ceil_up (by omega)
    generalize intsD R = iR at *
    simp [ix2, deskD, shT, ex, sq, su, cd, e, sz_le, ap]
theorem due {hs gs : Side} {t : Option Int} (f : Fairish hs gs t) {g : Grid} {k1 : Int} (G : Gridish g hs.length gs.length k1) {st : Sto} :
    F_l_due [.fz (.tuple [sideD hs, sideD gs, deskD t]), .fz (gridD g)] st = .ok (.fz (.int (ldI hs gs t g))) st := by
  apply wR.eq
  have sh := fun s => shares f G (st := s)
  have le := needs_len f (g := g)
  have hM := ld_some f G
  rw [← needs_pr] at hM
  generalize needsT hs gs t g = ne at *
  generalize ldI hs gs t g = M at *
  have em : ∀ s, fMax (.own (intsD (ne.map (·.2)))) s = .ok (.fz (.int M)) s := fun s => by
    unfold fMax fInts
    simp only [seqR_own, Option.bind_some, intL_ints, hM, Option.map_some]
  generalize PyData.tuple [sideD hs, sideD gs, deskD t] = pd at *
  unfold F_l_due d_l_due
  simp [c_l_due_1, sh]
  refine wR_lcM encS ne (fun z => .int z.2) rfl (by omega) (fun z hz => ?_) ?_
  · simp [wipeE, encS]
  · rw [show (ne.map fun z => PyData.int z.2) = intsD (ne.map (·.2)) by simp]
    generalize intsD (ne.map (·.2)) = z at *
    simp [em]
theorem check {hs gs : Side} {t : Option Int} {x : Str} (f : Fairish hs gs t) {g : Grid} {most : Int} (A : Gridish g hs.length gs.length most) (hb : most ≤ TOPN) {st : Sto} : F_check_meetings [.fz (fairD hs gs t x), .fz (gridD g)] st = .ok (.fz .none) st := by
  apply wR.eq
  have A' := grid_mono' A hb
  have tf := fun st => table_fault A' (by have := f.h4; omega) (by have := f.g4; omega) (st := st)
  have hh : ∀ s, fLen (.fz (sideD hs)) s = .ok (.fz (.int (hs.length : Nat))) s := fun s => by unfold fLen sideD; simp
  have hg : ∀ s, fLen (.fz (sideD gs)) s = .ok (.fz (.int (gs.length : Nat))) s := fun s => by unfold fLen sideD; simp
  have tr : ∀ s, truW s (.fz (.tuple [])) = some false := fun s => rfl
  generalize gridD g = A1 at *
  unfold F_check_meetings d_check_meetings F_meetings_fault d_meetings_fault
  simp [fair_ob, hosts, guests, hh, hg, tf, tr]
end K14
/-! MY14: the tables needed. -/
namespace K14
open PySem PySem.Spec PyProof.Rows L2 MG QD MU GM
def totI (g : Grid) : Int := (g.map List.sum).sum
theorem tot_nn {g : Grid} {m n : Nat} {k : Int} (G : Gridish g m n k) : 0 ≤ totI g := sum_nn fun x hx => by
  obtain ⟨r, hr, rfl⟩ := List.mem_map.mp hx
  exact sum_nn (G.least r hr)
theorem noT {hs gs : Side} {t : Option Int} (f : Fairish hs gs t) : Fairish hs gs none := ⟨f.h1, f.h4, f.g1, f.g4, f.nd, f.nm, f.bd, fun _ e => nomatch e⟩
theorem withT {hs gs : Side} {t : Option Int} (f : Fairish hs gs t) {k : Int} (k1 : 1 ≤ k) (k12 : k ≤ 12) : Fairish hs gs (some k) := ⟨f.h1, f.h4, f.g1, f.g4, f.nd, f.nm, f.bd, fun _ e => by cases e; exact ⟨k1, k12⟩⟩
theorem ld_someT {hs gs : Side} (f0 : Fairish hs gs none) {k : Int} (fk : Fairish hs gs (some k)) {g : Grid} {m R : Int} (G : Gridish g hs.length gs.length m) :
    ldI hs gs (some k) g ≤ R ↔ ldI hs gs none g ≤ R ∧ totI g ≤ R * k := by
  obtain ⟨⟨p, hp, ep⟩, up⟩ := ld_at fk G
  obtain ⟨⟨q, hq, eq⟩, uq⟩ := ld_at f0 G
  have k1 := (fk.tb k rfl).1
  have e : prT hs gs (some k) g = prT hs gs none g ++ [(totI g, k)] := by
    unfold prT totI
    rw [← all_cols G]
    simp [tabP]
  rw [e] at hp up
  have hT := up (totI g, k) (List.mem_append_right _ (List.mem_singleton.mpr rfl))
  have hS := up q (List.mem_append_left _ hq)
  have c : cl (totI g, k) ≤ R ↔ totI g ≤ R * k := by unfold cl; exact ceil_lt (by omega)
  rw [← c]
  constructor
  · intro h
    exact ⟨by omega, by omega⟩
  · rintro ⟨h1, h2⟩
    rcases List.mem_append.mp hp with hp | hp
    · have := uq p hp
      omega
    · rw [List.mem_singleton] at hp
      subst hp
      omega
theorem sum_zip_le {R : Int} (hR : 0 ≤ R) : ∀ {A : List Int} {B : List Int}, A.length = B.length → (∀ b ∈ B, 1 ≤ b ∧ b ≤ 4) → (∀ p ∈ A.zip B, cl p ≤ R) → A.sum ≤ R * (4 * (A.length : Int))
  | [], [], _, _, _ => by simp
  | a :: A, b :: B, h, hb, hz => by
    have ih := sum_zip_le hR (A := A) (B := B) (by simpa using h) (fun x hx => hb x (List.mem_cons_of_mem _ hx)) (fun p hp => hz p (by rw [List.zip_cons_cons]; exact List.mem_cons_of_mem _ hp))
    have h1 := hz (a, b) (by rw [List.zip_cons_cons]; exact List.mem_cons_self ..)
    have b1 := hb b (List.mem_cons_self ..)
    unfold cl at h1
    rw [ceil_lt (by simp only; omega)] at h1
    simp only at h1
    have h2 : R * b ≤ R * 4 := Int.mul_le_mul_of_nonneg_left b1.2 hR
    rw [List.sum_cons, List.length_cons, Int.natCast_add, Int.mul_add, Int.mul_add]
    omega
  | [], _ :: _, h, _, _ => by simp at h
  | _ :: _, [], h, _, _ => by simp at h
/-- the sides bear at most 16 meetings a round -/
theorem tot_le {hs gs : Side} (f : Fairish hs gs none) {g : Grid} {m R : Int} (G : Gridish g hs.length gs.length m) (h : ldI hs gs none g ≤ R) : totI g ≤ R * 16 := by
  obtain ⟨⟨q, hq, eq⟩, uq⟩ := ld_at f G
  have q0 : 0 ≤ ldI hs gs none g := by
    obtain ⟨p0, p1⟩ := pr_pos f G q hq
    rw [eq]
    unfold cl ceilI
    have := Int.ediv_le_ediv (show 0 < q.2 by omega) (show -q.1 ≤ 0 by omega)
    rw [Int.zero_ediv] at this
    omega
  have l := sum_zip_le (R := R) (by omega) (A := g.map List.sum) (B := boundsI hs) (by rw [List.length_map, G.rows, bounds_len]) (fun b hb => by
    unfold boundsI at hb
    obtain ⟨z, hz, rfl⟩ := List.mem_map.mp hb
    exact f.bd z (List.mem_append_left _ hz)) (fun p hp => by
      have := uq p (by unfold prT; exact List.mem_append_left _ (List.mem_append_left _ hp))
      omega)
  rw [List.length_map, G.rows] at l
  have h4 := f.h4
  have : R * (4 * (hs.length : Int)) ≤ R * 16 := Int.mul_le_mul_of_nonneg_left (by omega) (by omega)
  show (g.map List.sum).sum ≤ _
  omega
/-- the sides' load of something is something -/
theorem ld_pos {hs gs : Side} (f : Fairish hs gs none) {g : Grid} {m : Int} (G : Gridish g hs.length gs.length m) (h : 0 < totI g) : 0 < ldI hs gs none g := by
  refine Int.not_le.mp fun c => ?_
  have := tot_le f G c
  omega
/-- what is told -/
def needI (S T R : Int) : D := if T = 0 then .int 0 else if R < S then .none else .int (ceilI T R)
theorem ceil_big {n b : Int} (h0 : 0 < b) (h : b ≤ 100000000000000000000000000000000) {st : Sto} : F_ceiling [.fz (.int n), .fz (.int b)] st = .ok (.fz (.int (ceilI n b))) st := by
  have c : ∀ x, cDiv x b = true := fun x => decide_eq_true ⟨h0, lgN (by decide) (Nat.lt_of_le_of_lt (show b.natAbs ≤ 100000000000000000000000000000000 by omega) (by decide +kernel))⟩
  unfold F_ceiling fnD d_ceiling ceilI
  simp [c]
theorem is_int0 {v : Int} (h : 0 ≤ v) {st : Sto} : F_is_integer [.fz (.int v), .fz (.int 0), .fz .none] st = .ok (.fz (.bool true)) st := by
  unfold F_is_integer fnD d_is_integer
  simp [isi_int_int, isi_int_bool, h]
theorem total {g : Grid} {m n : Nat} {k : Int} (G : Gridish g m n k) (m4 : m ≤ 4) {st : Sto} : F_sum_of [.fz (gridD g)] st = .ok (.fz (.int (totI g))) st := by
  apply wR.eq
  have sr : ∀ s, srcT s (.fz (gridD g)) = some ⟨g.map rowD, none⟩ := fun s => rfl
  have su := fun s => sumO (ns := g.map List.sum) (st := s)
  have st_ : ∀ (r : List Int) s, fSumT (.fz (rowD r)) s = .ok (.fz (.int r.sum)) s := fun r s => sumT
  unfold F_sum_of d_sum_of totI
  simp [c_sum_of_1, sr]
  refine wR_lcM rowD g (fun r => .int r.sum) rfl (by rw [G.rows]; omega) (fun r hr => ?_) ?_
  · simp [wipeE, st_]
  · rw [show (g.map fun r => PyData.int r.sum) = intsD (g.map List.sum) by rw [intsD, List.map_map]; rfl]
    generalize intsD (g.map List.sum) = q at *
    simp [su]
theorem needed {hs gs : Side} {t : Option Int} {x : Str} (f : Fairish hs gs t) {g : Grid} (G : Gridish g hs.length gs.length TOPN) {R : Int} (R0 : 0 ≤ R) (R1 : R ≤ 100000000000000000000000000000000) {st : Sto} :
    F_tables_needed [.fz (fairD hs gs t x), .fz (gridD g), .fz (.int R)] st = .ok (.fz (needI (ldI hs gs none g) (totI g) R)) st := by
  apply wR.eq
  have f0 := noT f
  have ck := fun s => check f G (by decide) (x := x) (st := s)
  have cf := fun s => check_fair (hs := hs) (gs := gs) (t := t) (x := x) (st := s)
  have ii := fun s => is_int0 R0 (st := s)
  have too_ := fun s => total G f.h4 (st := s)
  have hM := ld_some f0 G
  rw [← needs_pr] at hM
  have lr := fun x s => least_rounds f0 G (x := x) hM (st := s)
  have ce := fun (h : 0 < R) s => ceil_big (n := totI g) h R1 (st := s)
  have lp := ld_pos f0 G
  have tn := tot_nn G
  have ho := fun s => hosts (hs := hs) (gs := gs) (t := t) (x := x) (st := s)
  have hg := fun s => guests (hs := hs) (gs := gs) (t := t) (x := x) (st := s)
  have ob := fun s => fair_ob (hs := hs) (gs := gs) (t := t) (x := x) (st := s)
  have mk : ∀ en s, en[0]? = some (some (.fz (fairD hs gs t x))) → wR noX (dMake 4 0 (frzOb 0 ns_Fair) F_Fairu_initu [.fz .none] (aCons (dProp 0 ns_Fair F_Fair_hosts (dVar 0)) (aCons (dProp 0 ns_Fair F_Fair_guests (dVar 0)) aNil)) en s) fun w s' => (∃ xn, w = .fz (fairD hs gs none xn)) ∧ s' = s := fun en s h => by
    have ha : aCons (dProp 0 ns_Fair F_Fair_hosts (dVar 0)) (aCons (dProp 0 ns_Fair F_Fair_guests (dVar 0)) aNil) en s = .ok [.fz (sideD hs), .fz (sideD gs)] s := by
      apply wR.eq
      simp [h, ob, ho, hg]
    obtain ⟨xn, e⟩ := madeN f0 ha
    exact wR.is e ⟨⟨xn, rfl⟩, rfl⟩
  unfold needI
  generalize ldI hs gs none g = S at *
  generalize totI g = T at *
  generalize gridD g = gd at *
  unfold F_tables_needed d_tables_needed F_check_planned d_check_planned F_check_number d_check_number
  by_cases c : T = 0
  · simp [cf, ck, ii, too_, c, fEq, scaD, eqS]
  · have hS := lp (by omega)
    simp [cf, ck, ii, too_, c, fEq, scaD, eqS]
    refine (mk _ _ rfl).use ?_
    rintro _ s ⟨⟨xn, rfl⟩, h5⟩
    subst h5
    by_cases d : R < S
    · simp [lr, d, c]
    · have ce' := ce (by omega)
      simp [lr, d, ce', c]
end K14
/-! MZa14: what is told is what is needed. -/
namespace K14
open PySem PySem.Spec PyProof.Rows L2 MG QD MU GM
theorem mem_le_sum : ∀ {l : List Int}, (∀ x ∈ l, 0 ≤ x) → ∀ x ∈ l, x ≤ l.sum
  | [], _, _, h => nomatch h
  | a :: l, h, x, hx => by
    have h0 := sum_nn (l := l) fun y hy => h y (List.mem_cons_of_mem _ hy)
    have ha := h a (List.mem_cons_self ..)
    rw [List.sum_cons]
    rcases List.mem_cons.mp hx with rfl | hx
    · omega
    · have := mem_le_sum (fun y hy => h y (List.mem_cons_of_mem _ hy)) x hx
      omega
theorem cl_le {p : Int × Int} (h0 : 0 ≤ p.1) (h1 : 1 ≤ p.2) : cl p ≤ p.1 := by
  unfold cl
  rw [ceil_lt (by omega)]
  have := Int.mul_le_mul_of_nonneg_left h1 h0
  omega
theorem ld_le_tot {hs gs : Side} (f : Fairish hs gs none) {g : Grid} {k : Int} (G : Gridish g hs.length gs.length k) : ldI hs gs none g ≤ totI g := by
  obtain ⟨⟨p, hp, e⟩, _⟩ := ld_at f G
  have pos := pr_pos f G
  rw [e]
  refine Int.le_trans (cl_le (pos p hp).1 (pos p hp).2) ?_
  unfold totI
  unfold prT at hp
  rcases List.mem_append.mp hp with hp | hp
  · rcases List.mem_append.mp hp with hp | hp
    · refine mem_le_sum (fun x hx => ?_) _ (List.of_mem_zip hp).1
      obtain ⟨r, hr, rfl⟩ := List.mem_map.mp hx
      exact sum_nn (G.least r hr)
    · rw [← all_cols G]
      exact mem_le_sum (cols_nn G) _ (List.of_mem_zip hp).1
  · cases hp
theorem nums {S T R : Int} (h : S ≤ R) (T0 : 0 ≤ T) (S0 : 0 < T → 0 < S) (T1 : T ≤ R * 16) : ∃ N : Int, needI S T R = .int N ∧ 0 ≤ N ∧ N ≤ 16 ∧ T ≤ N * R ∧ (0 < N → (N - 1) * R < T) := by
  unfold needI
  by_cases c : T = 0
  · rw [if_pos c]
    exact ⟨0, rfl, by decide, by decide, by rw [c, Int.zero_mul]; exact Int.le_refl _, fun h => by cases h⟩
  · rw [if_neg c, if_neg (by omega)]
    have hR : 0 < R := by have := S0 (by omega); omega
    refine ⟨ceilI T R, rfl, ?_, ?_, (ceil_lt hR).mp (Int.le_refl _), fun _ => ?_⟩
    · have : ¬ ceilI T R ≤ 0 := by rw [ceil_lt hR, Int.zero_mul]; omega
      omega
    · rw [ceil_lt hR, Int.mul_comm]; exact T1
    · refine Int.not_le.mp fun h => ?_
      have := (ceil_lt hR).mpr h
      omega
theorem within {v a b : Int} {st : Sto} : F_l_within [.fz (.int v), .fz (.int a), .fz (.int b)] st = .ok (.fz (.bool (decide (a ≤ v) && decide (v ≤ b)))) st := by
  unfold F_l_within fnD d_l_within
  by_cases h1 : a ≤ v <;> by_cases h2 : v ≤ b <;> simp [isi_int_int, isi_int_bool, h1, h2]
theorem is_needed {hs gs : Side} {t : Option Int} (f : Fairish hs gs t) {g : Grid} (G : Gridish g hs.length gs.length TOPN) {R : Int} (R0 : 0 ≤ R) (R1 : R ≤ 100000000000000000000000000000000) {st : Sto} :
    F_l_is_needed [.fz (.tuple [sideD hs, sideD gs, deskD t]), .fz (gridD g), .fz (.int R), .fz (needI (ldI hs gs none g) (totI g) R)] st = .ok (.fz (.bool true)) st := by
  apply wR.eq
  have f0 := noT f
  have i0 : ∀ s, fIxT (.fz (.tuple [sideD hs, sideD gs, deskD t])) (.fz (.int 0)) s = .ok (.fz (sideD hs)) s := fun s => rfl
  have i1 : ∀ s, fIxT (.fz (.tuple [sideD hs, sideD gs, deskD t])) (.fz (.int 1)) s = .ok (.fz (sideD gs)) s := fun s => rfl
  have du : ∀ s, F_l_due [.fz (.tuple [sideD hs, sideD gs, .none]), .fz (gridD g)] s = .ok (.fz (.int (ldI hs gs none g))) s := fun s => due f0 G (st := s)
  have ir := fun s => in_rows (g := g) (by have := G.rows; have := f.h4; omega) (st := s)
  have su : ∀ s, fSum (.own (intsD (g.map List.sum))) s = .ok (.fz (.int (totI g))) s := fun s => sumO
  have lT := ld_le_tot f0 G
  have lp := ld_pos f0 G
  have tn := tot_nn G
  have tl := fun h => tot_le f0 G (R := R) h
  have ldk := fun (k : Int) (k1 : 1 ≤ k) (k12 : k ≤ 12) => ld_someT f0 (withT f k1 k12) G (R := R)
  have ld := fun (k : Int) (k1 : 1 ≤ k) (k12 : k ≤ 12) x s => loadOf (withT f k1 k12) G (by decide) (x := x) (st := s)
  have mk : ∀ (k : Int) (a : Dn), 1 ≤ k → k ≤ 12 → ∀ en s, en[0]? = some (some (.fz (.tuple [sideD hs, sideD gs, deskD t]))) → a en s = .ok (.fz (.int k)) s → wR noX (dMake 4 0 (frzOb 0 ns_Fair) F_Fairu_initu [] (aCons (dOp fIxT (dVar 0) (dC (.int 0))) (aCons (dOp fIxT (dVar 0) (dC (.int 1))) (aCons a aNil))) en s) fun w s' => (∃ xn, w = .fz (fairD hs gs (some k) xn)) ∧ s' = s := fun k a k1 k12 en s h h3 => by
    have ha : aCons (dOp fIxT (dVar 0) (dC (.int 0))) (aCons (dOp fIxT (dVar 0) (dC (.int 1))) (aCons a aNil)) en s = .ok [.fz (sideD hs), .fz (sideD gs), .fz (deskD (some k))] s := by
      apply wR.eq
      simp [h, i0, i1, h3]
      rfl
    obtain ⟨xn, e⟩ := made (withT f k1 k12) ha
    exact wR.is e ⟨⟨xn, rfl⟩, rfl⟩
  have wi := fun v a b s => within (v := v) (a := a) (b := b) (st := s)
  generalize hS : ldI hs gs none g = S at *
  generalize totI g = T at *
  generalize intsD (g.map List.sum) = ig at *
  generalize gridD g = gd at *
  by_cases c : R < S
  · have e : needI S T R = .none := by unfold needI; rw [if_neg (by omega), if_pos c]
    rw [e]
    generalize PyData.tuple [sideD hs, sideD gs, deskD t] = pd at *
    unfold F_l_is_needed d_l_is_needed
    simp [ir, su, i0, i1, sz_le, du, c]
  · obtain ⟨N, e, N0, N16, TN, NT⟩ := nums (show S ≤ R by omega) tn lp (tl (by omega))
    rw [e]
    have cm1 : cMul N R = true := cMul_s (small_abs (by omega) (by omega)) (Nat.le_trans (show R.natAbs ≤ 100000000000000000000000000000000 by omega) (by decide +kernel))
    have cm2 : cMul (N - 1) R = true := cMul_s (small_abs (by omega) (by omega)) (Nat.le_trans (show R.natAbs ≤ 100000000000000000000000000000000 by omega) (by decide +kernel))
    generalize PyData.tuple [sideD hs, sideD gs, deskD t] = pd at *
    unfold F_l_is_needed d_l_is_needed
    have e3 : ¬ N * R < T := by omega
    by_cases z : 0 < N
    · have NT' := NT z
      have last : ∀ s : Sto, wS noX ((sRet (dOr (dNot (dChain fLe fLe (dC (.int 2)) (dVar 3) (dC (.int 13)))) (dOp fGt (dCall 2 F_load [] (aCons (dMake 4 0 (frzOb 0 ns_Fair) F_Fairu_initu [] (aCons (dOp fIxT (dVar 0) (dC (.int 0))) (aCons (dOp fIxT (dVar 0) (dC (.int 1))) (aCons (dOp fSub (dVar 3) (dC (.int 1))) aNil)))) (aCons (dVar 1) aNil))) (dVar 2)))) [some (.fz pd), some (.fz gd), some (.fz (.int R)), some (.fz (.int N)), some (.fz (.int T)), some (.fz (.int S))] s) (fun _ _ => False) (fun w s' => w = .fz (.bool true) ∧ s' = s) (fun _ _ => False) (fun _ _ => False) := by
        intro s
        by_cases c2 : 2 ≤ N ∧ N ≤ 13
        · have gt : R < ldI hs gs (some (N - 1)) g := by
            refine Int.not_le.mp fun h => ?_
            have := ((ldk (N - 1) (by omega) (by omega)).mp h).2
            rw [Int.mul_comm] at this
            omega
          simp [c2.1, c2.2]
          refine (mk (N - 1) (dOp fSub (dVar 3) (dC (.int 1))) (by omega) (by omega) _ _ rfl (by simp)).use ?_
          rintro _ s9 ⟨⟨xn, rfl⟩, h9⟩
          subst h9
          simp [ld (N - 1) (by omega) (by omega), gt]
        · by_cases c3 : 2 ≤ N
          · simp [c3, show ¬ N ≤ 13 by omega]
          · simp [c3]
      generalize (sRet (dOr (dNot (dChain fLe fLe (dC (.int 2)) (dVar 3) (dC (.int 13)))) (dOp fGt (dCall 2 F_load [] (aCons (dMake 4 0 (frzOb 0 ns_Fair) F_Fairu_initu [] (aCons (dOp fIxT (dVar 0) (dC (.int 0))) (aCons (dOp fIxT (dVar 0) (dC (.int 1))) (aCons (dOp fSub (dVar 3) (dC (.int 1))) aNil)))) (aCons (dVar 1) aNil))) (dVar 2)))) = TT at *
      simp [ir, su, i0, i1, sz_le, du, c, wi, N0, N16, cm1, cm2, e3, z, show ¬ T ≤ (N - 1) * R by omega, show 1 ≤ N by omega]
      by_cases n12 : N ≤ 12
      · rw [if_pos n12]
        have le : ¬ R < ldI hs gs (some N) g := by
          have := (ldk N (by omega) n12).mpr ⟨by omega, by rw [Int.mul_comm]; exact TN⟩
          omega
        refine (mk N (dVar 3) (by omega) n12 _ _ rfl rfl).use ?_
        rintro _ s9 ⟨⟨xn, rfl⟩, h9⟩
        subst h9
        simp [ld N (by omega) n12, le]
        refine (last _).use (fun _ _ h => h.elim) ?_ (fun _ _ h => h.elim) (fun _ _ h => h.elim)
        rintro _ _ ⟨rfl, rfl⟩
        simp
      · rw [if_neg n12]
        refine (last _).use (fun _ _ h => h.elim) ?_ (fun _ _ h => h.elim) (fun _ _ h => h.elim)
        rintro _ _ ⟨rfl, rfl⟩
        simp
    · have : N = 0 := by omega
      subst this
      have T00 : T ≤ 0 := by rw [Int.zero_mul] at TN; exact TN
      simp [ir, su, i0, i1, sz_le, du, c, wi, cm1, cm2, e3]
      exact T00
end K14
/-! LW14: the law. -/
namespace K14
open PySem PySem.Spec PyProof.Rows L2 MG QD MU GM
theorem need_sh {S T R : Int} (T0 : 0 ≤ T) (S0 : 0 < T → 0 < S) (T1 : S ≤ R → T ≤ R * 16) : Sh (needI S T R) 0 0 := by
  by_cases c : S ≤ R
  · obtain ⟨N, e, N0, N16, _, _⟩ := nums c T0 S0 (T1 c)
    rw [e]
    exact Sh.int (Nat.lt_of_le_of_lt (show N.natAbs ≤ 16 by omega) (by decide +kernel))
  · unfold needI
    by_cases z : T = 0
    · rw [if_pos z]; exact Sh.int (by decide +kernel)
    · rw [if_neg z, if_pos (by omega)]; exact Sh.non
theorem round {hs gs : Side} {t : Option Int} {x : Str} (f : Fairish hs gs t) {g : Grid} (G : Gridish g hs.length gs.length TOPN) {R : Int} (R0 : 0 ≤ R) (R1 : R ≤ 100000000000000000000000000000000) {st s : Sto} {n N : Nat} (j : JR n st s N) (hN : N + 10 ≤ 900000)
    {v4 v6 v7 : Option QD.W} {Gg : En → Sto → Prop} {R' : QD.W → Sto → Prop} {B C : En → Sto → Prop}
    (k : ∀ v6 v7 s', JR n st s' (N + 1) → Gg [some (.loc n), some (.fz (.tuple [sideD hs, sideD gs, deskD t])), some (.fz (gridD g)), some (.fz (fairD hs gs t x)), v4, some (.fz (.int R)), v6, v7] s') :
    wS noX (b_l_right_1 [some (.loc n), some (.fz (.tuple [sideD hs, sideD gs, deskD t])), some (.fz (gridD g)), some (.fz (fairD hs gs t x)), v4, some (.fz (.int R)), v6, v7] s) Gg R' B C := by
  have i0 : ∀ s, fIxT (.fz (.tuple [sideD hs, sideD gs, deskD t])) (.fz (.int 0)) s = .ok (.fz (sideD hs)) s := fun s => rfl
  have i1 : ∀ s, fIxT (.fz (.tuple [sideD hs, sideD gs, deskD t])) (.fz (.int 1)) s = .ok (.fz (sideD gs)) s := fun s => rfl
  have f0 := noT f
  have tn := fun s => needed f G R0 R1 (x := x) (st := s)
  have isn := fun s => is_needed f G R0 R1 (st := s)
  have sh := need_sh (S := ldI hs gs none g) (T := totI g) (R := R) (tot_nn G) (ld_pos f0 G) (fun h => tot_le f0 G h)
  have rp : ∀ s, fRepr (.fz (needI (ldI hs gs none g) (totI g) R)) s = .ok (.fz (.str (needI (ldI hs gs none g) (totI g) R).shown)) s := fun s => sh.rep (by decide) (by decide) rfl
  obtain ⟨r, s', ep, r0, r3, j'⟩ := pour (m := 3) j.2 (by omega) (by omega) (by omega)
  obtain ⟨t', ft, et⟩ : ∃ t' : Option Int, Fairish hs gs t' ∧ atI [PyData.none, PyData.int 1, PyData.int 12] r = some (deskD t') := by
    have : r = 0 ∨ r = 1 ∨ r = 2 := by omega
    rcases this with rfl | rfl | rfl
    · exact ⟨none, f0, rfl⟩
    · exact ⟨some 1, withT f (by decide) (by decide), rfl⟩
    · exact ⟨some 12, withT f (by decide) (by decide), rfl⟩
  have tn' := fun x s => needed ft G R0 R1 (x := x) (st := s)
  have mk : ∀ en, en[0]? = some (some (.loc n)) → en[1]? = some (some (.fz (.tuple [sideD hs, sideD gs, deskD t]))) → wR noX (dMake 4 0 (frzOb 0 ns_Fair) F_Fairu_initu [] (aCons (dOp fIxT (dVar 1) (dC (.int 0))) (aCons (dOp fIxT (dVar 1) (dC (.int 1))) (aCons (dOp fIxL (dN fLst (aCons (dC .none) (aCons (dC (.int 1)) (aCons (dC (.int 12)) aNil)))) (dCall 2 F_l_pour [] (aCons (dVar 0) (aCons (dC (.int 3)) aNil)))) aNil))) en s) fun w s9 => (∃ xn, w = .fz (fairD hs gs t' xn)) ∧ s9 = s' := fun en h0 h1 => by
    have ha : (aCons (dOp fIxT (dVar 1) (dC (.int 0))) (aCons (dOp fIxT (dVar 1) (dC (.int 1))) (aCons (dOp fIxL (dN fLst (aCons (dC .none) (aCons (dC (.int 1)) (aCons (dC (.int 12)) aNil)))) (dCall 2 F_l_pour [] (aCons (dVar 0) (aCons (dC (.int 3)) aNil)))) aNil))) en s = .ok [.fz (sideD hs), .fz (sideD gs), .fz (deskD t')] s' := by
      apply wR.eq
      simp [h0, h1, i0, i1, sz_le, ep, et]
    obtain ⟨xn, e⟩ := made ft ha
    exact wR.is e ⟨⟨xn, rfl⟩, rfl⟩
  have kn : ∀ x en s, en[5]? = some (some (.fz (.int R))) → en[7]? = some (some (.fz (fairD hs gs t' x))) → en[2]? = some (some (.fz (gridD g))) → dCallK 3 3 [1, 2, 0] F_tables_needed (aCons (dVar 5) (aCons (dVar 7) (aCons (dVar 2) aNil))) en s = .ok (.fz (needI (ldI hs gs none g) (totI g) R)) s := fun x en s h5 h7 h2 => by
    unfold dCallK aCons dVar aNil
    simp only [h5, h7, h2, Rt.bind_ok]
    rw [if_pos ⟨rfl, rfl⟩]
    exact tn' x s
  generalize needI (ldI hs gs none g) (totI g) R = d at *
  generalize d.shown = sd at *
  generalize PyData.tuple [sideD hs, sideD gs, deskD t] = pd at *
  unfold b_l_right_1
  simp [tn, isn]
  refine (mk _ rfl rfl).use ?_
  rintro _ s9 ⟨⟨xn, rfl⟩, h9⟩
  subst h9
  have kn' := kn xn
  simp [kn', rp, fEq, scaD, eqS]
  exact k _ _ _ (jr_trans j j')
theorem right {st : Sto} {n : Nat} (j : JAt st n 0) : wR noX (F_l_right [.loc n] st) fun w s => w = .fz (.bool true) ∧ s.length = st.length := by
  obtain ⟨hs, gs, t, s1, e1, f, h4, g4, j1⟩ := parts (a := 4) (b := 4) j (by decide) (by decide) (by decide) (by decide) (by decide)
  have e1' : F_l_parts [.loc n, .fz (.int 4), .fz (.int 4)] st = .ok (.fz (.tuple [sideD hs, sideD gs, deskD t])) s1 := e1
  have i0 : ∀ s, fIxT (.fz (.tuple [sideD hs, sideD gs, deskD t])) (.fz (.int 0)) s = .ok (.fz (sideD hs)) s := fun s => rfl
  have i1 : ∀ s, fIxT (.fz (.tuple [sideD hs, sideD gs, deskD t])) (.fz (.int 1)) s = .ok (.fz (sideD gs)) s := fun s => rfl
  have gr := fun (st' : Sto) (N' : Nat) (a : Int) (j' : JAt st' n N') (h' : N' + 1000 ≤ 900000) (a0 : 0 ≤ a) (a2 : a ≤ 2) => grid (hs := hs) (gs := gs) (dk := deskD t) (way := a) j' h' a0 a2 h4 g4
  have f0 := noT f
  have mkN : ∀ en s, en[1]? = some (some (.fz (.tuple [sideD hs, sideD gs, deskD t]))) → wR noX (dMake 4 0 (frzOb 0 ns_Fair) F_Fairu_initu [.fz .none] (aCons (dOp fIxT (dVar 1) (dC (.int 0))) (aCons (dOp fIxT (dVar 1) (dC (.int 1))) aNil)) en s) fun w s' => (∃ xn, w = .fz (fairD hs gs none xn)) ∧ s' = s := fun en s h => by
    have ha : aCons (dOp fIxT (dVar 1) (dC (.int 0))) (aCons (dOp fIxT (dVar 1) (dC (.int 1))) aNil) en s = .ok [.fz (sideD hs), .fz (sideD gs)] s := by
      apply wR.eq
      simp [h, i0, i1]
    obtain ⟨xn, e⟩ := madeN f0 ha
    exact wR.is e ⟨⟨xn, rfl⟩, rfl⟩
  obtain ⟨pd, hpd⟩ : ∃ pd, pd = PyData.tuple [sideD hs, sideD gs, deskD t] := ⟨_, rfl⟩
  rw [← hpd] at e1' i0 i1 gr mkN
  unfold F_l_right d_l_right
  simp [e1']
  refine (pour0 (m := 3) j1.2 (by omega) (by omega) (by omega)).use ?_
  rintro _ s2 ⟨⟨a, rfl, a0, a1⟩, j2⟩
  simp
  refine (gr s2 _ a j2.2 (by omega) a0 (by omega)).use ?_
  rintro _ s3 ⟨⟨g, rfl, G⟩, j3⟩
  obtain ⟨x, ex⟩ := l_fair f (st := s3)
  rw [← hpd] at ex
  simp [ex]
  refine (mkN _ _ rfl).use ?_
  rintro _ s4 ⟨⟨xn, rfl⟩, h9⟩
  subst h9
  have ld := fun s => loadOf f0 G (by decide) (x := xn) (st := s)
  obtain ⟨S0, S1⟩ := ld_top f0 G (by decide)
  have S2 : ldI hs gs none g ≤ 16000000000000000000000000000000 := Int.le_trans S1 (by decide)
  have jj := jr_trans (jr_trans j1 j2) j3
  have rd := fun (R : Int) (R0 : 0 ≤ R) (R1 : R ≤ 100000000000000000000000000000000) (s : Sto) (M : Nat) (jm : JR n st s M) (hM : M + 10 ≤ 900000) (v4 v6 v7 : Option QD.W) (Gg : En → Sto → Prop) (R' : QD.W → Sto → Prop) (B C : En → Sto → Prop) => round f G R0 R1 (x := x) jm hM (v4 := v4) (v6 := v6) (v7 := v7) (Gg := Gg) (R' := R') (B := B) (C := C)
  rw [← hpd] at rd
  generalize ldI hs gs none g = S at *
  have c2 : cMul 2 S = true := cMul_s (by decide +kernel) (Nat.le_trans (show S.natAbs ≤ 16000000000000000000000000000000 by omega) (by decide +kernel))
  have c31 : cPow 10 31 = true := by decide +kernel
  simp [ld, c2]
  refine (pour0 (m := 60) j3.2 (by omega) (by omega) (by omega)).use ?_
  rintro _ s5 ⟨⟨b, rfl, b0, b1⟩, j5⟩
  have j6 := jr_trans jj j5
  simp [c31, sz_le]
  obtain ⟨m, hm, m0, m1⟩ : ∃ m : Int, (if 1 < S then S - 1 else 0) = m ∧ 0 ≤ m ∧ m ≤ 16000000000000000000000000000000 := ⟨_, rfl, by split <;> omega, by split <;> omega⟩
  rw [hm]
  have all : ∀ R ∈ [0, S, S + 1, m, 2 * S, b, 10000000000000000000000000000000], 0 ≤ R ∧ R ≤ 100000000000000000000000000000000 := fun R hR => by
    simp only [List.mem_cons, List.not_mem_nil, or_false] at hR
    rcases hR with rfl | rfl | rfl | rfl | rfl | rfl | rfl
    all_goals omega
  refine wS_for PyData.int [0, S, S + 1, m, 2 * S, b, 10000000000000000000000000000000] (fun i en s => ∃ v5 v6 v7, en = [some (.loc n), some (.fz pd), some (.fz (gridD g)), some (.fz (fairD hs gs t x)), some (.fz (.int S)), v5, v6, v7] ∧ JR n st s (1000 + i)) rfl ⟨_, _, _, rfl, jr_mono j6 (by omega)⟩ ?_ ?_
  · rintro i R en s hR ⟨v5, v6, v7, rfl, j7⟩
    obtain ⟨R0, R1⟩ := all R (List.mem_of_getElem? hR)
    have hi := (List.getElem?_eq_some_iff.mp hR).1
    simp only [List.length_cons, List.length_nil] at hi
    simp only [gN_eq, wR_ok, List.set_cons_succ, List.set_cons_zero]
    refine rd R R0 R1 s _ j7 (by omega) _ _ _ _ _ _ _ ?_
    intro v6 v7 s' j8
    exact ⟨_, _, _, rfl, j8⟩
  · rintro en s ⟨v5, v6, v7, rfl, j7⟩
    have ls := jr_len j7
    simp [ls]
theorem law_ok (ns : List Int) (h : ns.length ≤ 63) (hb : ∀ z ∈ ns, Builtin.Int.intBits z ≤ 1048576) : F_law [.fz (roD (ns.map PyData.int))] [] = .ok (.fz (.bool true)) [] := by
  apply wR.eq
  have hl : ∀ s, fLen (.fz (roD (ns.map PyData.int))) s = .ok (.fz (.int (ns.length : Nat))) s := fun s => by unfold fLen; simp
  have jg := fun (i : Nat) (hi : i < 63) s => jug h (i := (i : Int)) (by omega) (by omega) (st := s)
  generalize roD (ns.map PyData.int) = ro at *
  have cnt : ∃ k : Nat, (if 2 < (if (5 : Int) < (ns.length : Int) then 5 else (ns.length : Int)) then (if (5 : Int) < (ns.length : Int) then 5 else (ns.length : Int)) else 2) = (k : Int) ∧ k ≤ 5 := by
    refine ⟨(if 2 < (if (5 : Int) < (ns.length : Int) then 5 else (ns.length : Int)) then (if (5 : Int) < (ns.length : Int) then 5 else (ns.length : Int)) else 2).toNat, ?_, ?_⟩ <;> split <;> split <;> omega
  obtain ⟨k, hk, k63⟩ := cnt
  have hr : r1S [(k : Int)] = some (rngS 0 k) := r1S_k (by omega)
  unfold F_law d_law
  simp [hl, hk, hr]
  refine wS_rng (l0 := []) k (fun i en s => s.length = i ∧ ∃ v, en = [some (.fz ro), v]) ⟨rfl, _, rfl⟩ ?_ (fun en s _ => by simp)
  rintro i en s hi ⟨hs, v, rfl⟩
  unfold b_law_1
  simp
  refine (jg i (by omega) s).use ?_
  rintro _ s ⟨rfl, a, b, rfl, ok⟩
  simp
  have j : JAt (s ++ [.lst [.int a, .int b, .int 0]]) s.length 0 := ⟨a, b, 0, get_last rfl, ok⟩
  refine (right j).use ?_
  rintro _ s' ⟨rfl, ls⟩
  simp [ls, hs]
end K14
/-! QT: the top: from the law's denotation to the law's promise. -/
namespace TopG
open PySem PySem.Spec PyProof.Rows L2 MG
section
variable {P : Program} {w : World} {K : PySem.W.Frag} {mg mb : Str → Option Value}
variable {k : Nat} {fa a : Addr} {fd : FuncData} {x : Str} {sp : Sp} {s₁ : Shared}
variable {vs : List Value} {ns : List Int}
/-- what stands at the law's call, from a view H in which at most the script is tracked -/
theorem env_top {H : Hp} (KX : K.In s₁.heap) (hns : s₁.heap.Ns mainGlobals mg)
    (hb : s₁.heap.Ns builtinsNs mb) (hbb : ∀ x : Str, x ≠ "__name__" → mb x = bootBuiltins x)
    (hlim : s₁.heap.NoLimit) (hg : s₁.gens = #[])
    (ha : s₁.heap.get? a = some { cls := .type "list", data := .seq vs.toArray })
    (hok : HOk P w H s₁.heap) (one : ∀ b, b ≠ a → H b = none)
    (own : H a ≠ none → K.lookup a = none) :
    K.In (hidT s₁.heap H) ∧ (hidT s₁.heap H).Ns mainGlobals mg ∧
      Env0 P w K mg (hidT s₁.heap H) callerA [] s₁ H := by
  have seqA : ∀ (b : Addr) (o : Obj) (es : Array DictEntry) (ep : Nat),
      s₁.heap.get? b = some o → o.data = .dict es ep → H b = none := by
    intro b o es ep e d
    refine one b fun q => ?_
    rw [q, ha] at e
    obtain rfl := Option.some.inj e
    exact nomatch (show Data.seq vs.toArray _ = Data.dict es ep from d)
  have ns1 : ∀ (b : Addr) (m : Str → Option Value),
      s₁.heap.Ns b m → (hidT s₁.heap H).Ns b m := by
    rintro b m ⟨o, es, ep, e, d, r⟩
    exact ⟨o, es, ep, hidT_get e (seqA b o es ep e d), d, r⟩
  have kin : K.In (hidT s₁.heap H) := by
    intro b o e
    refine hidT_get (KX b o e) ?_
    by_cases hb : b = a
    · subst hb
      by_cases hn : H b = none
      · exact hn
      · rw [own hn] at e
        exact nomatch e
    · exact one b hb
  obtain ⟨mc, c1, c2⟩ := hlim
  have md : Mod K mg (hidT s₁.heap H) :=
    ⟨kin, ns1 _ _ hns, ⟨mb, ns1 _ _ hb, hbb⟩, mc, ns1 _ _ c1, c2⟩
  exact ⟨kin, ns1 _ _ hns, rfl, md, fun b o e => of_hidT e,
    Nat.le_of_eq (hidT_size _ _), trivial, (fun b hb => nomatch hb), hok, .of_eq hg⟩
/-- the law's def, called from the top -/
theorem run_top {H : Hp} (KX : K.In s₁.heap) (hns : s₁.heap.Ns mainGlobals mg)
    (hb : s₁.heap.Ns builtinsNs mb) (hbb : ∀ x : Str, x ≠ "__name__" → mb x = bootBuiltins x)
    (hlim : s₁.heap.NoLimit) (hg : s₁.gens = #[])
    (ha : s₁.heap.get? a = some { cls := .type "list", data := .seq vs.toArray })
    (hok : HOk P w H s₁.heap) (one : ∀ b, b ≠ a → H b = none)
    (own : H a ≠ none → K.lookup a = none) (frz : ∀ b, H b = none ∨ ∃ o xs, H b = some (.frz o (.lst xs)))
    (hr : Room k callerA)
    (F : ∀ base : Heap, K.In base → base.Ns mainGlobals mg →
      FnG P w K mg base CX0 k fa fd [x] sp)
    (hbind : ∀ (s : Shared) (u : Value), BindsTo s fd ⟨[u], []⟩ [(x, u)])
    (hsp : sp [.ref a] H (fun v _ => v = .bl true) fun _ _ _ => False) :
    codeAny (model P w) callerA (.call (.ref fa) ⟨[.ref a], []⟩)
      (fun r s' => r = .ok (.ret (.bool true)) ∧ OldK s₁.heap s'.heap ∧
        s'.os = s₁.os ∧ AllBare s'.gens) s₁ := by
  obtain ⟨kin, nsm, e0⟩ := env_top KX hns hb hbb hlim hg ha hok one own
  have run := (F _ kin nsm).run callerA [] s₁ H ⟨[.ref a], []⟩ [.ref a] [.ref a] _ _ rfl hr e0
    (hbind s₁ (.ref a)) (.cons rfl .nil) hsp
  refine codeAny_mono run fun r s' h => ?_
  match r, h with
  | .error e, h => exact h.elim
  | .ok (.ret u), h =>
    obtain ⟨v, H', os, bare, un, hok', ru, ev⟩ := h
    have ev' : v = .bl true := ev
    subst ev'
    obtain rfl : u = Value.bool true := ru
    refine ⟨rfl, OldK.of_keep (fun b o e => ?_), os, bare⟩
    rcases frz b with z | ⟨ob, xs, z⟩
    · exact un.keep b o e z (fun m => nomatch m) (fun m => nomatch m)
    · obtain ⟨e1, _⟩ := hok b _ z
      obtain ⟨e2, _⟩ := hok' b _ (un.frzs b ob _ z)
      rw [e1] at e
      obtain rfl := Option.some.inj e
      exact e2
/-- the script is tracked, unless it is one of the module's own objects -/
theorem call_top (KX : K.In s₁.heap) (hns : s₁.heap.Ns mainGlobals mg)
    (hb : s₁.heap.Ns builtinsNs mb) (hbb : ∀ x : Str, x ≠ "__name__" → mb x = bootBuiltins x)
    (hlim : s₁.heap.NoLimit) (hg : s₁.gens = #[])
    (ha : s₁.heap.get? a = some { cls := .type "list", data := .seq vs.toArray })
    (hi : IntsAre vs ns) (hl : ns.length ≤ sizeLine) (hr : Room k callerA)
    (F : ∀ base : Heap, K.In base → base.Ns mainGlobals mg →
      FnG P w K mg base CX0 k fa fd [x] sp)
    (hbind : ∀ (s : Shared) (u : Value), BindsTo s fd ⟨[u], []⟩ [(x, u)])
    (hsp : ∀ H : Hp, SqL K H a (ns.map V.int) →
      sp [.ref a] H (fun v _ => v = .bl true) fun _ _ _ => False) :
    codeAny (model P w) callerA (.call (.ref fa) ⟨[.ref a], []⟩)
      (fun r s' => r = .ok (.ret (.bool true)) ∧ OldK s₁.heap s'.heap ∧
        s'.os = s₁.os ∧ AllBare s'.gens) s₁ := by
  have vi := vals_ints hi
  have lv := hi.length
  cases hk : K.lookup a with
  | some o =>
    have e := KX a o hk
    rw [ha] at e
    obtain rfl := Option.some.inj e
    have sq : SqL K (fun _ => none) a (ns.map V.int) :=
      .inr ⟨_, vs.toArray, _, hk, rfl, rfl, rfl, by rw [List.size_toArray, lv]; exact hl, vi⟩
    exact run_top (H := fun _ => none) KX hns hb hbb hlim hg ha (fun b u z => nomatch z)
      (fun _ _ => rfl) (fun z => absurd rfl z) (fun _ => .inl rfl) hr F hbind (hsp _ sq)
  | none =>
    let o : Obj := { cls := .type "list", data := .seq vs.toArray }
    let H : Hp := fun b => if b = a then some (.frz o (.lst (ns.map V.int))) else none
    have Ha : H a = some (.frz o (.lst (ns.map V.int))) := if_pos rfl
    have Hn : ∀ b, b ≠ a → H b = none := fun b hb => if_neg hb
    refine run_top (H := H) KX hns hb hbb hlim hg ha (fun b u z => ?_) Hn (fun _ => hk)
      (fun b => ?_) hr F hbind (hsp H (.inl (.inr ⟨o, Ha⟩)))
    · by_cases hba : b = a
      · subst hba
        rw [Ha] at z
        obtain rfl := Option.some.inj z
        exact ⟨ha, by rw [List.length_map]; exact hl, vs, _, vi, ha⟩
      · rw [Hn b hba] at z
        exact nomatch z
    · by_cases hba : b = a
      · subst hba
        exact .inr ⟨_, _, Ha⟩
      · exact .inl (Hn b hba)
end
/-- the goal that the head leaves, from the law's promise -/
theorem walkG {l : PySem.W.OpenLaw} {n k : Nat} {q : Program} {loose : List Str}
    {XP : (Str → Option Value) → Heap → Prop} {YP : World → Heap → Prop} {d : DefRec}
    {K : Params → PySem.W.Frag} {sp : PySem.W.Frag → Sp} {x : Str}
    (hn : l.most = some n) (hn2 : n ≤ sizeLine) (hdf : d.params.defaults = [])
    (hr : Room k callerA) (hY : ∀ (w : World) (h : Heap), YP w h → (K w.params).In h)
    (F : ∀ (w : World) (mg : Str → Option Value) (fa : Addr) (h : Heap),
      (K w.params).In h → h.Ns mainGlobals mg → mg d.name = some (.ref fa) →
      ∃ fd : FuncData, (∀ (s : Shared) (u : Value), BindsTo s fd ⟨[u], []⟩ [(x, u)]) ∧
        ∀ base : Heap, (K w.params).In base → base.Ns mainGlobals mg →
          FnG l.prog w (K w.params) mg base CX0 k fa fd [x] (sp (K w.params)))
    (hsp : ∀ (K : PySem.W.Frag) (H : Hp) (a : Addr) (ns : List Int), ns.length ≤ n →
      SqL K H a (ns.map V.int) →
      sp K [.ref a] H (fun v _ => v = .bl true) fun _ _ _ => False) :
    PySem.W.WalkO q loose XP YP l.row.toRowW d [] (fun f vs => PySem.call f vs) := by
  refine Att.attach_call hn hdf ?_
  intro w s₀ s₁ mg mb fa o pm cd doc a vs ns G Y ho hd hcd hmg hobj hints hlen hg
  have KX := hY w _ Y
  obtain ⟨fd, hb, hF⟩ := F w mg fa _ KX G.T.g hmg
  exact call_top KX G.T.g G.T.b G.T.builtins G.T.nolimit hg hobj hints
    (Nat.le_trans hlen hn2) hr hF hb (fun H hS => hsp _ H a ns hlen hS)
theorem walkGB {l : PySem.W.OpenLaw} {n k : Nat} {q : Program} {loose : List Str}
    {XP : (Str → Option Value) → Heap → Prop} {YP : World → Heap → Prop} {d : DefRec}
    {K : Params → PySem.W.Frag} {sp : PySem.W.Frag → Sp} {x : Str}
    (hn : l.most = some n) (hn2 : n ≤ sizeLine) (hdf : d.params.defaults = [])
    (hr : Room k callerA) (hY : ∀ (w : World) (h : Heap), YP w h → (K w.params).In h)
    (F : ∀ (w : World) (mg : Str → Option Value) (fa : Addr) (h : Heap),
      (K w.params).In h → h.Ns mainGlobals mg → mg d.name = some (.ref fa) →
      ∃ fd : FuncData, (∀ (s : Shared) (u : Value), BindsTo s fd ⟨[u], []⟩ [(x, u)]) ∧
        ∀ base : Heap, (K w.params).In base → base.Ns mainGlobals mg →
          FnG l.prog w (K w.params) mg base CX0 k fa fd [x] (sp (K w.params)))
    (hsp : ∀ (K : PySem.W.Frag) (H : Hp) (a : Addr) (ns : List Int), ns.length ≤ n → (∀ z ∈ ns, Builtin.Int.intBits z ≤ 1048576) →
      SqL K H a (ns.map V.int) →
      sp K [.ref a] H (fun v _ => v = .bl true) fun _ _ _ => False) :
    PySem.W.WalkO q loose XP YP l.row.toRowW d [] (fun f vs => PySem.call f vs) := by
  refine Att.attach_callB hn hdf ?_
  intro w s₀ s₁ mg mb fa o pm cd doc a vs ns G Y ho hd hcd hmg hobj hints hlen hbits hg
  have KX := hY w _ Y
  obtain ⟨fd, hb, hF⟩ := F w mg fa _ KX G.T.g hmg
  exact call_top KX G.T.g G.T.b G.T.builtins G.T.nolimit hg hobj hints
    (Nat.le_trans hlen hn2) hr hF hb (fun H hS => hsp _ H a ns hlen hbits hS)
end TopG

namespace QD
open PySem PySem.Spec PyProof.Rows L2 MG
def sp_top (K : PySem.W.Frag) : Sp := fun vs H Q _ => ∃ (a : Addr) (ns : List Int), vs = [.ref a] ∧ SqL K H a (ns.map V.int) ∧ ns.length ≤ 63 ∧ ∀ H', Q (.bl true) H'
theorem sp_top_ok {cf : Cf} {F : Fd} (h : ∀ ns : List Int, ns.length ≤ 63 → F [.fz (roD (ns.map PyData.int))] [] = .ok (.fz (.bool true)) []) {vs : List V} {H : Hp} {Q : VK} {E : XK} (s : sp_top cf.K vs H Q E) : spD cf 1 F vs H Q E := by
  obtain ⟨a, ns, rfl, hs, hl, k⟩ := s
  refine ⟨⟨fun _ => False, [], H⟩, [], [.fz (roD (ns.map PyData.int))], rfl, .cons (.ro ?_ (FzA.ofInts ns)) .nil, fun w hw => ?_, ⟨rfl, List.nodup_nil, fun _ h => h.elim, fun _ h => h.elim, fun n a o h => by simp at h⟩, rfl, ?_⟩
  · rcases hs with hs | hs
    · exact .inl ⟨by simp, fun h => h, hs⟩
    · exact .inr (.inr hs)
  · rw [List.mem_singleton] at hw; subst hw; trivial
  · rw [h ns hl]
    intro v m' r
    cases r.wr
    exact k _
def sp_topB (K : PySem.W.Frag) : Sp := fun vs H Q _ => ∃ (a : Addr) (ns : List Int), vs = [.ref a] ∧ SqL K H a (ns.map V.int) ∧ ns.length ≤ 63 ∧ (∀ z ∈ ns, Builtin.Int.intBits z ≤ 1048576) ∧ ∀ H', Q (.bl true) H'
theorem sp_topB_ok {cf : Cf} {F : Fd} (h : ∀ ns : List Int, ns.length ≤ 63 → (∀ z ∈ ns, Builtin.Int.intBits z ≤ 1048576) → F [.fz (roD (ns.map PyData.int))] [] = .ok (.fz (.bool true)) []) {vs : List V} {H : Hp} {Q : VK} {E : XK} (s : sp_topB cf.K vs H Q E) : spD cf 1 F vs H Q E := by
  obtain ⟨a, ns, rfl, hs, hl, hb, k⟩ := s
  refine ⟨⟨fun _ => False, [], H⟩, [], [.fz (roD (ns.map PyData.int))], rfl, .cons (.ro ?_ (FzA.ofInts ns)) .nil, fun w hw => ?_, ⟨rfl, List.nodup_nil, fun _ h => h.elim, fun _ h => h.elim, fun n a o h => by simp at h⟩, rfl, ?_⟩
  · rcases hs with hs | hs
    · exact .inl ⟨by simp, fun h => h, hs⟩
    · exact .inr (.inr hs)
  · rw [List.mem_singleton] at hw; subst hw; trivial
  · rw [h ns hl hb]
    intro v m' r
    cases r.wr
    exact k _
theorem FnG.imp {P : Program} {w : World} {K : PySem.W.Frag} {mg : Str → Option Value} {base : Heap} {CX : CXT} {k : Nat} {f : Addr} {fd : FuncData} {ps : List Str} {sp sp' : Sp} (F : FnG P w K mg base CX k f fd ps sp)
    (h : ∀ vs H Q E, sp' vs H Q E → sp vs H Q E) : FnG P w K mg base CX k f fd ps sp' where
  len := fun vs H Q E z => F.len vs H Q E (h vs H Q E z)
  run := fun A outer s H args us vs Q E hg hr e0 hb r z => F.run A outer s H args us vs Q E hg hr e0 hb r (h vs H Q E z)
/-- own classes: at most one (number 0) -/
theorem kitT_one {K : PySem.W.Frag} {C : Addr} {ns : List Str} (T : ClsT K C) (self : PySem.W.kitOne K (.ref C) (.ref C) = some true) (bo : ∀ b ∈ bts, PySem.W.kitOne K (.type b) (.ref C) = some false) (ob : ∀ b ∈ bts, PySem.W.kitOne K (.ref C) (.type b) = some false) :
    KitT K (fun k => if k = 0 then some (C, ns) else none) := by
  have e : ∀ {k : Nat} {C' : Addr} {ns' : List Str}, (if k = 0 then some (C, ns) else none) = some (C', ns') → k = 0 ∧ C' = C := fun {k C' ns'} h => by
    split at h
    case isTrue c => cases h; exact ⟨c, rfl⟩
    case isFalse => cases h
  refine ⟨fun k C' ns' h => ?_, fun k k' C' C'' ns' ns'' h h' => ?_, fun b hb k C' ns' h => ?_, fun b hb k C' ns' h => ?_⟩
  · obtain ⟨rfl, rfl⟩ := e h; exact T
  · obtain ⟨rfl, rfl⟩ := e h; obtain ⟨rfl, rfl⟩ := e h'; exact self
  · obtain ⟨rfl, rfl⟩ := e h; exact bo b hb
  · obtain ⟨rfl, rfl⟩ := e h; exact ob b hb
end QD
namespace K14
open PySem PySem.Spec PyProof.Rows L2 MG QD
theorem fb_is_integer {K : PySem.W.Frag} {f : Addr} {fd : FuncData} (F : FunD K "is_integer" "is_integer" (defArgs s_is_integer) (defBody s_is_integer) (defScope s_is_integer) [.non] [] f fd) : Binds K fd ["value", "least", "most"] [] := by
  obtain ⟨ds, r, h⟩ := F.binds1 (ps := ["value", "least", "most"]) 3 1 (by simp) rfl (fun T kV doc pm an cdv ct us its l1 l2 => by
    obtain ⟨a0, a1, a2, rfl⟩ : ∃ a0 a1 a2, us = [a0, a1, a2] := by
      match us, l1 with
      | [a0, a1, a2], _ => exact ⟨a0, a1, a2, rfl⟩
    obtain ⟨e0, rfl⟩ : ∃ e0, its = [e0] := by
      match its, l2 with
      | [e0], _ => exact ⟨e0, rfl⟩
    exact ⟨_, rfl, rfl⟩)
  cases r
  exact h
theorem fbd_is_integer_1 {K : PySem.W.Frag} {f : Addr} {fd : FuncData} (F : FunD K "is_integer" "is_integer" (defArgs s_is_integer) (defBody s_is_integer) (defScope s_is_integer) [.non] [] f fd) : ∃ ds, Vals [.non] ds ∧ Binds K fd ["value", "least", "most"] ds :=
  F.binds1 (ps := ["value", "least", "most"]) 2 0 (by simp) rfl (fun T kV doc pm an cdv ct us its l1 l2 => by
    obtain ⟨a0, a1, rfl⟩ : ∃ a0 a1, us = [a0, a1] := by
      match us, l1 with
      | [a0, a1], _ => exact ⟨a0, a1, rfl⟩
    obtain ⟨e0, rfl⟩ : ∃ e0, its = [e0] := by
      match its, l2 with
      | [e0], _ => exact ⟨e0, rfl⟩
    exact ⟨_, rfl, rfl⟩)
theorem fb_Fairu_initu {K : PySem.W.Frag} {f : Addr} {fd : FuncData} (F : FunD K "__init__" "Fair.__init__" (defArgs s_Fairu_initu) (defBody s_Fairu_initu) (defScope s_Fairu_initu) [.non] [] f fd) : Binds K fd ["self", "hosts", "guests", "tables"] [] := by
  obtain ⟨ds, r, h⟩ := F.binds1 (ps := ["self", "hosts", "guests", "tables"]) 4 1 (by simp) rfl (fun T kV doc pm an cdv ct us its l1 l2 => by
    obtain ⟨a0, a1, a2, a3, rfl⟩ : ∃ a0 a1 a2 a3, us = [a0, a1, a2, a3] := by
      match us, l1 with
      | [a0, a1, a2, a3], _ => exact ⟨a0, a1, a2, a3, rfl⟩
    obtain ⟨e0, rfl⟩ : ∃ e0, its = [e0] := by
      match its, l2 with
      | [e0], _ => exact ⟨e0, rfl⟩
    exact ⟨_, rfl, rfl⟩)
  cases r
  exact h
theorem fbd_Fairu_initu_1 {K : PySem.W.Frag} {f : Addr} {fd : FuncData} (F : FunD K "__init__" "Fair.__init__" (defArgs s_Fairu_initu) (defBody s_Fairu_initu) (defScope s_Fairu_initu) [.non] [] f fd) : ∃ ds, Vals [.non] ds ∧ Binds K fd ["self", "hosts", "guests", "tables"] ds :=
  F.binds1 (ps := ["self", "hosts", "guests", "tables"]) 3 0 (by simp) rfl (fun T kV doc pm an cdv ct us its l1 l2 => by
    obtain ⟨a0, a1, a2, rfl⟩ : ∃ a0 a1 a2, us = [a0, a1, a2] := by
      match us, l1 with
      | [a0, a1, a2], _ => exact ⟨a0, a1, a2, rfl⟩
    obtain ⟨e0, rfl⟩ : ∃ e0, its = [e0] := by
      match its, l2 with
      | [e0], _ => exact ⟨e0, rfl⟩
    exact ⟨_, rfl, rfl⟩)
theorem fb_table_fault {K : PySem.W.Frag} {f : Addr} {fd : FuncData} (F : FunD K "table_fault" "table_fault" (defArgs s_table_fault) (defBody s_table_fault) (defScope s_table_fault) [.non] [] f fd) : Binds K fd ["value", "hosts", "guests", "most"] [] := by
  obtain ⟨ds, r, h⟩ := F.binds1 (ps := ["value", "hosts", "guests", "most"]) 4 1 (by simp) rfl (fun T kV doc pm an cdv ct us its l1 l2 => by
    obtain ⟨a0, a1, a2, a3, rfl⟩ : ∃ a0 a1 a2 a3, us = [a0, a1, a2, a3] := by
      match us, l1 with
      | [a0, a1, a2, a3], _ => exact ⟨a0, a1, a2, a3, rfl⟩
    obtain ⟨e0, rfl⟩ : ∃ e0, its = [e0] := by
      match its, l2 with
      | [e0], _ => exact ⟨e0, rfl⟩
    exact ⟨_, rfl, rfl⟩)
  cases r
  exact h
theorem all_mk {l : PySem.W.OpenLaw} {w : World} {K : PySem.W.Frag} {h : Heap} {mg : Str → Option Value} {fa : Addr} (X : K.In h) (G : h.Ns mainGlobals mg) (hfa : mg "law" = some (.ref fa))
    {C_Fair dd_is_integer f_is_integer f_is_name f_is_pair f_is_member f_fault f_names_of f_text_of dd_Fairu_initu f_Fairu_initu pa_Fair_hosts f_Fair_hosts pa_Fair_guests f_Fair_guests pa_Fair_tables f_Fair_tables f_is_row dd_table_fault f_table_fault f_sum_of f_ceiling f_check_fair f_meetings_fault f_check_meetings f_check_number f_check_planned f_reasons f_least_rounds f_load f_tables_needed f_l_jug f_l_pour f_l_word f_l_words f_l_parts f_l_fair f_l_number f_l_grid f_l_in_rows f_l_in_columns f_l_shares f_l_due f_l_within f_l_is_needed f_l_right f_law : Addr}
    {odd_is_integer od_is_integer an_is_integer od_is_name an_is_name od_is_pair an_is_pair od_is_member an_is_member od_fault an_fault od_names_of an_names_of od_text_of an_text_of odd_Fairu_initu od_Fairu_initu an_Fairu_initu od_Fair_hosts an_Fair_hosts od_Fair_guests an_Fair_guests od_Fair_tables an_Fair_tables od_is_row an_is_row odd_table_fault od_table_fault an_table_fault od_sum_of an_sum_of od_ceiling an_ceiling od_check_fair an_check_fair od_meetings_fault an_meetings_fault od_check_meetings an_check_meetings od_check_number an_check_number od_check_planned an_check_planned od_reasons an_reasons od_least_rounds an_least_rounds od_load an_load od_tables_needed an_tables_needed od_l_jug an_l_jug od_l_pour an_l_pour od_l_word an_l_word od_l_words an_l_words od_l_parts an_l_parts od_l_fair an_l_fair od_l_number an_l_number od_l_grid an_l_grid od_l_in_rows an_l_in_rows od_l_in_columns an_l_in_columns od_l_shares an_l_shares od_l_due an_l_due od_l_within an_l_within od_l_is_needed an_l_is_needed od_l_right an_l_right od_law an_law : Option Addr} {sld_is_integer sl_is_integer sl_is_name sl_is_pair sl_is_member sl_fault sl_names_of sl_text_of sld_Fairu_initu sl_Fairu_initu sl_Fair_hosts sl_Fair_guests sl_Fair_tables sl_is_row sld_table_fault sl_table_fault sl_sum_of sl_ceiling sl_check_fair sl_meetings_fault sl_check_meetings sl_check_number sl_check_planned sl_reasons sl_least_rounds sl_load sl_tables_needed sl_l_jug sl_l_pour sl_l_word sl_l_words sl_l_parts sl_l_fair sl_l_number sl_l_grid sl_l_in_rows sl_l_in_columns sl_l_shares sl_l_due sl_l_within sl_l_is_needed sl_l_right sl_law : Array (Option Value)}
    {ocd_is_integer oc_is_integer kV_is_integer dc_is_integer pm_is_integer cd_is_integer ct_is_integer oc_is_name kV_is_name dc_is_name pm_is_name cd_is_name ct_is_name oc_is_pair kV_is_pair dc_is_pair pm_is_pair cd_is_pair ct_is_pair oc_is_member kV_is_member dc_is_member pm_is_member cd_is_member ct_is_member oc_fault kV_fault dc_fault pm_fault cd_fault ct_fault oc_names_of kV_names_of dc_names_of pm_names_of cd_names_of ct_names_of oc_text_of kV_text_of dc_text_of pm_text_of cd_text_of ct_text_of ocd_Fairu_initu oc_Fairu_initu kV_Fairu_initu dc_Fairu_initu pm_Fairu_initu cd_Fairu_initu ct_Fairu_initu oc_Fair_hosts kV_Fair_hosts dc_Fair_hosts pm_Fair_hosts cd_Fair_hosts ct_Fair_hosts oc_Fair_guests kV_Fair_guests dc_Fair_guests pm_Fair_guests cd_Fair_guests ct_Fair_guests oc_Fair_tables kV_Fair_tables dc_Fair_tables pm_Fair_tables cd_Fair_tables ct_Fair_tables oc_is_row kV_is_row dc_is_row pm_is_row cd_is_row ct_is_row ocd_table_fault oc_table_fault kV_table_fault dc_table_fault pm_table_fault cd_table_fault ct_table_fault oc_sum_of kV_sum_of dc_sum_of pm_sum_of cd_sum_of ct_sum_of oc_ceiling kV_ceiling dc_ceiling pm_ceiling cd_ceiling ct_ceiling oc_check_fair kV_check_fair dc_check_fair pm_check_fair cd_check_fair ct_check_fair oc_meetings_fault kV_meetings_fault dc_meetings_fault pm_meetings_fault cd_meetings_fault ct_meetings_fault oc_check_meetings kV_check_meetings dc_check_meetings pm_check_meetings cd_check_meetings ct_check_meetings oc_check_number kV_check_number dc_check_number pm_check_number cd_check_number ct_check_number oc_check_planned kV_check_planned dc_check_planned pm_check_planned cd_check_planned ct_check_planned oc_reasons kV_reasons dc_reasons pm_reasons cd_reasons ct_reasons oc_least_rounds kV_least_rounds dc_least_rounds pm_least_rounds cd_least_rounds ct_least_rounds oc_load kV_load dc_load pm_load cd_load ct_load oc_tables_needed kV_tables_needed dc_tables_needed pm_tables_needed cd_tables_needed ct_tables_needed oc_l_jug kV_l_jug dc_l_jug pm_l_jug cd_l_jug ct_l_jug oc_l_pour kV_l_pour dc_l_pour pm_l_pour cd_l_pour ct_l_pour oc_l_word kV_l_word dc_l_word pm_l_word cd_l_word ct_l_word oc_l_words kV_l_words dc_l_words pm_l_words cd_l_words ct_l_words oc_l_parts kV_l_parts dc_l_parts pm_l_parts cd_l_parts ct_l_parts oc_l_fair kV_l_fair dc_l_fair pm_l_fair cd_l_fair ct_l_fair oc_l_number kV_l_number dc_l_number pm_l_number cd_l_number ct_l_number oc_l_grid kV_l_grid dc_l_grid pm_l_grid cd_l_grid ct_l_grid oc_l_in_rows kV_l_in_rows dc_l_in_rows pm_l_in_rows cd_l_in_rows ct_l_in_rows oc_l_in_columns kV_l_in_columns dc_l_in_columns pm_l_in_columns cd_l_in_columns ct_l_in_columns oc_l_shares kV_l_shares dc_l_shares pm_l_shares cd_l_shares ct_l_shares oc_l_due kV_l_due dc_l_due pm_l_due cd_l_due ct_l_due oc_l_within kV_l_within dc_l_within pm_l_within cd_l_within ct_l_within oc_l_is_needed kV_l_is_needed dc_l_is_needed pm_l_is_needed cd_l_is_needed ct_l_is_needed oc_l_right kV_l_right dc_l_right pm_l_right cd_l_right ct_l_right oc_law kV_law dc_law pm_law cd_law ct_law : Value} {nd_is_integer nd_Fairu_initu nd_table_fault : Nat} {rest_Fair_hosts rest_Fair_guests rest_Fair_tables : List Value} {tk__LONGEST_NAME tk__FIRST_SIGNS tk__SIGNS tk_MOST_BOUND tk_MOST_SIDE tk_MOST_TABLES tk_MOST_MEETINGS : Tok}
    (aC_Fair : PySem.W.nsIn K mainGlobals "Fair" = some (some (.ref C_Fair)))
    (a_is_integer : PySem.W.nsIn K mainGlobals "is_integer" = some (some (.ref f_is_integer)))
    (l_is_integer : K.lookup f_is_integer = some ⟨oc_is_integer, od_is_integer, .func (PySem.W.fnOf "is_integer" "is_integer" (defArgs s_is_integer) (defBody s_is_integer) (defScope s_is_integer) (.ref dd_is_integer) kV_is_integer dc_is_integer pm_is_integer an_is_integer cd_is_integer ct_is_integer), sl_is_integer⟩)
    (c_is_integer : PySem.W.codeIn K cd_is_integer "is_integer" = true)
    (k_is_integer : PySem.W.keepIn K (.ref f_is_integer) = true)
    (ld_is_integer : K.lookup dd_is_integer = some ⟨ocd_is_integer, odd_is_integer, .seq #[Value.none] nd_is_integer, sld_is_integer⟩)
    (a_is_name : PySem.W.nsIn K mainGlobals "is_name" = some (some (.ref f_is_name)))
    (l_is_name : K.lookup f_is_name = some ⟨oc_is_name, od_is_name, .func (PySem.W.fnOf "is_name" "is_name" (defArgs s_is_name) (defBody s_is_name) (defScope s_is_name) .none kV_is_name dc_is_name pm_is_name an_is_name cd_is_name ct_is_name), sl_is_name⟩)
    (c_is_name : PySem.W.codeIn K cd_is_name "is_name" = true)
    (k_is_name : PySem.W.keepIn K (.ref f_is_name) = true)
    (a_is_pair : PySem.W.nsIn K mainGlobals "is_pair" = some (some (.ref f_is_pair)))
    (l_is_pair : K.lookup f_is_pair = some ⟨oc_is_pair, od_is_pair, .func (PySem.W.fnOf "is_pair" "is_pair" (defArgs s_is_pair) (defBody s_is_pair) (defScope s_is_pair) .none kV_is_pair dc_is_pair pm_is_pair an_is_pair cd_is_pair ct_is_pair), sl_is_pair⟩)
    (c_is_pair : PySem.W.codeIn K cd_is_pair "is_pair" = true)
    (k_is_pair : PySem.W.keepIn K (.ref f_is_pair) = true)
    (a_is_member : PySem.W.nsIn K mainGlobals "_is_member" = some (some (.ref f_is_member)))
    (l_is_member : K.lookup f_is_member = some ⟨oc_is_member, od_is_member, .func (PySem.W.fnOf "_is_member" "_is_member" (defArgs s_is_member) (defBody s_is_member) (defScope s_is_member) .none kV_is_member dc_is_member pm_is_member an_is_member cd_is_member ct_is_member), sl_is_member⟩)
    (c_is_member : PySem.W.codeIn K cd_is_member "_is_member" = true)
    (k_is_member : PySem.W.keepIn K (.ref f_is_member) = true)
    (a_fault : PySem.W.nsIn K mainGlobals "_fault" = some (some (.ref f_fault)))
    (l_fault : K.lookup f_fault = some ⟨oc_fault, od_fault, .func (PySem.W.fnOf "_fault" "_fault" (defArgs s_fault) (defBody s_fault) (defScope s_fault) .none kV_fault dc_fault pm_fault an_fault cd_fault ct_fault), sl_fault⟩)
    (c_fault : PySem.W.codeIn K cd_fault "_fault" = true)
    (k_fault : PySem.W.keepIn K (.ref f_fault) = true)
    (a_names_of : PySem.W.nsIn K mainGlobals "_names_of" = some (some (.ref f_names_of)))
    (l_names_of : K.lookup f_names_of = some ⟨oc_names_of, od_names_of, .func (PySem.W.fnOf "_names_of" "_names_of" (defArgs s_names_of) (defBody s_names_of) (defScope s_names_of) .none kV_names_of dc_names_of pm_names_of an_names_of cd_names_of ct_names_of), sl_names_of⟩)
    (c_names_of : PySem.W.codeIn K cd_names_of "_names_of" = true)
    (k_names_of : PySem.W.keepIn K (.ref f_names_of) = true)
    (a_text_of : PySem.W.nsIn K mainGlobals "_text_of" = some (some (.ref f_text_of)))
    (l_text_of : K.lookup f_text_of = some ⟨oc_text_of, od_text_of, .func (PySem.W.fnOf "_text_of" "_text_of" (defArgs s_text_of) (defBody s_text_of) (defScope s_text_of) .none kV_text_of dc_text_of pm_text_of an_text_of cd_text_of ct_text_of), sl_text_of⟩)
    (c_text_of : PySem.W.codeIn K cd_text_of "_text_of" = true)
    (k_text_of : PySem.W.keepIn K (.ref f_text_of) = true)
    (a_Fairu_initu : PySem.W.findIn K (.ref C_Fair) "__init__" = some (some (.ref f_Fairu_initu)))
    (i_Fairu_initu : PySem.W.isFn K (.ref f_Fairu_initu) = true)
    (l_Fairu_initu : K.lookup f_Fairu_initu = some ⟨oc_Fairu_initu, od_Fairu_initu, .func (PySem.W.fnOf "__init__" "Fair.__init__" (defArgs s_Fairu_initu) (defBody s_Fairu_initu) (defScope s_Fairu_initu) (.ref dd_Fairu_initu) kV_Fairu_initu dc_Fairu_initu pm_Fairu_initu an_Fairu_initu cd_Fairu_initu ct_Fairu_initu), sl_Fairu_initu⟩)
    (c_Fairu_initu : PySem.W.codeIn K cd_Fairu_initu "Fair.__init__" = true)
    (k_Fairu_initu : PySem.W.keepIn K (.ref f_Fairu_initu) = true)
    (ld_Fairu_initu : K.lookup dd_Fairu_initu = some ⟨ocd_Fairu_initu, odd_Fairu_initu, .seq #[Value.none] nd_Fairu_initu, sld_Fairu_initu⟩)
    (a_Fair_hosts : PySem.W.findIn K (.ref C_Fair) "hosts" = some (some (.ref pa_Fair_hosts)))
    (g_Fair_hosts : PySem.W.specialIn K (.ref pa_Fair_hosts) "__get__" = some (some (.builtin "property.__get__")))
    (t_Fair_hosts : PySem.W.takesIn K (.ref pa_Fair_hosts) = some true)
    (r_Fair_hosts : PySem.W.recIn K pa_Fair_hosts "property" = some (.ref f_Fair_hosts :: rest_Fair_hosts))
    (l_Fair_hosts : K.lookup f_Fair_hosts = some ⟨oc_Fair_hosts, od_Fair_hosts, .func (PySem.W.fnOf "hosts" "Fair.hosts" (defArgs s_Fair_hosts) (defBody s_Fair_hosts) (defScope s_Fair_hosts) .none kV_Fair_hosts dc_Fair_hosts pm_Fair_hosts an_Fair_hosts cd_Fair_hosts ct_Fair_hosts), sl_Fair_hosts⟩)
    (c_Fair_hosts : PySem.W.codeIn K cd_Fair_hosts "Fair.hosts" = true)
    (k_Fair_hosts : PySem.W.keepIn K (.ref f_Fair_hosts) = true)
    (a_Fair_guests : PySem.W.findIn K (.ref C_Fair) "guests" = some (some (.ref pa_Fair_guests)))
    (g_Fair_guests : PySem.W.specialIn K (.ref pa_Fair_guests) "__get__" = some (some (.builtin "property.__get__")))
    (t_Fair_guests : PySem.W.takesIn K (.ref pa_Fair_guests) = some true)
    (r_Fair_guests : PySem.W.recIn K pa_Fair_guests "property" = some (.ref f_Fair_guests :: rest_Fair_guests))
    (l_Fair_guests : K.lookup f_Fair_guests = some ⟨oc_Fair_guests, od_Fair_guests, .func (PySem.W.fnOf "guests" "Fair.guests" (defArgs s_Fair_guests) (defBody s_Fair_guests) (defScope s_Fair_guests) .none kV_Fair_guests dc_Fair_guests pm_Fair_guests an_Fair_guests cd_Fair_guests ct_Fair_guests), sl_Fair_guests⟩)
    (c_Fair_guests : PySem.W.codeIn K cd_Fair_guests "Fair.guests" = true)
    (k_Fair_guests : PySem.W.keepIn K (.ref f_Fair_guests) = true)
    (a_Fair_tables : PySem.W.findIn K (.ref C_Fair) "tables" = some (some (.ref pa_Fair_tables)))
    (g_Fair_tables : PySem.W.specialIn K (.ref pa_Fair_tables) "__get__" = some (some (.builtin "property.__get__")))
    (t_Fair_tables : PySem.W.takesIn K (.ref pa_Fair_tables) = some true)
    (r_Fair_tables : PySem.W.recIn K pa_Fair_tables "property" = some (.ref f_Fair_tables :: rest_Fair_tables))
    (l_Fair_tables : K.lookup f_Fair_tables = some ⟨oc_Fair_tables, od_Fair_tables, .func (PySem.W.fnOf "tables" "Fair.tables" (defArgs s_Fair_tables) (defBody s_Fair_tables) (defScope s_Fair_tables) .none kV_Fair_tables dc_Fair_tables pm_Fair_tables an_Fair_tables cd_Fair_tables ct_Fair_tables), sl_Fair_tables⟩)
    (c_Fair_tables : PySem.W.codeIn K cd_Fair_tables "Fair.tables" = true)
    (k_Fair_tables : PySem.W.keepIn K (.ref f_Fair_tables) = true)
    (a_is_row : PySem.W.nsIn K mainGlobals "_is_row" = some (some (.ref f_is_row)))
    (l_is_row : K.lookup f_is_row = some ⟨oc_is_row, od_is_row, .func (PySem.W.fnOf "_is_row" "_is_row" (defArgs s_is_row) (defBody s_is_row) (defScope s_is_row) .none kV_is_row dc_is_row pm_is_row an_is_row cd_is_row ct_is_row), sl_is_row⟩)
    (c_is_row : PySem.W.codeIn K cd_is_row "_is_row" = true)
    (k_is_row : PySem.W.keepIn K (.ref f_is_row) = true)
    (a_table_fault : PySem.W.nsIn K mainGlobals "table_fault" = some (some (.ref f_table_fault)))
    (l_table_fault : K.lookup f_table_fault = some ⟨oc_table_fault, od_table_fault, .func (PySem.W.fnOf "table_fault" "table_fault" (defArgs s_table_fault) (defBody s_table_fault) (defScope s_table_fault) (.ref dd_table_fault) kV_table_fault dc_table_fault pm_table_fault an_table_fault cd_table_fault ct_table_fault), sl_table_fault⟩)
    (c_table_fault : PySem.W.codeIn K cd_table_fault "table_fault" = true)
    (k_table_fault : PySem.W.keepIn K (.ref f_table_fault) = true)
    (ld_table_fault : K.lookup dd_table_fault = some ⟨ocd_table_fault, odd_table_fault, .seq #[Value.none] nd_table_fault, sld_table_fault⟩)
    (a_sum_of : PySem.W.nsIn K mainGlobals "sum_of" = some (some (.ref f_sum_of)))
    (l_sum_of : K.lookup f_sum_of = some ⟨oc_sum_of, od_sum_of, .func (PySem.W.fnOf "sum_of" "sum_of" (defArgs s_sum_of) (defBody s_sum_of) (defScope s_sum_of) .none kV_sum_of dc_sum_of pm_sum_of an_sum_of cd_sum_of ct_sum_of), sl_sum_of⟩)
    (c_sum_of : PySem.W.codeIn K cd_sum_of "sum_of" = true)
    (k_sum_of : PySem.W.keepIn K (.ref f_sum_of) = true)
    (a_ceiling : PySem.W.nsIn K mainGlobals "ceiling" = some (some (.ref f_ceiling)))
    (l_ceiling : K.lookup f_ceiling = some ⟨oc_ceiling, od_ceiling, .func (PySem.W.fnOf "ceiling" "ceiling" (defArgs s_ceiling) (defBody s_ceiling) (defScope s_ceiling) .none kV_ceiling dc_ceiling pm_ceiling an_ceiling cd_ceiling ct_ceiling), sl_ceiling⟩)
    (c_ceiling : PySem.W.codeIn K cd_ceiling "ceiling" = true)
    (k_ceiling : PySem.W.keepIn K (.ref f_ceiling) = true)
    (a_check_fair : PySem.W.nsIn K mainGlobals "check_fair" = some (some (.ref f_check_fair)))
    (l_check_fair : K.lookup f_check_fair = some ⟨oc_check_fair, od_check_fair, .func (PySem.W.fnOf "check_fair" "check_fair" (defArgs s_check_fair) (defBody s_check_fair) (defScope s_check_fair) .none kV_check_fair dc_check_fair pm_check_fair an_check_fair cd_check_fair ct_check_fair), sl_check_fair⟩)
    (c_check_fair : PySem.W.codeIn K cd_check_fair "check_fair" = true)
    (k_check_fair : PySem.W.keepIn K (.ref f_check_fair) = true)
    (a_meetings_fault : PySem.W.nsIn K mainGlobals "_meetings_fault" = some (some (.ref f_meetings_fault)))
    (l_meetings_fault : K.lookup f_meetings_fault = some ⟨oc_meetings_fault, od_meetings_fault, .func (PySem.W.fnOf "_meetings_fault" "_meetings_fault" (defArgs s_meetings_fault) (defBody s_meetings_fault) (defScope s_meetings_fault) .none kV_meetings_fault dc_meetings_fault pm_meetings_fault an_meetings_fault cd_meetings_fault ct_meetings_fault), sl_meetings_fault⟩)
    (c_meetings_fault : PySem.W.codeIn K cd_meetings_fault "_meetings_fault" = true)
    (k_meetings_fault : PySem.W.keepIn K (.ref f_meetings_fault) = true)
    (a_check_meetings : PySem.W.nsIn K mainGlobals "check_meetings" = some (some (.ref f_check_meetings)))
    (l_check_meetings : K.lookup f_check_meetings = some ⟨oc_check_meetings, od_check_meetings, .func (PySem.W.fnOf "check_meetings" "check_meetings" (defArgs s_check_meetings) (defBody s_check_meetings) (defScope s_check_meetings) .none kV_check_meetings dc_check_meetings pm_check_meetings an_check_meetings cd_check_meetings ct_check_meetings), sl_check_meetings⟩)
    (c_check_meetings : PySem.W.codeIn K cd_check_meetings "check_meetings" = true)
    (k_check_meetings : PySem.W.keepIn K (.ref f_check_meetings) = true)
    (a_check_number : PySem.W.nsIn K mainGlobals "check_number" = some (some (.ref f_check_number)))
    (l_check_number : K.lookup f_check_number = some ⟨oc_check_number, od_check_number, .func (PySem.W.fnOf "check_number" "check_number" (defArgs s_check_number) (defBody s_check_number) (defScope s_check_number) .none kV_check_number dc_check_number pm_check_number an_check_number cd_check_number ct_check_number), sl_check_number⟩)
    (c_check_number : PySem.W.codeIn K cd_check_number "check_number" = true)
    (k_check_number : PySem.W.keepIn K (.ref f_check_number) = true)
    (a_check_planned : PySem.W.nsIn K mainGlobals "check_planned" = some (some (.ref f_check_planned)))
    (l_check_planned : K.lookup f_check_planned = some ⟨oc_check_planned, od_check_planned, .func (PySem.W.fnOf "check_planned" "check_planned" (defArgs s_check_planned) (defBody s_check_planned) (defScope s_check_planned) .none kV_check_planned dc_check_planned pm_check_planned an_check_planned cd_check_planned ct_check_planned), sl_check_planned⟩)
    (c_check_planned : PySem.W.codeIn K cd_check_planned "check_planned" = true)
    (k_check_planned : PySem.W.keepIn K (.ref f_check_planned) = true)
    (a_reasons : PySem.W.nsIn K mainGlobals "reasons" = some (some (.ref f_reasons)))
    (l_reasons : K.lookup f_reasons = some ⟨oc_reasons, od_reasons, .func (PySem.W.fnOf "reasons" "reasons" (defArgs s_reasons) (defBody s_reasons) (defScope s_reasons) .none kV_reasons dc_reasons pm_reasons an_reasons cd_reasons ct_reasons), sl_reasons⟩)
    (c_reasons : PySem.W.codeIn K cd_reasons "reasons" = true)
    (k_reasons : PySem.W.keepIn K (.ref f_reasons) = true)
    (a_least_rounds : PySem.W.nsIn K mainGlobals "least_rounds" = some (some (.ref f_least_rounds)))
    (l_least_rounds : K.lookup f_least_rounds = some ⟨oc_least_rounds, od_least_rounds, .func (PySem.W.fnOf "least_rounds" "least_rounds" (defArgs s_least_rounds) (defBody s_least_rounds) (defScope s_least_rounds) .none kV_least_rounds dc_least_rounds pm_least_rounds an_least_rounds cd_least_rounds ct_least_rounds), sl_least_rounds⟩)
    (c_least_rounds : PySem.W.codeIn K cd_least_rounds "least_rounds" = true)
    (k_least_rounds : PySem.W.keepIn K (.ref f_least_rounds) = true)
    (a_load : PySem.W.nsIn K mainGlobals "load" = some (some (.ref f_load)))
    (l_load : K.lookup f_load = some ⟨oc_load, od_load, .func (PySem.W.fnOf "load" "load" (defArgs s_load) (defBody s_load) (defScope s_load) .none kV_load dc_load pm_load an_load cd_load ct_load), sl_load⟩)
    (c_load : PySem.W.codeIn K cd_load "load" = true)
    (k_load : PySem.W.keepIn K (.ref f_load) = true)
    (a_tables_needed : PySem.W.nsIn K mainGlobals "tables_needed" = some (some (.ref f_tables_needed)))
    (l_tables_needed : K.lookup f_tables_needed = some ⟨oc_tables_needed, od_tables_needed, .func (PySem.W.fnOf "tables_needed" "tables_needed" (defArgs s_tables_needed) (defBody s_tables_needed) (defScope s_tables_needed) .none kV_tables_needed dc_tables_needed pm_tables_needed an_tables_needed cd_tables_needed ct_tables_needed), sl_tables_needed⟩)
    (c_tables_needed : PySem.W.codeIn K cd_tables_needed "tables_needed" = true)
    (k_tables_needed : PySem.W.keepIn K (.ref f_tables_needed) = true)
    (a_l_jug : PySem.W.nsIn K mainGlobals "_law_jug" = some (some (.ref f_l_jug)))
    (l_l_jug : K.lookup f_l_jug = some ⟨oc_l_jug, od_l_jug, .func (PySem.W.fnOf "_law_jug" "_law_jug" (defArgs s_l_jug) (defBody s_l_jug) (defScope s_l_jug) .none kV_l_jug dc_l_jug pm_l_jug an_l_jug cd_l_jug ct_l_jug), sl_l_jug⟩)
    (c_l_jug : PySem.W.codeIn K cd_l_jug "_law_jug" = true)
    (k_l_jug : PySem.W.keepIn K (.ref f_l_jug) = true)
    (a_l_pour : PySem.W.nsIn K mainGlobals "_law_pour" = some (some (.ref f_l_pour)))
    (l_l_pour : K.lookup f_l_pour = some ⟨oc_l_pour, od_l_pour, .func (PySem.W.fnOf "_law_pour" "_law_pour" (defArgs s_l_pour) (defBody s_l_pour) (defScope s_l_pour) .none kV_l_pour dc_l_pour pm_l_pour an_l_pour cd_l_pour ct_l_pour), sl_l_pour⟩)
    (c_l_pour : PySem.W.codeIn K cd_l_pour "_law_pour" = true)
    (k_l_pour : PySem.W.keepIn K (.ref f_l_pour) = true)
    (a_l_word : PySem.W.nsIn K mainGlobals "_law_word" = some (some (.ref f_l_word)))
    (l_l_word : K.lookup f_l_word = some ⟨oc_l_word, od_l_word, .func (PySem.W.fnOf "_law_word" "_law_word" (defArgs s_l_word) (defBody s_l_word) (defScope s_l_word) .none kV_l_word dc_l_word pm_l_word an_l_word cd_l_word ct_l_word), sl_l_word⟩)
    (c_l_word : PySem.W.codeIn K cd_l_word "_law_word" = true)
    (k_l_word : PySem.W.keepIn K (.ref f_l_word) = true)
    (a_l_words : PySem.W.nsIn K mainGlobals "_law_words" = some (some (.ref f_l_words)))
    (l_l_words : K.lookup f_l_words = some ⟨oc_l_words, od_l_words, .func (PySem.W.fnOf "_law_words" "_law_words" (defArgs s_l_words) (defBody s_l_words) (defScope s_l_words) .none kV_l_words dc_l_words pm_l_words an_l_words cd_l_words ct_l_words), sl_l_words⟩)
    (c_l_words : PySem.W.codeIn K cd_l_words "_law_words" = true)
    (k_l_words : PySem.W.keepIn K (.ref f_l_words) = true)
    (a_l_parts : PySem.W.nsIn K mainGlobals "_law_parts" = some (some (.ref f_l_parts)))
    (l_l_parts : K.lookup f_l_parts = some ⟨oc_l_parts, od_l_parts, .func (PySem.W.fnOf "_law_parts" "_law_parts" (defArgs s_l_parts) (defBody s_l_parts) (defScope s_l_parts) .none kV_l_parts dc_l_parts pm_l_parts an_l_parts cd_l_parts ct_l_parts), sl_l_parts⟩)
    (c_l_parts : PySem.W.codeIn K cd_l_parts "_law_parts" = true)
    (k_l_parts : PySem.W.keepIn K (.ref f_l_parts) = true)
    (a_l_fair : PySem.W.nsIn K mainGlobals "_law_fair" = some (some (.ref f_l_fair)))
    (l_l_fair : K.lookup f_l_fair = some ⟨oc_l_fair, od_l_fair, .func (PySem.W.fnOf "_law_fair" "_law_fair" (defArgs s_l_fair) (defBody s_l_fair) (defScope s_l_fair) .none kV_l_fair dc_l_fair pm_l_fair an_l_fair cd_l_fair ct_l_fair), sl_l_fair⟩)
    (c_l_fair : PySem.W.codeIn K cd_l_fair "_law_fair" = true)
    (k_l_fair : PySem.W.keepIn K (.ref f_l_fair) = true)
    (a_l_number : PySem.W.nsIn K mainGlobals "_law_number" = some (some (.ref f_l_number)))
    (l_l_number : K.lookup f_l_number = some ⟨oc_l_number, od_l_number, .func (PySem.W.fnOf "_law_number" "_law_number" (defArgs s_l_number) (defBody s_l_number) (defScope s_l_number) .none kV_l_number dc_l_number pm_l_number an_l_number cd_l_number ct_l_number), sl_l_number⟩)
    (c_l_number : PySem.W.codeIn K cd_l_number "_law_number" = true)
    (k_l_number : PySem.W.keepIn K (.ref f_l_number) = true)
    (a_l_grid : PySem.W.nsIn K mainGlobals "_law_grid" = some (some (.ref f_l_grid)))
    (l_l_grid : K.lookup f_l_grid = some ⟨oc_l_grid, od_l_grid, .func (PySem.W.fnOf "_law_grid" "_law_grid" (defArgs s_l_grid) (defBody s_l_grid) (defScope s_l_grid) .none kV_l_grid dc_l_grid pm_l_grid an_l_grid cd_l_grid ct_l_grid), sl_l_grid⟩)
    (c_l_grid : PySem.W.codeIn K cd_l_grid "_law_grid" = true)
    (k_l_grid : PySem.W.keepIn K (.ref f_l_grid) = true)
    (a_l_in_rows : PySem.W.nsIn K mainGlobals "_law_in_rows" = some (some (.ref f_l_in_rows)))
    (l_l_in_rows : K.lookup f_l_in_rows = some ⟨oc_l_in_rows, od_l_in_rows, .func (PySem.W.fnOf "_law_in_rows" "_law_in_rows" (defArgs s_l_in_rows) (defBody s_l_in_rows) (defScope s_l_in_rows) .none kV_l_in_rows dc_l_in_rows pm_l_in_rows an_l_in_rows cd_l_in_rows ct_l_in_rows), sl_l_in_rows⟩)
    (c_l_in_rows : PySem.W.codeIn K cd_l_in_rows "_law_in_rows" = true)
    (k_l_in_rows : PySem.W.keepIn K (.ref f_l_in_rows) = true)
    (a_l_in_columns : PySem.W.nsIn K mainGlobals "_law_in_columns" = some (some (.ref f_l_in_columns)))
    (l_l_in_columns : K.lookup f_l_in_columns = some ⟨oc_l_in_columns, od_l_in_columns, .func (PySem.W.fnOf "_law_in_columns" "_law_in_columns" (defArgs s_l_in_columns) (defBody s_l_in_columns) (defScope s_l_in_columns) .none kV_l_in_columns dc_l_in_columns pm_l_in_columns an_l_in_columns cd_l_in_columns ct_l_in_columns), sl_l_in_columns⟩)
    (c_l_in_columns : PySem.W.codeIn K cd_l_in_columns "_law_in_columns" = true)
    (k_l_in_columns : PySem.W.keepIn K (.ref f_l_in_columns) = true)
    (a_l_shares : PySem.W.nsIn K mainGlobals "_law_shares" = some (some (.ref f_l_shares)))
    (l_l_shares : K.lookup f_l_shares = some ⟨oc_l_shares, od_l_shares, .func (PySem.W.fnOf "_law_shares" "_law_shares" (defArgs s_l_shares) (defBody s_l_shares) (defScope s_l_shares) .none kV_l_shares dc_l_shares pm_l_shares an_l_shares cd_l_shares ct_l_shares), sl_l_shares⟩)
    (c_l_shares : PySem.W.codeIn K cd_l_shares "_law_shares" = true)
    (k_l_shares : PySem.W.keepIn K (.ref f_l_shares) = true)
    (a_l_due : PySem.W.nsIn K mainGlobals "_law_due" = some (some (.ref f_l_due)))
    (l_l_due : K.lookup f_l_due = some ⟨oc_l_due, od_l_due, .func (PySem.W.fnOf "_law_due" "_law_due" (defArgs s_l_due) (defBody s_l_due) (defScope s_l_due) .none kV_l_due dc_l_due pm_l_due an_l_due cd_l_due ct_l_due), sl_l_due⟩)
    (c_l_due : PySem.W.codeIn K cd_l_due "_law_due" = true)
    (k_l_due : PySem.W.keepIn K (.ref f_l_due) = true)
    (a_l_within : PySem.W.nsIn K mainGlobals "_law_within" = some (some (.ref f_l_within)))
    (l_l_within : K.lookup f_l_within = some ⟨oc_l_within, od_l_within, .func (PySem.W.fnOf "_law_within" "_law_within" (defArgs s_l_within) (defBody s_l_within) (defScope s_l_within) .none kV_l_within dc_l_within pm_l_within an_l_within cd_l_within ct_l_within), sl_l_within⟩)
    (c_l_within : PySem.W.codeIn K cd_l_within "_law_within" = true)
    (k_l_within : PySem.W.keepIn K (.ref f_l_within) = true)
    (a_l_is_needed : PySem.W.nsIn K mainGlobals "_law_is_needed" = some (some (.ref f_l_is_needed)))
    (l_l_is_needed : K.lookup f_l_is_needed = some ⟨oc_l_is_needed, od_l_is_needed, .func (PySem.W.fnOf "_law_is_needed" "_law_is_needed" (defArgs s_l_is_needed) (defBody s_l_is_needed) (defScope s_l_is_needed) .none kV_l_is_needed dc_l_is_needed pm_l_is_needed an_l_is_needed cd_l_is_needed ct_l_is_needed), sl_l_is_needed⟩)
    (c_l_is_needed : PySem.W.codeIn K cd_l_is_needed "_law_is_needed" = true)
    (k_l_is_needed : PySem.W.keepIn K (.ref f_l_is_needed) = true)
    (a_l_right : PySem.W.nsIn K mainGlobals "_law_right" = some (some (.ref f_l_right)))
    (l_l_right : K.lookup f_l_right = some ⟨oc_l_right, od_l_right, .func (PySem.W.fnOf "_law_right" "_law_right" (defArgs s_l_right) (defBody s_l_right) (defScope s_l_right) .none kV_l_right dc_l_right pm_l_right an_l_right cd_l_right ct_l_right), sl_l_right⟩)
    (c_l_right : PySem.W.codeIn K cd_l_right "_law_right" = true)
    (k_l_right : PySem.W.keepIn K (.ref f_l_right) = true)
    (a_law : PySem.W.nsIn K mainGlobals "law" = some (some (.ref f_law)))
    (l_law : K.lookup f_law = some ⟨oc_law, od_law, .func (PySem.W.fnOf "law" "law" (defArgs s_law) (defBody s_law) (defScope s_law) .none kV_law dc_law pm_law an_law cd_law ct_law), sl_law⟩)
    (c_law : PySem.W.codeIn K cd_law "law" = true)
    (k_law : PySem.W.keepIn K (.ref f_law) = true)
    (pg_Fair : PySem.W.plainGet K C_Fair Str.empty = true)
    (hd_Fair : PySem.W.hasDictIn K C_Fair = true)
    (po_Fair : PySem.W.plainOver K C_Fair = true)
    (sa_Fair : PySem.W.findIn K (.ref C_Fair) "__setattr__" = some (some (.builtin "object.__setattr__")))
    (mk_Fair : PySem.W.makesIn K C_Fair = true)
    (kc_Fair : PySem.W.keepIn K (.ref C_Fair) = true)
    (na_hosts_Fair : PySem.W.findIn K (.ref C_Fair) "_hosts" = some none)
    (na_guests_Fair : PySem.W.findIn K (.ref C_Fair) "_guests" = some none)
    (na_tables_Fair : PySem.W.findIn K (.ref C_Fair) "_tables" = some none)
    (na_names_Fair : PySem.W.findIn K (.ref C_Fair) "_names" = some none)
    (na_text_Fair : PySem.W.findIn K (.ref C_Fair) "_text" = some none)
    (ha_Fair : PySem.W.findIn K (.ref C_Fair) "__class__" = some (some (.builtin "object.__class__")))
    (hn_Fair : PySem.W.specialIn K (.builtin "object.__class__") "__get__" = some (some (.builtin "getset_descriptor.__get__")))
    (htk_Fair : PySem.W.takesIn K (.builtin "object.__class__") = some true)
    (hm_Fair : PySem.W.mroIn K C_Fair (.type "object") = some true)
    (kC_Fair : PySem.W.kitOne K (.ref C_Fair) (.ref C_Fair) = some true)
    (kb0_Fair : PySem.W.kitOne K (.type "NoneType") (.ref C_Fair) = some false)
    (kb1_Fair : PySem.W.kitOne K (.type "bool") (.ref C_Fair) = some false)
    (kb2_Fair : PySem.W.kitOne K (.type "int") (.ref C_Fair) = some false)
    (kb3_Fair : PySem.W.kitOne K (.type "str") (.ref C_Fair) = some false)
    (kb4_Fair : PySem.W.kitOne K (.type "list") (.ref C_Fair) = some false)
    (kb5_Fair : PySem.W.kitOne K (.type "tuple") (.ref C_Fair) = some false)
    (kb6_Fair : PySem.W.kitOne K (.type "dict") (.ref C_Fair) = some false)
    (ko0_Fair : PySem.W.kitOne K (.ref C_Fair) (.type "NoneType") = some false)
    (ko1_Fair : PySem.W.kitOne K (.ref C_Fair) (.type "bool") = some false)
    (ko2_Fair : PySem.W.kitOne K (.ref C_Fair) (.type "int") = some false)
    (ko3_Fair : PySem.W.kitOne K (.ref C_Fair) (.type "str") = some false)
    (ko4_Fair : PySem.W.kitOne K (.ref C_Fair) (.type "list") = some false)
    (ko5_Fair : PySem.W.kitOne K (.ref C_Fair) (.type "tuple") = some false)
    (ko6_Fair : PySem.W.kitOne K (.ref C_Fair) (.type "dict") = some false)
    (z_int : PySem.W.nsIn K mainGlobals "int" = some none)
    (z_isinstance : PySem.W.nsIn K mainGlobals "isinstance" = some none)
    (z_bool : PySem.W.nsIn K mainGlobals "bool" = some none)
    (z_str : PySem.W.nsIn K mainGlobals "str" = some none)
    (z_len : PySem.W.nsIn K mainGlobals "len" = some none)
    (z_all : PySem.W.nsIn K mainGlobals "all" = some none)
    (z_tuple : PySem.W.nsIn K mainGlobals "tuple" = some none)
    (z_sum : PySem.W.nsIn K mainGlobals "sum" = some none)
    (z_abs : PySem.W.nsIn K mainGlobals "abs" = some none)
    (z_divmod : PySem.W.nsIn K mainGlobals "divmod" = some none)
    (z_list : PySem.W.nsIn K mainGlobals "list" = some none)
    (z_range : PySem.W.nsIn K mainGlobals "range" = some none)
    (z_enumerate : PySem.W.nsIn K mainGlobals "enumerate" = some none)
    (z_zip : PySem.W.nsIn K mainGlobals "zip" = some none)
    (z_max : PySem.W.nsIn K mainGlobals "max" = some none)
    (z_repr : PySem.W.nsIn K mainGlobals "repr" = some none)
    (z_min : PySem.W.nsIn K mainGlobals "min" = some none)
    (m__LONGEST_NAME : PySem.W.nsIn K mainGlobals "_LONGEST_NAME" = some (some (.int 8 tk__LONGEST_NAME)))
    (m__FIRST_SIGNS : PySem.W.nsIn K mainGlobals "_FIRST_SIGNS" = some (some (.str "abcdefghijklmnopqrstuvwxyz" tk__FIRST_SIGNS)))
    (m__SIGNS : PySem.W.nsIn K mainGlobals "_SIGNS" = some (some (.str "abcdefghijklmnopqrstuvwxyz0123456789" tk__SIGNS)))
    (m_MOST_BOUND : PySem.W.nsIn K mainGlobals "MOST_BOUND" = some (some (.int 4 tk_MOST_BOUND)))
    (m_MOST_SIDE : PySem.W.nsIn K mainGlobals "MOST_SIDE" = some (some (.int 4 tk_MOST_SIDE)))
    (m_MOST_TABLES : PySem.W.nsIn K mainGlobals "MOST_TABLES" = some (some (.int 12 tk_MOST_TABLES)))
    (m_MOST_MEETINGS : PySem.W.nsIn K mainGlobals "MOST_MEETINGS" = some (some (.int 1000000000000000000000000000000 tk_MOST_MEETINGS)))
    : ∃ fd : FuncData, (∀ (s : Shared) (v : Value), BindsTo s fd ⟨[v], []⟩ [("_law_script", v)]) ∧ ∀ base : Heap, K.In base → base.Ns mainGlobals mg → FnG l.prog w K mg base CX0 9 fa fd ["_law_script"] (sp_topB K) := by
  have e := hfa.symm.trans (PySem.W.mg_of X G a_law)
  cases e
  have F_is_integer : FunD K "is_integer" "is_integer" (defArgs s_is_integer) (defBody s_is_integer) (defScope s_is_integer) [.non] [] f_is_integer _ := ⟨⟨_, _, _, _, _, _, _, _, _, _, rfl, l_is_integer, c_is_integer, .inr ⟨by simp, dd_is_integer, _, [Value.none], nd_is_integer, rfl, ld_is_integer, rfl, (.cons rfl .nil)⟩, .inl rfl⟩, k_is_integer⟩
  have F_is_name := fun_mk (st := s_is_name) l_is_name c_is_name k_is_name
  have F_is_pair := fun_mk (st := s_is_pair) l_is_pair c_is_pair k_is_pair
  have F_is_member := fun_mk (st := s_is_member) l_is_member c_is_member k_is_member
  have F_fault := fun_mk (st := s_fault) l_fault c_fault k_fault
  have F_names_of := fun_mk (st := s_names_of) l_names_of c_names_of k_names_of
  have F_text_of := fun_mk (st := s_text_of) l_text_of c_text_of k_text_of
  have F_Fairu_initu : FunD K "__init__" "Fair.__init__" (defArgs s_Fairu_initu) (defBody s_Fairu_initu) (defScope s_Fairu_initu) [.non] [] f_Fairu_initu _ := ⟨⟨_, _, _, _, _, _, _, _, _, _, rfl, l_Fairu_initu, c_Fairu_initu, .inr ⟨by simp, dd_Fairu_initu, _, [Value.none], nd_Fairu_initu, rfl, ld_Fairu_initu, rfl, (.cons rfl .nil)⟩, .inl rfl⟩, k_Fairu_initu⟩
  have F_Fair_hosts := fun_mk (st := s_Fair_hosts) l_Fair_hosts c_Fair_hosts k_Fair_hosts
  have F_Fair_guests := fun_mk (st := s_Fair_guests) l_Fair_guests c_Fair_guests k_Fair_guests
  have F_Fair_tables := fun_mk (st := s_Fair_tables) l_Fair_tables c_Fair_tables k_Fair_tables
  have F_is_row := fun_mk (st := s_is_row) l_is_row c_is_row k_is_row
  have F_table_fault : FunD K "table_fault" "table_fault" (defArgs s_table_fault) (defBody s_table_fault) (defScope s_table_fault) [.non] [] f_table_fault _ := ⟨⟨_, _, _, _, _, _, _, _, _, _, rfl, l_table_fault, c_table_fault, .inr ⟨by simp, dd_table_fault, _, [Value.none], nd_table_fault, rfl, ld_table_fault, rfl, (.cons rfl .nil)⟩, .inl rfl⟩, k_table_fault⟩
  have F_sum_of := fun_mk (st := s_sum_of) l_sum_of c_sum_of k_sum_of
  have F_ceiling := fun_mk (st := s_ceiling) l_ceiling c_ceiling k_ceiling
  have F_check_fair := fun_mk (st := s_check_fair) l_check_fair c_check_fair k_check_fair
  have F_meetings_fault := fun_mk (st := s_meetings_fault) l_meetings_fault c_meetings_fault k_meetings_fault
  have F_check_meetings := fun_mk (st := s_check_meetings) l_check_meetings c_check_meetings k_check_meetings
  have F_check_number := fun_mk (st := s_check_number) l_check_number c_check_number k_check_number
  have F_check_planned := fun_mk (st := s_check_planned) l_check_planned c_check_planned k_check_planned
  have F_reasons := fun_mk (st := s_reasons) l_reasons c_reasons k_reasons
  have F_least_rounds := fun_mk (st := s_least_rounds) l_least_rounds c_least_rounds k_least_rounds
  have F_load := fun_mk (st := s_load) l_load c_load k_load
  have F_tables_needed := fun_mk (st := s_tables_needed) l_tables_needed c_tables_needed k_tables_needed
  have F_l_jug := fun_mk (st := s_l_jug) l_l_jug c_l_jug k_l_jug
  have F_l_pour := fun_mk (st := s_l_pour) l_l_pour c_l_pour k_l_pour
  have F_l_word := fun_mk (st := s_l_word) l_l_word c_l_word k_l_word
  have F_l_words := fun_mk (st := s_l_words) l_l_words c_l_words k_l_words
  have F_l_parts := fun_mk (st := s_l_parts) l_l_parts c_l_parts k_l_parts
  have F_l_fair := fun_mk (st := s_l_fair) l_l_fair c_l_fair k_l_fair
  have F_l_number := fun_mk (st := s_l_number) l_l_number c_l_number k_l_number
  have F_l_grid := fun_mk (st := s_l_grid) l_l_grid c_l_grid k_l_grid
  have F_l_in_rows := fun_mk (st := s_l_in_rows) l_l_in_rows c_l_in_rows k_l_in_rows
  have F_l_in_columns := fun_mk (st := s_l_in_columns) l_l_in_columns c_l_in_columns k_l_in_columns
  have F_l_shares := fun_mk (st := s_l_shares) l_l_shares c_l_shares k_l_shares
  have F_l_due := fun_mk (st := s_l_due) l_l_due c_l_due k_l_due
  have F_l_within := fun_mk (st := s_l_within) l_l_within c_l_within k_l_within
  have F_l_is_needed := fun_mk (st := s_l_is_needed) l_l_is_needed c_l_is_needed k_l_is_needed
  have F_l_right := fun_mk (st := s_l_right) l_l_right c_l_right k_l_right
  have F_law := fun_mk (st := s_law) l_law c_law k_law
  have T_Fair : ClsT K C_Fair := ⟨⟨pg_Fair, hd_Fair, po_Fair, sa_Fair⟩, ha_Fair, hn_Fair, htk_Fair, hm_Fair⟩
  have KT_Fair := kitT_one (ns := ns_Fair) T_Fair kC_Fair (by intro b hb; simp only [bts, List.mem_cons, List.not_mem_nil, or_false] at hb; rcases hb with rfl | rfl | rfl | rfl | rfl | rfl | rfl <;> assumption) (by intro b hb; simp only [bts, List.mem_cons, List.not_mem_nil, or_false] at hb; rcases hb with rfl | rfl | rfl | rfl | rfl | rfl | rfl <;> assumption)
  let T : Tx K mg (fun k => if k = 0 then some (C_Fair, ns_Fair) else none) := {
    f_is_integer := f_is_integer
    d_is_integer := _
    f_is_name := f_is_name
    d_is_name := _
    f_is_pair := f_is_pair
    d_is_pair := _
    f_is_member := f_is_member
    d_is_member := _
    f_fault := f_fault
    d_fault := _
    f_names_of := f_names_of
    d_names_of := _
    f_text_of := f_text_of
    d_text_of := _
    f_Fairu_initu := f_Fairu_initu
    d_Fairu_initu := _
    f_Fair_hosts := f_Fair_hosts
    d_Fair_hosts := _
    f_Fair_guests := f_Fair_guests
    d_Fair_guests := _
    f_Fair_tables := f_Fair_tables
    d_Fair_tables := _
    f_is_row := f_is_row
    d_is_row := _
    f_table_fault := f_table_fault
    d_table_fault := _
    f_sum_of := f_sum_of
    d_sum_of := _
    f_ceiling := f_ceiling
    d_ceiling := _
    f_check_fair := f_check_fair
    d_check_fair := _
    f_meetings_fault := f_meetings_fault
    d_meetings_fault := _
    f_check_meetings := f_check_meetings
    d_check_meetings := _
    f_check_number := f_check_number
    d_check_number := _
    f_check_planned := f_check_planned
    d_check_planned := _
    f_reasons := f_reasons
    d_reasons := _
    f_least_rounds := f_least_rounds
    d_least_rounds := _
    f_load := f_load
    d_load := _
    f_tables_needed := f_tables_needed
    d_tables_needed := _
    f_l_jug := f_l_jug
    d_l_jug := _
    f_l_pour := f_l_pour
    d_l_pour := _
    f_l_word := f_l_word
    d_l_word := _
    f_l_words := f_l_words
    d_l_words := _
    f_l_parts := f_l_parts
    d_l_parts := _
    f_l_fair := f_l_fair
    d_l_fair := _
    f_l_number := f_l_number
    d_l_number := _
    f_l_grid := f_l_grid
    d_l_grid := _
    f_l_in_rows := f_l_in_rows
    d_l_in_rows := _
    f_l_in_columns := f_l_in_columns
    d_l_in_columns := _
    f_l_shares := f_l_shares
    d_l_shares := _
    f_l_due := f_l_due
    d_l_due := _
    f_l_within := f_l_within
    d_l_within := _
    f_l_is_needed := f_l_is_needed
    d_l_is_needed := _
    f_l_right := f_l_right
    d_l_right := _
    f_law := fa
    d_law := _
    C_Fair := C_Fair
    pa_Fair_hosts := pa_Fair_hosts
    pa_Fair_guests := pa_Fair_guests
    pa_Fair_tables := pa_Fair_tables
    n_int := PySem.W.mg_none_of X G z_int
    kt := KT_Fair
    n_isinstance := PySem.W.mg_none_of X G z_isinstance
    n_bool := PySem.W.mg_none_of X G z_bool
    F_is_integer := F_is_integer
    n_str := PySem.W.mg_none_of X G z_str
    n_len := PySem.W.mg_none_of X G z_len
    c_LONGEST_NAME := ⟨_, PySem.W.mg_of X G m__LONGEST_NAME⟩
    c_FIRST_SIGNS := ⟨_, PySem.W.mg_of X G m__FIRST_SIGNS⟩
    c_SIGNS := ⟨_, PySem.W.mg_of X G m__SIGNS⟩
    n_all := PySem.W.mg_none_of X G z_all
    F_is_name := F_is_name
    n_tuple := PySem.W.mg_none_of X G z_tuple
    F_is_pair := F_is_pair
    F_names_of := F_names_of
    F_text_of := F_text_of
    ct_Fair := rfl
    cl_Fair := T_Fair
    na_Fair_hosts := na_hosts_Fair
    F_Fair_hosts := F_Fair_hosts
    na_Fair_guests := na_guests_Fair
    F_Fair_guests := F_Fair_guests
    na_Fair_tables := na_tables_Fair
    F_Fair_tables := F_Fair_tables
    n_sum := PySem.W.mg_none_of X G z_sum
    F_sum_of := F_sum_of
    F_ceiling := F_ceiling
    g_Fair := PySem.W.mg_of X G aC_Fair
    F_check_fair := F_check_fair
    n_abs := PySem.W.mg_none_of X G z_abs
    F_l_jug := F_l_jug
    n_divmod := PySem.W.mg_none_of X G z_divmod
    F_l_pour := F_l_pour
    n_list := PySem.W.mg_none_of X G z_list
    F_l_in_rows := F_l_in_rows
    n_range := PySem.W.mg_none_of X G z_range
    F_l_in_columns := F_l_in_columns
    F_l_within := F_l_within
    b_is_pair := F_is_pair.binds (ps := ["value"]) fun _ _ _ _ _ _ us hl => match us, hl with | [_], _ => rfl
    v_is_pair := PySem.W.mg_of X G a_is_pair
    k_is_pair := k_is_pair
    b_is_name := F_is_name.binds (ps := ["value"]) fun _ _ _ _ _ _ us hl => match us, hl with | [_], _ => rfl
    v_is_name := PySem.W.mg_of X G a_is_name
    k_is_name := k_is_name
    c_MOST_BOUND := ⟨_, PySem.W.mg_of X G m_MOST_BOUND⟩
    b_is_integer := fb_is_integer F_is_integer
    v_is_integer := PySem.W.mg_of X G a_is_integer
    k_is_integer := k_is_integer
    F_is_member := F_is_member
    F_is_row := F_is_row
    bd_is_integer_1 := fbd_is_integer_1 F_is_integer
    F_check_number := F_check_number
    b_l_pour := F_l_pour.binds (ps := ["_law_jug_here", "_law_many"]) fun _ _ _ _ _ _ us hl => match us, hl with | [_, _], _ => rfl
    v_l_pour := PySem.W.mg_of X G a_l_pour
    k_l_pour := k_l_pour
    F_l_word := F_l_word
    F_l_number := F_l_number
    b_l_in_columns := F_l_in_columns.binds (ps := ["_law_grid_here"]) fun _ _ _ _ _ _ us hl => match us, hl with | [_], _ => rfl
    v_l_in_columns := PySem.W.mg_of X G a_l_in_columns
    k_l_in_columns := k_l_in_columns
    b_l_in_rows := F_l_in_rows.binds (ps := ["_law_grid_here"]) fun _ _ _ _ _ _ us hl => match us, hl with | [_], _ => rfl
    v_l_in_rows := PySem.W.mg_of X G a_l_in_rows
    k_l_in_rows := k_l_in_rows
    F_l_shares := F_l_shares
    n_enumerate := PySem.W.mg_none_of X G z_enumerate
    c_MOST_SIDE := ⟨_, PySem.W.mg_of X G m_MOST_SIDE⟩
    b_is_member := F_is_member.binds (ps := ["value"]) fun _ _ _ _ _ _ us hl => match us, hl with | [_], _ => rfl
    v_is_member := PySem.W.mg_of X G a_is_member
    k_is_member := k_is_member
    F_fault := F_fault
    b_is_row := F_is_row.binds (ps := ["value", "guests", "most"]) fun _ _ _ _ _ _ us hl => match us, hl with | [_, _, _], _ => rfl
    v_is_row := PySem.W.mg_of X G a_is_row
    k_is_row := k_is_row
    F_table_fault := F_table_fault
    n_zip := PySem.W.mg_none_of X G z_zip
    p_Fair_hosts := ⟨a_Fair_hosts, g_Fair_hosts, t_Fair_hosts, _, r_Fair_hosts⟩
    b_Fair_hosts := F_Fair_hosts.binds (ps := ["self"]) fun _ _ _ _ _ _ us hl => match us, hl with | [_], _ => rfl
    b_ceiling := F_ceiling.binds (ps := ["number", "by"]) fun _ _ _ _ _ _ us hl => match us, hl with | [_, _], _ => rfl
    v_ceiling := PySem.W.mg_of X G a_ceiling
    k_ceiling := k_ceiling
    p_Fair_guests := ⟨a_Fair_guests, g_Fair_guests, t_Fair_guests, _, r_Fair_guests⟩
    b_Fair_guests := F_Fair_guests.binds (ps := ["self"]) fun _ _ _ _ _ _ us hl => match us, hl with | [_], _ => rfl
    p_Fair_tables := ⟨a_Fair_tables, g_Fair_tables, t_Fair_tables, _, r_Fair_tables⟩
    b_Fair_tables := F_Fair_tables.binds (ps := ["self"]) fun _ _ _ _ _ _ us hl => match us, hl with | [_], _ => rfl
    F_reasons := F_reasons
    b_l_word := F_l_word.binds (ps := ["_law_jug_here"]) fun _ _ _ _ _ _ us hl => match us, hl with | [_], _ => rfl
    v_l_word := PySem.W.mg_of X G a_l_word
    k_l_word := k_l_word
    F_l_words := F_l_words
    b_l_number := F_l_number.binds (ps := ["_law_jug_here", "_law_way"]) fun _ _ _ _ _ _ us hl => match us, hl with | [_, _], _ => rfl
    v_l_number := PySem.W.mg_of X G a_l_number
    k_l_number := k_l_number
    F_l_grid := F_l_grid
    b_l_shares := F_l_shares.binds (ps := ["_law_parts_here", "_law_grid_here"]) fun _ _ _ _ _ _ us hl => match us, hl with | [_, _], _ => rfl
    v_l_shares := PySem.W.mg_of X G a_l_shares
    k_l_shares := k_l_shares
    n_max := PySem.W.mg_none_of X G z_max
    F_l_due := F_l_due
    b_fault := F_fault.binds (ps := ["side", "taken"]) fun _ _ _ _ _ _ us hl => match us, hl with | [_, _], _ => rfl
    v_fault := PySem.W.mg_of X G a_fault
    k_fault := k_fault
    b_names_of := F_names_of.binds (ps := ["side"]) fun _ _ _ _ _ _ us hl => match us, hl with | [_], _ => rfl
    v_names_of := PySem.W.mg_of X G a_names_of
    k_names_of := k_names_of
    c_MOST_TABLES := ⟨_, PySem.W.mg_of X G m_MOST_TABLES⟩
    na_Fair_names := na_names_Fair
    na_Fair_text := na_text_Fair
    b_text_of := F_text_of.binds (ps := ["hosts", "guests", "tables"]) fun _ _ _ _ _ _ us hl => match us, hl with | [_, _, _], _ => rfl
    v_text_of := PySem.W.mg_of X G a_text_of
    k_text_of := k_text_of
    F_Fairu_initu := F_Fairu_initu
    c_MOST_MEETINGS := ⟨_, PySem.W.mg_of X G m_MOST_MEETINGS⟩
    b_table_fault := fb_table_fault F_table_fault
    v_table_fault := PySem.W.mg_of X G a_table_fault
    k_table_fault := k_table_fault
    F_meetings_fault := F_meetings_fault
    b_reasons := F_reasons.binds (ps := ["fair", "meetings"]) fun _ _ _ _ _ _ us hl => match us, hl with | [_, _], _ => rfl
    v_reasons := PySem.W.mg_of X G a_reasons
    k_reasons := k_reasons
    F_least_rounds := F_least_rounds
    b_l_words := F_l_words.binds (ps := ["_law_jug_here", "_law_many"]) fun _ _ _ _ _ _ us hl => match us, hl with | [_, _], _ => rfl
    v_l_words := PySem.W.mg_of X G a_l_words
    k_l_words := k_l_words
    F_l_parts := F_l_parts
    b_meetings_fault := F_meetings_fault.binds (ps := ["fair", "value"]) fun _ _ _ _ _ _ us hl => match us, hl with | [_, _], _ => rfl
    v_meetings_fault := PySem.W.mg_of X G a_meetings_fault
    k_meetings_fault := k_meetings_fault
    F_check_meetings := F_check_meetings
    b_check_fair := F_check_fair.binds (ps := ["fair"]) fun _ _ _ _ _ _ us hl => match us, hl with | [_], _ => rfl
    v_check_fair := PySem.W.mg_of X G a_check_fair
    k_check_fair := k_check_fair
    b_check_meetings := F_check_meetings.binds (ps := ["fair", "meetings"]) fun _ _ _ _ _ _ us hl => match us, hl with | [_, _], _ => rfl
    v_check_meetings := PySem.W.mg_of X G a_check_meetings
    k_check_meetings := k_check_meetings
    b_check_number := F_check_number.binds (ps := ["given"]) fun _ _ _ _ _ _ us hl => match us, hl with | [_], _ => rfl
    v_check_number := PySem.W.mg_of X G a_check_number
    k_check_number := k_check_number
    F_check_planned := F_check_planned
    b_least_rounds := F_least_rounds.binds (ps := ["fair", "meetings"]) fun _ _ _ _ _ _ us hl => match us, hl with | [_, _], _ => rfl
    v_least_rounds := PySem.W.mg_of X G a_least_rounds
    k_least_rounds := k_least_rounds
    F_load := F_load
    b_Fairu_initu := fb_Fairu_initu F_Fairu_initu
    M_Fair := ⟨mk_Fair, a_Fairu_initu, i_Fairu_initu, kc_Fair⟩
    F_l_fair := F_l_fair
    b_check_planned := F_check_planned.binds (ps := ["fair", "meetings", "rounds"]) fun _ _ _ _ _ _ us hl => match us, hl with | [_, _, _], _ => rfl
    v_check_planned := PySem.W.mg_of X G a_check_planned
    k_check_planned := k_check_planned
    b_sum_of := F_sum_of.binds (ps := ["table"]) fun _ _ _ _ _ _ us hl => match us, hl with | [_], _ => rfl
    v_sum_of := PySem.W.mg_of X G a_sum_of
    k_sum_of := k_sum_of
    bd_Fairu_initu_1 := fbd_Fairu_initu_1 F_Fairu_initu
    F_tables_needed := F_tables_needed
    b_l_due := F_l_due.binds (ps := ["_law_parts_here", "_law_grid_here"]) fun _ _ _ _ _ _ us hl => match us, hl with | [_, _], _ => rfl
    v_l_due := PySem.W.mg_of X G a_l_due
    k_l_due := k_l_due
    b_l_within := F_l_within.binds (ps := ["_law_thing", "_law_least", "_law_most"]) fun _ _ _ _ _ _ us hl => match us, hl with | [_, _, _], _ => rfl
    v_l_within := PySem.W.mg_of X G a_l_within
    k_l_within := k_l_within
    b_load := F_load.binds (ps := ["fair", "meetings"]) fun _ _ _ _ _ _ us hl => match us, hl with | [_, _], _ => rfl
    v_load := PySem.W.mg_of X G a_load
    k_load := k_load
    F_l_is_needed := F_l_is_needed
    b_l_parts := F_l_parts.binds (ps := ["_law_jug_here", "_law_most_here", "_law_most_there"]) fun _ _ _ _ _ _ us hl => match us, hl with | [_, _, _], _ => rfl
    v_l_parts := PySem.W.mg_of X G a_l_parts
    k_l_parts := k_l_parts
    b_l_fair := F_l_fair.binds (ps := ["_law_parts_here"]) fun _ _ _ _ _ _ us hl => match us, hl with | [_], _ => rfl
    v_l_fair := PySem.W.mg_of X G a_l_fair
    k_l_fair := k_l_fair
    b_l_grid := F_l_grid.binds (ps := ["_law_jug_here", "_law_parts_here", "_law_way"]) fun _ _ _ _ _ _ us hl => match us, hl with | [_, _, _], _ => rfl
    v_l_grid := PySem.W.mg_of X G a_l_grid
    k_l_grid := k_l_grid
    b_tables_needed := F_tables_needed.binds (ps := ["fair", "meetings", "rounds"]) fun _ _ _ _ _ _ us hl => match us, hl with | [_, _, _], _ => rfl
    v_tables_needed := PySem.W.mg_of X G a_tables_needed
    k_tables_needed := k_tables_needed
    b_l_is_needed := F_l_is_needed.binds (ps := ["_law_parts_here", "_law_grid_here", "_law_many", "_law_told"]) fun _ _ _ _ _ _ us hl => match us, hl with | [_, _, _, _], _ => rfl
    v_l_is_needed := PySem.W.mg_of X G a_l_is_needed
    k_l_is_needed := k_l_is_needed
    kb_tables_needed_120 := kb_gP [1, 2, 0] F_tables_needed fun _ _ _ _ _ _ ws hl => match ws, hl with | [_, _, _], _ => rfl
    n_repr := PySem.W.mg_none_of X G z_repr
    F_l_right := F_l_right
    n_min := PySem.W.mg_none_of X G z_min
    b_l_jug := F_l_jug.binds (ps := ["_law_script", "_law_at"]) fun _ _ _ _ _ _ us hl => match us, hl with | [_, _], _ => rfl
    v_l_jug := PySem.W.mg_of X G a_l_jug
    k_l_jug := k_l_jug
    b_l_right := F_l_right.binds (ps := ["_law_jug_here"]) fun _ _ _ _ _ _ us hl => match us, hl with | [_], _ => rfl
    v_l_right := PySem.W.mg_of X G a_l_right
    k_l_right := k_l_right
    F_law := F_law }
  refine ⟨_, fun s v => ?_, fun base _ _ => QD.FnG.imp ((ok_law (P := l.prog) (w := w) (base := base) (ce := fun _ => 0) T)) fun vs H Q E s => sp_topB_ok (cf := ⟨K, (fun k => if k = 0 then some (C_Fair, ns_Fair) else none), fun _ => 0⟩) law_ok s⟩
  exact .of_eq rfl
end K14
open PySem PySem.W PyProof.Rows in
set_option maxRecDepth 100000 in
set_option maxHeartbeats 0 in
theorem PySem.Challenge.cw_meetrounds_k14_whole_tables_needed_holds : PySem.Challenge.rw_meetrounds_k14_whole_tables_needed.Holds := by
  w_on; o_law; k_head; (case hw => w_witness2)
  k_fill
  refine TopG.walkGB (l := PySem.Challenge.rw_meetrounds_k14_whole_tables_needed) (n := 63) (k := 9) (x := "_law_script") (sp := QD.sp_topB) rfl (by decide) rfl ⟨rfl, by decide, by decide⟩ (fun w h Y => PySem.W.kIn_of Y) ?F (fun K H a ns hl hb hS => ⟨a, ns, rfl, hS, hl, hb, fun _ => rfl⟩)
  case F =>
    intro w mg fa h KX G hmg
    refine' K14.all_mk KX G hmg ?aC_Fair ?a_is_integer ?l_is_integer ?c_is_integer ?k_is_integer ?ld_is_integer ?a_is_name ?l_is_name ?c_is_name ?k_is_name ?a_is_pair ?l_is_pair ?c_is_pair ?k_is_pair ?a_is_member ?l_is_member ?c_is_member ?k_is_member ?a_fault ?l_fault ?c_fault ?k_fault ?a_names_of ?l_names_of ?c_names_of ?k_names_of ?a_text_of ?l_text_of ?c_text_of ?k_text_of ?a_Fairu_initu ?i_Fairu_initu ?l_Fairu_initu ?c_Fairu_initu ?k_Fairu_initu ?ld_Fairu_initu ?a_Fair_hosts ?g_Fair_hosts ?t_Fair_hosts ?r_Fair_hosts ?l_Fair_hosts ?c_Fair_hosts ?k_Fair_hosts ?a_Fair_guests ?g_Fair_guests ?t_Fair_guests ?r_Fair_guests ?l_Fair_guests ?c_Fair_guests ?k_Fair_guests ?a_Fair_tables ?g_Fair_tables ?t_Fair_tables ?r_Fair_tables ?l_Fair_tables ?c_Fair_tables ?k_Fair_tables ?a_is_row ?l_is_row ?c_is_row ?k_is_row ?a_table_fault ?l_table_fault ?c_table_fault ?k_table_fault ?ld_table_fault ?a_sum_of ?l_sum_of ?c_sum_of ?k_sum_of ?a_ceiling ?l_ceiling ?c_ceiling ?k_ceiling ?a_check_fair ?l_check_fair ?c_check_fair ?k_check_fair ?a_meetings_fault ?l_meetings_fault ?c_meetings_fault ?k_meetings_fault ?a_check_meetings ?l_check_meetings ?c_check_meetings ?k_check_meetings ?a_check_number ?l_check_number ?c_check_number ?k_check_number ?a_check_planned ?l_check_planned ?c_check_planned ?k_check_planned ?a_reasons ?l_reasons ?c_reasons ?k_reasons ?a_least_rounds ?l_least_rounds ?c_least_rounds ?k_least_rounds ?a_load ?l_load ?c_load ?k_load ?a_tables_needed ?l_tables_needed ?c_tables_needed ?k_tables_needed ?a_l_jug ?l_l_jug ?c_l_jug ?k_l_jug ?a_l_pour ?l_l_pour ?c_l_pour ?k_l_pour ?a_l_word ?l_l_word ?c_l_word ?k_l_word ?a_l_words ?l_l_words ?c_l_words ?k_l_words ?a_l_parts ?l_l_parts ?c_l_parts ?k_l_parts ?a_l_fair ?l_l_fair ?c_l_fair ?k_l_fair ?a_l_number ?l_l_number ?c_l_number ?k_l_number ?a_l_grid ?l_l_grid ?c_l_grid ?k_l_grid ?a_l_in_rows ?l_l_in_rows ?c_l_in_rows ?k_l_in_rows ?a_l_in_columns ?l_l_in_columns ?c_l_in_columns ?k_l_in_columns ?a_l_shares ?l_l_shares ?c_l_shares ?k_l_shares ?a_l_due ?l_l_due ?c_l_due ?k_l_due ?a_l_within ?l_l_within ?c_l_within ?k_l_within ?a_l_is_needed ?l_l_is_needed ?c_l_is_needed ?k_l_is_needed ?a_l_right ?l_l_right ?c_l_right ?k_l_right ?a_law ?l_law ?c_law ?k_law ?pg_Fair ?hd_Fair ?po_Fair ?sa_Fair ?mk_Fair ?kc_Fair ?na_hosts_Fair ?na_guests_Fair ?na_tables_Fair ?na_names_Fair ?na_text_Fair ?ha_Fair ?hn_Fair ?htk_Fair ?hm_Fair ?kC_Fair ?kb0_Fair ?kb1_Fair ?kb2_Fair ?kb3_Fair ?kb4_Fair ?kb5_Fair ?kb6_Fair ?ko0_Fair ?ko1_Fair ?ko2_Fair ?ko3_Fair ?ko4_Fair ?ko5_Fair ?ko6_Fair ?z_int ?z_isinstance ?z_bool ?z_str ?z_len ?z_all ?z_tuple ?z_sum ?z_abs ?z_divmod ?z_list ?z_range ?z_enumerate ?z_zip ?z_max ?z_repr ?z_min ?m__LONGEST_NAME ?m__FIRST_SIGNS ?m__SIGNS ?m_MOST_BOUND ?m_MOST_SIDE ?m_MOST_TABLES ?m_MOST_MEETINGS
    (case aC_Fair => k_is)
    (case a_is_integer => k_is)
    (case l_is_integer => k_is)
    (case c_is_integer => k_is)
    (case k_is_integer => k_is)
    (case ld_is_integer => k_is)
    (case a_is_name => k_is)
    (case l_is_name => k_is)
    (case c_is_name => k_is)
    (case k_is_name => k_is)
    (case a_is_pair => k_is)
    (case l_is_pair => k_is)
    (case c_is_pair => k_is)
    (case k_is_pair => k_is)
    (case a_is_member => k_is)
    (case l_is_member => k_is)
    (case c_is_member => k_is)
    (case k_is_member => k_is)
    (case a_fault => k_is)
    (case l_fault => k_is)
    (case c_fault => k_is)
    (case k_fault => k_is)
    (case a_names_of => k_is)
    (case l_names_of => k_is)
    (case c_names_of => k_is)
    (case k_names_of => k_is)
    (case a_text_of => k_is)
    (case l_text_of => k_is)
    (case c_text_of => k_is)
    (case k_text_of => k_is)
    (case a_Fairu_initu => k_is)
    (case i_Fairu_initu => k_is)
    (case l_Fairu_initu => k_is)
    (case c_Fairu_initu => k_is)
    (case k_Fairu_initu => k_is)
    (case ld_Fairu_initu => k_is)
    (case a_Fair_hosts => k_is)
    (case g_Fair_hosts => k_is)
    (case t_Fair_hosts => k_is)
    (case r_Fair_hosts => k_is)
    (case l_Fair_hosts => k_is)
    (case c_Fair_hosts => k_is)
    (case k_Fair_hosts => k_is)
    (case a_Fair_guests => k_is)
    (case g_Fair_guests => k_is)
    (case t_Fair_guests => k_is)
    (case r_Fair_guests => k_is)
    (case l_Fair_guests => k_is)
    (case c_Fair_guests => k_is)
    (case k_Fair_guests => k_is)
    (case a_Fair_tables => k_is)
    (case g_Fair_tables => k_is)
    (case t_Fair_tables => k_is)
    (case r_Fair_tables => k_is)
    (case l_Fair_tables => k_is)
    (case c_Fair_tables => k_is)
    (case k_Fair_tables => k_is)
    (case a_is_row => k_is)
    (case l_is_row => k_is)
    (case c_is_row => k_is)
    (case k_is_row => k_is)
    (case a_table_fault => k_is)
    (case l_table_fault => k_is)
    (case c_table_fault => k_is)
    (case k_table_fault => k_is)
    (case ld_table_fault => k_is)
    (case a_sum_of => k_is)
    (case l_sum_of => k_is)
    (case c_sum_of => k_is)
    (case k_sum_of => k_is)
    (case a_ceiling => k_is)
    (case l_ceiling => k_is)
    (case c_ceiling => k_is)
    (case k_ceiling => k_is)
    (case a_check_fair => k_is)
    (case l_check_fair => k_is)
    (case c_check_fair => k_is)
    (case k_check_fair => k_is)
    (case a_meetings_fault => k_is)
    (case l_meetings_fault => k_is)
    (case c_meetings_fault => k_is)
    (case k_meetings_fault => k_is)
    (case a_check_meetings => k_is)
    (case l_check_meetings => k_is)
    (case c_check_meetings => k_is)
    (case k_check_meetings => k_is)
    (case a_check_number => k_is)
    (case l_check_number => k_is)
    (case c_check_number => k_is)
    (case k_check_number => k_is)
    (case a_check_planned => k_is)
    (case l_check_planned => k_is)
    (case c_check_planned => k_is)
    (case k_check_planned => k_is)
    (case a_reasons => k_is)
    (case l_reasons => k_is)
    (case c_reasons => k_is)
    (case k_reasons => k_is)
    (case a_least_rounds => k_is)
    (case l_least_rounds => k_is)
    (case c_least_rounds => k_is)
    (case k_least_rounds => k_is)
    (case a_load => k_is)
    (case l_load => k_is)
    (case c_load => k_is)
    (case k_load => k_is)
    (case a_tables_needed => k_is)
    (case l_tables_needed => k_is)
    (case c_tables_needed => k_is)
    (case k_tables_needed => k_is)
    (case a_l_jug => k_is)
    (case l_l_jug => k_is)
    (case c_l_jug => k_is)
    (case k_l_jug => k_is)
    (case a_l_pour => k_is)
    (case l_l_pour => k_is)
    (case c_l_pour => k_is)
    (case k_l_pour => k_is)
    (case a_l_word => k_is)
    (case l_l_word => k_is)
    (case c_l_word => k_is)
    (case k_l_word => k_is)
    (case a_l_words => k_is)
    (case l_l_words => k_is)
    (case c_l_words => k_is)
    (case k_l_words => k_is)
    (case a_l_parts => k_is)
    (case l_l_parts => k_is)
    (case c_l_parts => k_is)
    (case k_l_parts => k_is)
    (case a_l_fair => k_is)
    (case l_l_fair => k_is)
    (case c_l_fair => k_is)
    (case k_l_fair => k_is)
    (case a_l_number => k_is)
    (case l_l_number => k_is)
    (case c_l_number => k_is)
    (case k_l_number => k_is)
    (case a_l_grid => k_is)
    (case l_l_grid => k_is)
    (case c_l_grid => k_is)
    (case k_l_grid => k_is)
    (case a_l_in_rows => k_is)
    (case l_l_in_rows => k_is)
    (case c_l_in_rows => k_is)
    (case k_l_in_rows => k_is)
    (case a_l_in_columns => k_is)
    (case l_l_in_columns => k_is)
    (case c_l_in_columns => k_is)
    (case k_l_in_columns => k_is)
    (case a_l_shares => k_is)
    (case l_l_shares => k_is)
    (case c_l_shares => k_is)
    (case k_l_shares => k_is)
    (case a_l_due => k_is)
    (case l_l_due => k_is)
    (case c_l_due => k_is)
    (case k_l_due => k_is)
    (case a_l_within => k_is)
    (case l_l_within => k_is)
    (case c_l_within => k_is)
    (case k_l_within => k_is)
    (case a_l_is_needed => k_is)
    (case l_l_is_needed => k_is)
    (case c_l_is_needed => k_is)
    (case k_l_is_needed => k_is)
    (case a_l_right => k_is)
    (case l_l_right => k_is)
    (case c_l_right => k_is)
    (case k_l_right => k_is)
    (case a_law => k_is)
    (case l_law => k_is)
    (case c_law => k_is)
    (case k_law => k_is)
    (case pg_Fair => k_is)
    (case hd_Fair => k_is)
    (case po_Fair => k_is)
    (case sa_Fair => k_is)
    (case mk_Fair => k_is)
    (case kc_Fair => k_is)
    (case na_hosts_Fair => k_is)
    (case na_guests_Fair => k_is)
    (case na_tables_Fair => k_is)
    (case na_names_Fair => k_is)
    (case na_text_Fair => k_is)
    (case ha_Fair => k_is)
    (case hn_Fair => k_is)
    (case htk_Fair => k_is)
    (case hm_Fair => k_is)
    (case kC_Fair => kit_is)
    (case kb0_Fair => kit_is)
    (case kb1_Fair => kit_is)
    (case kb2_Fair => kit_is)
    (case kb3_Fair => kit_is)
    (case kb4_Fair => kit_is)
    (case kb5_Fair => kit_is)
    (case kb6_Fair => kit_is)
    (case ko0_Fair => kit_is)
    (case ko1_Fair => kit_is)
    (case ko2_Fair => kit_is)
    (case ko3_Fair => kit_is)
    (case ko4_Fair => kit_is)
    (case ko5_Fair => kit_is)
    (case ko6_Fair => kit_is)
    (case z_int => k_is)
    (case z_isinstance => k_is)
    (case z_bool => k_is)
    (case z_str => k_is)
    (case z_len => k_is)
    (case z_all => k_is)
    (case z_tuple => k_is)
    (case z_sum => k_is)
    (case z_abs => k_is)
    (case z_divmod => k_is)
    (case z_list => k_is)
    (case z_range => k_is)
    (case z_enumerate => k_is)
    (case z_zip => k_is)
    (case z_max => k_is)
    (case z_repr => k_is)
    (case z_min => k_is)
    (case m__LONGEST_NAME => k_is)
    (case m__FIRST_SIGNS => k_is)
    (case m__SIGNS => k_is)
    (case m_MOST_BOUND => k_is)
    (case m_MOST_SIDE => k_is)
    (case m_MOST_TABLES => k_is)
    (case m_MOST_MEETINGS => k_is)
