import PyProof.Rows.All
import Wide.All
import OpenK.AllK
import Wide.FinOn
import PyProof.EqAt
import PyProof.EqKinds
import PyProof.TupleCall
import PyProof.ReprRoads
import HandS.Base
import HandS.Call
import HandS.List
import HandS.Comp
import HandS.Ends
import HandS.Dict
import HandS.Iter
import HandS.Text
import HandS.Words
import HandS.WordsList
import HandS.Wide
import HandS.Lambda
import HandS.WideBits
import HandS.Style
import HandS.WordsExc
import HandS.More
import HandS.IsInst
import HandS.TupAny
import HandS.RaiseMore
import HandS.Zip0
import HandS.Star
import KE.KStar
import PyProof.MeetsSeq2
import HandS.Zip
import KE.KTupSum
import HandS.Walk
import HandS.FStr
import HandS.Property
import KE.GoesMore
import HandS.OwnIter
import HandS.Gcd
import HandS.Defaults
import HandS.TupMul
import HandS.MakeKwOnly
import HandS.TryOnly
import HandS.MakeKw
import HandS.Flt
import HandS.DictComp
import HandS.Conv
import PyProof.PureInt
import KE.KExcInit
import KE.RegKIsAll
import HandS.ExcIs
import HandS.ExcField
import HandS.ExcInit
import HandS.HotCalls
import PyProof.Rows.CountFlat
import KE.KExcIs
import HandS.EndBits
import KE.KNestM
import HandS.DictSub
import KE.KCallOwn
import PyProof.InstEq
import HandS.Flow
import HandS.ClsMeth
import OpenK.KMore
import HandS.SortRule
import HandS.TupLe
import HandS.SortKw
import KE.KEqDict
import PyProof.NeKinds
import PySem.Challenge.RW_meetrounds_k08_whole_words_as_names
import PyProof.ReprBulk
import PyProof.ReprReads
import KE.KLam
set_option Elab.async false
set_option linter.all false
set_option maxRecDepth 100000
set_option maxHeartbeats 4000000
set_option maxHeartbeats 1000000
namespace MG
open PySem PySem.Spec PyProof.Rows L2

/-- a def's promise where no builtin of the printing kind is under way around the call -/
structure FnG (P : Program) (w : World) (K : PySem.W.Frag) (mg : Str → Option Value) (base : Heap) (CX : CXT)
    (k : Nat) (f : Addr) (fd : FuncData) (ps : List Str) (sp : Sp) : Prop where
  len : ∀ vs H Q E, sp vs H Q E → vs.length = ps.length
  run : ∀ (A : Around) (outer : List Env) (s : Shared) (H : Hp) (args : Args) (us : List Value)
    (vs : List V) (Q : VK) (E : XK), A.guards = some [] → Room k A → Env0 P w K mg base A outer s H →
    BindsTo s fd args (ps.zip us) → Vals vs us → sp vs H Q E →
    codeAny (model P w) A (.call (.ref f) args) (CR CX outer P w H s Q E) s

section
variable {P : Program} {w : World} {K : PySem.W.Frag} {mg : Str → Option Value} {base : Heap}

theorem FnG.of {CX : CXT} {k : Nat} {f : Addr} {fd : FuncData} {ps : List Str} {sp : Sp}
    (F : FnOk P w K mg base CX k f fd ps sp) : FnG P w K mg base CX k f fd ps sp where
  len := F.len
  run := fun A outer s H args us vs Q E _ => F.run A outer s H args us vs Q E

/-- the body of a def at one place where it is called -/
theorem body_atC {CX : CXT} {x qual : Str} {st : Stmt} {f : Addr} {fd : FuncData} {N ps : List Str}
    {A : Around} {outer : List Env} {s : Shared} {H : Hp} {args : Args} {us : List Value}
    {vs : List V} {Q : VK} {E : XK} {k : Nat}
    (F : Fun K x qual st f fd) (S : FnScope N ps (defScope st)) (hl : vs.length = ps.length)
    (hr : Room (k + 1) A) (e0 : Env0 P w K mg base A outer s H) (hb : BindsTo s fd args (ps.zip us))
    (r : Vals vs us)
    (hbody : ∀ cdv : Value, fd.code = cdv → ∃ t,
      PSs (cxOf CX P w K mg base N qual (defScope st) f cdv A outer s H E) (defBody st) t ∧
      t { nx := fun _ H' => Q .non H', rt := Q } (start N vs) H) :
    codeAny (model P w) A (.call (.ref f) args) (CR CX outer P w H s Q E) s := by
  obtain ⟨oc, od, kV, doc, pm, an, cdv, ct, osl, rfl, lk, hcd⟩ := F.ex
  have KX : K.In s.heap := e0.mod.kin.keeps (fun b o e => (e0.bs b o e).1)
  have lim : s.heap.NoLimit := e0.mod.nolimit.keeps (fun b o e => (e0.bs b o e).1)
  have hkind : ∀ y ∈ ps.zip us, (defScope st).names.lookup y.1 = some .local ∨
      ((defScope st).names.lookup y.1 = some .cell ∧
        ((cellsFrom (s.heap.objs.size + 1) (defScope st).names []).lookup y.1).isSome = true) := by
    rintro ⟨n, v⟩ hy
    cases S.par n (List.of_mem_zip hy).1 with
    | inl q => exact Or.inl q
    | inr q => exact Or.inr ⟨q, PySem.W.cellsFrom_some _ _ _ (Or.inl q)⟩
  refine codeAny_call_function hr.depth (KX _ _ lk) rfl S.co S.gen rfl
    (PySem.W.codeRec_of KX hcd) (hb _ _ _ _ ?_)
  refine wpAny_newFunctionEnv_cells S.kind hkind (fun env he s1 x => ?_)
  subst he
  refine ⟨lim.keeps x.toInCall.keep, codeAny_func ?_⟩
  obtain ⟨t, ht, hq⟩ := hbody cdv rfl
  have I := inv_start (CX := CX) (E := E) S hr.hd e0 hl r x
  refine wpAny_mono (ht.run [] s1 (start N vs) H _ I hq) (fun fl s' hs => ?_) (fun e s' hs => hs)
  cases fl with
  | next =>
    obtain ⟨σ', H', J, q⟩ := hs
    exact ⟨V.non, H', J.os, J.bare, J.base, J.hok, rfl, q⟩
  | ret u =>
    obtain ⟨v, σ', H', J, rv, q⟩ := hs
    exact ⟨v, H', J.os, J.bare, J.base, J.hok, rv, q⟩
  | brk => obtain ⟨_, _, _, q⟩ := hs; exact q.elim
  | cont => obtain ⟨_, _, _, q⟩ := hs; exact q.elim

/-- .. whatever its code object is -/
theorem body_at {CX : CXT} {x qual : Str} {st : Stmt} {f : Addr} {fd : FuncData} {N ps : List Str}
    {A : Around} {outer : List Env} {s : Shared} {H : Hp} {args : Args} {us : List Value}
    {vs : List V} {Q : VK} {E : XK} {k : Nat}
    (F : Fun K x qual st f fd) (S : FnScope N ps (defScope st)) (hl : vs.length = ps.length)
    (hr : Room (k + 1) A) (e0 : Env0 P w K mg base A outer s H) (hb : BindsTo s fd args (ps.zip us))
    (r : Vals vs us)
    (hbody : ∀ cdv : Value, ∃ t,
      PSs (cxOf CX P w K mg base N qual (defScope st) f cdv A outer s H E) (defBody st) t ∧
      t { nx := fun _ H' => Q .non H', rt := Q } (start N vs) H) :
    codeAny (model P w) A (.call (.ref f) args) (CR CX outer P w H s Q E) s :=
  body_atC F S hl hr e0 hb r fun cdv _ => hbody cdv

/-- a def of the text that lets nothing out, by its body -/
theorem okG {x qual : Str} {st : Stmt} {f : Addr} {fd : FuncData} {N ps : List Str} {k : Nat} {sp : Sp}
    (F : Fun K x qual st f fd) (S : FnScope N ps (defScope st))
    (len : ∀ vs H Q E, sp vs H Q E → vs.length = ps.length)
    (hbody : ∀ (cdv : Value) (A : Around) (outer : List Env) (s : Shared) (H : Hp) (vs : List V)
      (Q : VK) (E : XK), A.guards = some [] →
      Room k (A.deeper (envOfC qual (defScope st) s.heap.objs.size f cdv)) → sp vs H Q E →
      ∃ t, PSs (cxOf CX0 P w K mg base N qual (defScope st) f cdv A outer s H E).nox (defBody st) t ∧
        t { nx := fun _ H' => Q .non H', rt := Q } (start N vs) H) :
    FnG P w K mg base CX0 (k + 1) f fd ps sp := by
  refine ⟨len, fun A outer s H args us vs Q E hg hr e0 hb r hsp => ?_⟩
  refine body_at F S (len _ _ _ _ hsp) hr e0 hb r (fun cdv => ?_)
  obtain ⟨t, h, q⟩ := hbody cdv A outer s H vs Q E hg (hr.deeper _) hsp
  exact ⟨t, h.nox, q⟩
end

section
variable {X : Cx} {CX : CXT} {k : Nat} {f : Addr} {fd : FuncData} {ps : List Str} {sp : Sp}
  {dvs : List V} {ds : List Value} {E : XK}

theorem run_fnG {pins : List (Addr × Obj)} {σ : L2.St} {H : Hp} {s : Shared} {Q : VK} {us : List Value}
    {vs : List V} (F : FnG X.prog X.w X.K X.mg X.base CX k f fd ps sp) (hg : X.A.guards = some [])
    (hr : Room k X.A) (hb : Binds X.K fd ps ds) (hd : Vals dvs ds) (hx : Passes CX X E)
    (I : Inv X pins σ H s) (r : Vals vs us) (h : sp (vs ++ dvs) H Q E) :
    wpAny (model X.prog X.w) X.A (call (.ref f) us) (EP X pins σ Q) X.xe s := by
  have r2 : Vals (vs ++ dvs) (us ++ ds) := r.append hd
  have hl : (us ++ ds).length = ps.length := r2.length ▸ F.len _ _ _ _ h
  have step := F.run X.A X.stack s H ⟨us, []⟩ (us ++ ds) (vs ++ dvs) Q E hg hr I.env0
    (hb s us I.kIn hl) r2 h
  refine wpAny_call (codeAny_mono step (fun res s' hq => ?_))
  match res, hq with
  | .error e, hq => exact hx pins σ H s e s' I hq
  | .ok (.ret u), hq => exact I.after hq

/-- f(e, ..) -/
theorem pe_callG {x : Str} {p pos : Pos} {e : Expr} {es : List Expr} {t : TA}
    (F : FnG X.prog X.w X.K X.mg X.base CX k f fd ps sp) (hgd : X.A.guards = some [])
    (hr : Room k X.A) (hg : Gl X x) (hm : X.mg x = some (.ref f))
    (hk : PySem.W.keepIn X.K (.ref f) = true) (hb : Binds X.K fd ps ds) (hd : Vals dvs ds)
    (hx : Passes CX X E) (ha : PA X (e :: es) t) (hdb : (x == ("__debug__" : Str)) = false := by decide)
    (he : starEach (e :: es) X.env = (false, eval e X.env) :: starEach es X.env := by rfl)
    (hpl : (backTo pos (starEach es X.env)).any (·.1) = false := by rfl) :
    PE X (.Call (.Name x p) (e :: es) [] pos) (tCall sp dvs E t) := by
  constructor
  intro pins s σ H Q I h
  refine wpAny_Call_Name_kw (ld_glob I hg hm ?_ hdb)
  refine PySem.W.callWith_K (h₀ := X.base) I.ok.mod.kin hk (thn (ha.run pos pins s σ H _ I h)
    (fun us s1 hh => ?_)) he hpl
  obtain ⟨vs, H1, I1, r, q⟩ := hh
  exact ⟨I1.kIn, run_fnG F hgd hr hb hd hx I1 r q⟩

/-- repr(x), x data of nothing but None, bools, ints, texts, lists, tuples -/
def rRepr (K : PySem.W.Frag) : List V → Hp → VK → Prop := fun xs H Q => ∃ x d, xs = [x] ∧ Dp K H x d ∧
  d.showable = true ∧ d.hasDict = false ∧ d.depth ≤ 60 ∧ d.shown.length ≤ 16777216 ∧ Q (.str d.shown) H
end
end MG
/-! QA: data D, how it lies on the heap (Fz), the store of things that change, values, steps. -/
namespace QD
open PySem PySem.Spec PyProof.Rows L2 MG
abbrev D := PyData
/-- a list that is only read: the script, a list of the text's top (no real dict has such a pair) -/
def roD (l : List D) : D := .dict [(.none, .list l)]
/-- a built-in type, a class of the text (by its number) as a value -/
def tyD (n : String) : D := .dict [(.bool true, .str n)]
def clsD (c : Nat) : D := .dict [(.bool false, .int c)]
/-- an object of the class number c: its fields in order (no real dict has such a pair) -/
def obD (c : Nat) (fs : List D) : D := .dict [(.int c, .tuple fs)]
/-- the classes: number, address, names of the fields -/
abbrev CTab := Nat → Option (Addr × List Str)

/-- a tuple, a list of the text's top -/
def KT (K : PySem.W.Frag) (a : Addr) (xs : List V) : Prop := SqT K (fun _ => none) a xs
def KL (K : PySem.W.Frag) (a : Addr) (xs : List V) : Prop := SqL K (fun _ => none) a xs
theorem KT.sq {K : PySem.W.Frag} {a : Addr} {xs : List V} (h : KT K a xs) (H : Hp) : SqT K H a xs := by
  rcases h with (h | ⟨_, h⟩) | h
  · cases h
  · cases h
  · exact .inr h
theorem KL.sq {K : PySem.W.Frag} {a : Addr} {xs : List V} (h : KL K a xs) (H : Hp) : SqL K H a xs := by
  rcases h with (h | ⟨_, h⟩) | h
  · cases h
  · cases h
  · exact .inr h
/-- a moment: what is shunned, the things that change, the heap -/
structure Mo where
  be : Addr → Prop
  rh : List Addr
  hp : Hp
abbrev Mo.sh (m : Mo) (q : Addr) : Mo := ⟨fun a => m.be a ∨ a = q, m.rh, m.hp⟩
abbrev Mo.to (m : Mo) (H : Hp) : Mo := ⟨m.be, m.rh, H⟩
/-- an object that is read and never changed -/
def Rdy (m : Mo) (a : Addr) (u : HO) : Prop := a ∉ m.rh ∧ ¬ m.be a ∧ Rd m.hp a u
def FT (K : PySem.W.Frag) (m : Mo) (a : Addr) (xs : List V) : Prop := Rdy m a (.tup xs) ∨ KT K a xs
def FL (K : PySem.W.Frag) (m : Mo) (a : Addr) (xs : List V) : Prop := Rdy m a (.lst xs) ∨ KL K a xs
theorem FT.sq {K : PySem.W.Frag} {m : Mo} {a : Addr} {xs : List V} (h : FT K m a xs) : SqT K m.hp a xs := h.elim (fun h => .inl h.2.2) fun h => h.sq _
theorem FL.sq {K : PySem.W.Frag} {m : Mo} {a : Addr} {xs : List V} (h : FL K m a xs) : SqL K m.hp a xs := h.elim (fun h => .inl h.2.2) fun h => h.sq _

mutual
inductive Fz (K : PySem.W.Frag) (ct : CTab) (m : Mo) : V → D → Prop
  | non : Fz K ct m .non .none
  | bl (b : Bool) : Fz K ct m (.bl b) (.bool b)
  | int (i : Int) : Fz K ct m (.int i) (.int i)
  | str (x : Str) : Fz K ct m (.str x) (.str x)
  | tup {a : Addr} {xs : List V} {ds : List D} : FT K m a xs → FzA K ct m xs ds → Fz K ct m (.ref a) (.tuple ds)
  | lst {a : Addr} {xs : List V} {ds : List D} : a ∉ m.rh → ¬ m.be a → m.hp a = some (.lst xs) → FzA K ct m xs ds → Fz K ct m (.ref a) (.list ds)
  | ro {a : Addr} {xs : List V} {ds : List D} : FL K m a xs → FzA K ct m xs ds → Fz K ct m (.ref a) (.dict [(.none, .list ds)])
  | ty (n : String) : Fz K ct m (.ty n) (.dict [(.bool true, .str n)])
  | cls {C : Addr} {c : Nat} {ns : List Str} : ct c = some (C, ns) → Fz K ct m (.ref C) (.dict [(.bool false, .int c)])
  | emp {a : Addr} : Rdy m a (.dK []) → Fz K ct m (.ref a) (.dict [])
  | code {c : Addr} {q : Str} : c ∉ m.rh → ¬ m.be c → m.hp c = some (LamX.CodeO c q) → Fz K ct m (.ref c) (.dict [(.bool true, .tuple [.str q])])
  | fn {f c : Addr} {q : Str} : c ∉ m.rh → ¬ m.be c → m.hp c = some (LamX.CodeO c q) → Fz K ct m (.ref f) (.dict [(.bool true, .tuple [.int f, .int c, .str q])])
  | exc {a x : Addr} {v : V} {f : Str} {d : D} : x ∉ m.rh → ¬ m.be x → m.hp x = some (.xd [(f, v)]) → Fz K ct m v d → Fz K ct m (.ref a) (.dict [(.bool false, .tuple [.int a, .int x, .str f, d])])
  | exc0 {a : Addr} : Fz K ct m (.ref a) (.dict [(.bool false, .tuple [.int a])])
  | ob {a C dx : Addr} {c : Nat} {ns : List Str} {xs : List V} {ds : List D} : ct c = some (C, ns) → a ∉ m.rh → ¬ m.be a → m.hp a = some (.ins C dx (ns.zip xs)) → ns.length = xs.length →
      FzA K ct m xs ds → Fz K ct m (.ref a) (.dict [(.int c, .tuple ds)])
inductive FzA (K : PySem.W.Frag) (ct : CTab) (m : Mo) : List V → List D → Prop
  | nil : FzA K ct m [] []
  | cons {v : V} {vs : List V} {d : D} {ds : List D} : Fz K ct m v d → FzA K ct m vs ds → FzA K ct m (v :: vs) (d :: ds)
end

/-- from one moment to a later one: new things may be ones that change; what is no such thing stays -/
structure Stp (m m' : Mo) : Prop where
  bl : ∀ a, m.be a → m'.be a
  be : ∀ a, m'.be a → m.be a ∨ (a ∉ m.rh ∧ m.hp a = none)
  ext : ∃ ex, m'.rh = m.rh ++ ex ∧ ∀ b ∈ ex, b ∉ m.rh ∧ m.hp b = none
  keep : ∀ b o, b ∉ m.rh → m.hp b = some o → m'.hp b = some o
theorem sameNew {H : Hp} {a : Addr} {o : HO} (h : H a = none) : Same H (upd H a o) := fun c u e => by
  rw [upd_ne (ne_of_none e h)]; exact e
theorem some_ne {α : Type} {x : α} {y : Option α} (e : y = some x) : y ≠ none := by rw [e]; exact fun z => nomatch z
section
variable {K : PySem.W.Frag} {ct : CTab} {m m' m1 m2 : Mo} {a q : Addr} {u o : HO} {xs : List V} {H H' : Hp}
theorem Stp.refl : Stp m m := ⟨fun _ h => h, fun _ h => .inl h, ⟨[], (List.append_nil _).symm, fun _ h => nomatch h⟩, fun _ _ _ h => h⟩
theorem Stp.same (s : Same m.hp H') : Stp m (m.to H') := ⟨fun _ h => h, fun _ h => .inl h, ⟨[], (List.append_nil _).symm, fun _ h => nomatch h⟩, fun b o _ h => s b o h⟩
/-- a new thing -/
theorem Stp.one (h : m.hp a = none) : Stp m (m.to (upd m.hp a o)) := .same (sameNew h)
theorem Stp.sub (s : Stp m m') (h : a ∈ m.rh) : a ∈ m'.rh := by
  obtain ⟨ex, e, _⟩ := s.ext
  rw [e]
  exact List.mem_append_left _ h
/-- what was there and was none that changes -/
theorem Stp.out (s : Stp m m') (h : a ∉ m.rh) (e : m.hp a ≠ none) : a ∉ m'.rh := by
  obtain ⟨ex, e1, f⟩ := s.ext
  rw [e1]
  intro z
  rcases List.mem_append.mp z with z | z
  · exact h z
  · exact e (f a z).2
/-- new in the end: new at the beginning -/
theorem Stp.new (s : Stp m m1) (h : a ∉ m1.rh) (e : m1.hp a = none) : m.hp a = none := by
  cases q : m.hp a with
  | none => rfl
  | some o =>
    have := s.keep a o (fun z => h (s.sub z)) q
    rw [e] at this
    cases this
theorem Stp.trans (s : Stp m m1) (t : Stp m1 m2) : Stp m m2 := by
  refine ⟨fun a h => t.bl a (s.bl a h), fun a h => ?_, ?_, fun b o n e => t.keep b o (s.out n (some_ne e)) (s.keep b o n e)⟩
  · rcases t.be a h with h | ⟨h1, h2⟩
    · exact s.be a h
    · exact .inr ⟨fun z => h1 (s.sub z), s.new h1 h2⟩
  obtain ⟨e1, z1, f1⟩ := s.ext
  obtain ⟨e2, z2, f2⟩ := t.ext
  refine ⟨e1 ++ e2, by rw [z2, z1, List.append_assoc], fun b h => ?_⟩
  rcases List.mem_append.mp h with h | h
  · exact f1 b h
  · exact ⟨fun z => (f2 b h).1 (s.sub z), s.new (f2 b h).1 (f2 b h).2⟩
theorem Stp.len (s : Stp m m') : m.rh.length ≤ m'.rh.length := by
  obtain ⟨ex, e, _⟩ := s.ext
  rw [e, List.length_append]; omega
theorem Stp.get (s : Stp m m') {n : Nat} (h : m.rh[n]? = some a) : m'.rh[n]? = some a := by
  obtain ⟨ex, e, _⟩ := s.ext
  rw [e, List.getElem?_append_left (List.getElem?_eq_some_iff.mp h).1]; exact h
theorem Rdy.live (h : Rdy m a u) : m.hp a ≠ none := by
  rcases h.2.2 with h | ⟨o, h⟩
  · exact some_ne h
  · exact some_ne h
theorem Stp.nbe (s : Stp m m') (h : ¬ m.be a) (e : m.hp a ≠ none) : ¬ m'.be a := fun z => (s.be a z).elim h fun y => e y.2
theorem Rdy.to (s : Stp m m') (h : Rdy m a u) : Rdy m' a u := by
  refine ⟨s.out h.1 h.live, s.nbe h.2.1 h.live, ?_⟩
  rcases h.2.2 with e | ⟨o, e⟩
  · exact .inl (s.keep _ _ h.1 e)
  · exact .inr ⟨o, s.keep _ _ h.1 e⟩
theorem FT.to (s : Stp m m') (h : FT K m a xs) : FT K m' a xs := h.imp (Rdy.to s) id
theorem FL.to (s : Stp m m') (h : FL K m a xs) : FL K m' a xs := h.imp (Rdy.to s) id
mutual
theorem Fz.to (s : Stp m m') : ∀ {v : V} {d : D}, Fz K ct m v d → Fz K ct m' v d
  | _, _, .non => .non
  | _, _, .bl b => .bl b
  | _, _, .int b => .int b
  | _, _, .str b => .str b
  | _, _, .tup h1 h2 => .tup (h1.to s) (FzA.to s h2)
  | _, _, .lst h1 h2 h3 h4 => .lst (s.out h1 (some_ne h3)) (s.nbe h2 (some_ne h3)) (s.keep _ _ h1 h3) (FzA.to s h4)
  | _, _, .ro h1 h2 => .ro (h1.to s) (FzA.to s h2)
  | _, _, .ty n => .ty n
  | _, _, .cls h => .cls h
  | _, _, .emp h => .emp (h.to s)
  | _, _, .code h1 h2 h3 => .code (s.out h1 (some_ne h3)) (s.nbe h2 (some_ne h3)) (s.keep _ _ h1 h3)
  | _, _, .fn h1 h2 h3 => .fn (s.out h1 (some_ne h3)) (s.nbe h2 (some_ne h3)) (s.keep _ _ h1 h3)
  | _, _, .exc h1 h2 h3 h4 => .exc (s.out h1 (some_ne h3)) (s.nbe h2 (some_ne h3)) (s.keep _ _ h1 h3) (Fz.to s h4)
  | _, _, .exc0 => .exc0
  | _, _, .ob h1 h2 h3 h4 h5 h6 => .ob h1 (s.out h2 (some_ne h4)) (s.nbe h3 (some_ne h4)) (s.keep _ _ h2 h4) h5 (FzA.to s h6)
theorem FzA.to (s : Stp m m') : ∀ {vs : List V} {ds : List D}, FzA K ct m vs ds → FzA K ct m' vs ds
  | _, _, .nil => .nil
  | _, _, .cons h1 h2 => .cons (Fz.to s h1) (FzA.to s h2)
end
/-! another thing is shunned; a shunned thing is changed -/
mutual
theorem Fz.mv (hq : ∀ a u, Rdy m a u → ¬ m'.be a ∧ a ∉ m'.rh ∧ ∀ o, m.hp a = some o → m'.hp a = some o) : ∀ {v : V} {d : D}, Fz K ct m v d → Fz K ct m' v d
  | _, _, .non => .non
  | _, _, .bl b => .bl b
  | _, _, .int b => .int b
  | _, _, .str b => .str b
  | _, _, .tup h1 h2 => .tup (h1.imp (fun h => ⟨(hq _ _ h).2.1, (hq _ _ h).1, h.2.2.imp ((hq _ _ h).2.2 _) fun ⟨o, e⟩ => ⟨o, (hq _ _ h).2.2 _ e⟩⟩) id) (FzA.mv hq h2)
  | _, _, .lst h1 h2 h3 h4 => .lst (hq _ _ ⟨h1, h2, .inl h3⟩).2.1 (hq _ _ ⟨h1, h2, .inl h3⟩).1 ((hq _ _ ⟨h1, h2, .inl h3⟩).2.2 _ h3) (FzA.mv hq h4)
  | _, _, .ro h1 h2 => .ro (h1.imp (fun h => ⟨(hq _ _ h).2.1, (hq _ _ h).1, h.2.2.imp ((hq _ _ h).2.2 _) fun ⟨o, e⟩ => ⟨o, (hq _ _ h).2.2 _ e⟩⟩) id) (FzA.mv hq h2)
  | _, _, .ty n => .ty n
  | _, _, .cls h => .cls h
  | _, _, .emp h => .emp ⟨(hq _ _ h).2.1, (hq _ _ h).1, h.2.2.imp ((hq _ _ h).2.2 _) fun ⟨o, e⟩ => ⟨o, (hq _ _ h).2.2 _ e⟩⟩
  | _, _, .code h1 h2 h3 => .code (hq _ _ ⟨h1, h2, .inl h3⟩).2.1 (hq _ _ ⟨h1, h2, .inl h3⟩).1 ((hq _ _ ⟨h1, h2, .inl h3⟩).2.2 _ h3)
  | _, _, .fn h1 h2 h3 => .fn (hq _ _ ⟨h1, h2, .inl h3⟩).2.1 (hq _ _ ⟨h1, h2, .inl h3⟩).1 ((hq _ _ ⟨h1, h2, .inl h3⟩).2.2 _ h3)
  | _, _, .exc h1 h2 h3 h4 => .exc (hq _ _ ⟨h1, h2, .inl h3⟩).2.1 (hq _ _ ⟨h1, h2, .inl h3⟩).1 ((hq _ _ ⟨h1, h2, .inl h3⟩).2.2 _ h3) (Fz.mv hq h4)
  | _, _, .exc0 => .exc0
  | _, _, .ob h1 h2 h3 h4 h5 h6 => .ob h1 (hq _ _ ⟨h2, h3, .inl h4⟩).2.1 (hq _ _ ⟨h2, h3, .inl h4⟩).1 ((hq _ _ ⟨h2, h3, .inl h4⟩).2.2 _ h4) h5 (FzA.mv hq h6)
theorem FzA.mv (hq : ∀ a u, Rdy m a u → ¬ m'.be a ∧ a ∉ m'.rh ∧ ∀ o, m.hp a = some o → m'.hp a = some o) : ∀ {vs : List V} {ds : List D}, FzA K ct m vs ds → FzA K ct m' vs ds
  | _, _, .nil => .nil
  | _, _, .cons h1 h2 => .cons (Fz.mv hq h1) (FzA.mv hq h2)
end
theorem mv_q {o : HO} (hb : m.be q) : ∀ a u, Rdy m a u → ¬ (m.to (upd m.hp q o)).be a ∧ a ∉ (m.to (upd m.hp q o)).rh ∧ ∀ p, m.hp a = some p → (m.to (upd m.hp q o)).hp a = some p := fun a u h =>
  ⟨h.2.1, h.1, fun p e => by
    show upd m.hp q o a = some p
    rw [upd_ne (fun z => h.2.1 (by rw [z]; exact hb))]; exact e⟩
mutual
theorem Fz.avo (hq : ∀ a u, Rdy m a u → ¬ m'.be a ∧ a ∉ m'.rh) (he : m'.hp = m.hp) : ∀ {v : V} {d : D}, Fz K ct m v d → Fz K ct m' v d
  | _, _, .non => .non
  | _, _, .bl b => .bl b
  | _, _, .int b => .int b
  | _, _, .str b => .str b
  | _, _, .tup h1 h2 => .tup (h1.imp (fun h => ⟨(hq _ _ h).2, (hq _ _ h).1, by rw [he]; exact h.2.2⟩) id) (FzA.avo hq he h2)
  | _, _, .lst h1 h2 h3 h4 => .lst (hq _ _ ⟨h1, h2, .inl h3⟩).2 (hq _ _ ⟨h1, h2, .inl h3⟩).1 (by rw [he]; exact h3) (FzA.avo hq he h4)
  | _, _, .ro h1 h2 => .ro (h1.imp (fun h => ⟨(hq _ _ h).2, (hq _ _ h).1, by rw [he]; exact h.2.2⟩) id) (FzA.avo hq he h2)
  | _, _, .ty n => .ty n
  | _, _, .cls h => .cls h
  | _, _, .emp h => .emp ⟨(hq _ _ h).2, (hq _ _ h).1, by rw [he]; exact h.2.2⟩
  | _, _, .code h1 h2 h3 => .code (hq _ _ ⟨h1, h2, .inl h3⟩).2 (hq _ _ ⟨h1, h2, .inl h3⟩).1 (by rw [he]; exact h3)
  | _, _, .fn h1 h2 h3 => .fn (hq _ _ ⟨h1, h2, .inl h3⟩).2 (hq _ _ ⟨h1, h2, .inl h3⟩).1 (by rw [he]; exact h3)
  | _, _, .exc h1 h2 h3 h4 => .exc (hq _ _ ⟨h1, h2, .inl h3⟩).2 (hq _ _ ⟨h1, h2, .inl h3⟩).1 (by rw [he]; exact h3) (Fz.avo hq he h4)
  | _, _, .exc0 => .exc0
  | _, _, .ob h1 h2 h3 h4 h5 h6 => .ob h1 (hq _ _ ⟨h2, h3, .inl h4⟩).2 (hq _ _ ⟨h2, h3, .inl h4⟩).1 (by rw [he]; exact h4) h5 (FzA.avo hq he h6)
theorem FzA.avo (hq : ∀ a u, Rdy m a u → ¬ m'.be a ∧ a ∉ m'.rh) (he : m'.hp = m.hp) : ∀ {vs : List V} {ds : List D}, FzA K ct m vs ds → FzA K ct m' vs ds
  | _, _, .nil => .nil
  | _, _, .cons h1 h2 => .cons (Fz.avo hq he h1) (FzA.avo hq he h2)
end
theorem shun_new (n : m.hp q = none) : ∀ a u, Rdy m a u → ¬ (m.sh q).be a ∧ a ∉ (m.sh q).rh := fun a u h =>
  ⟨fun z => z.elim h.2.1 fun e => h.live (by rw [e]; exact n), h.1⟩
theorem shun_off : ∀ a u, Rdy (m.sh q) a u → ¬ m.be a ∧ a ∉ m.rh := fun a u h => ⟨fun z => h.2.1 (.inl z), h.1⟩
theorem shun_loc : ∀ a u, Rdy (m.sh q) a u → ¬ (⟨m.be, m.rh ++ [q], m.hp⟩ : Mo).be a ∧ a ∉ (⟨m.be, m.rh ++ [q], m.hp⟩ : Mo).rh := fun a u h =>
  ⟨fun z => h.2.1 (.inl z), fun z => (List.mem_append.mp z).elim h.1 fun z => h.2.1 (.inr (List.mem_singleton.mp z))⟩
theorem FzA.length : ∀ {vs : List V} {ds : List D}, FzA K ct m vs ds → vs.length = ds.length
  | _, _, .nil => rfl
  | _, _, .cons _ h => congrArg Nat.succ (FzA.length h)
theorem FzA.get : ∀ {vs : List V} {ds : List D} {i : Nat} {d : D}, FzA K ct m vs ds → ds[i]? = some d → ∃ v, vs[i]? = some v ∧ Fz K ct m v d
  | _, _, _, _, .nil, h => by simp at h
  | _, _, 0, _, .cons a _, h => by simp at h; subst h; exact ⟨_, rfl, a⟩
  | _, _, i + 1, _, .cons _ b, h => by
    obtain ⟨d, h1, h2⟩ := FzA.get (i := i) b (by simpa using h)
    exact ⟨d, by simpa using h1, h2⟩
theorem FzA.append : ∀ {vs ws : List V} {ds es : List D}, FzA K ct m vs ds → FzA K ct m ws es → FzA K ct m (vs ++ ws) (ds ++ es)
  | _, _, _, _, .nil, h => h
  | _, _, _, _, .cons a b, h => .cons a (FzA.append b h)
theorem FzA.take : ∀ {vs : List V} {ds : List D} (n : Nat), FzA K ct m vs ds → FzA K ct m (vs.take n) (ds.take n)
  | _, _, 0, _ => .nil
  | _, _, _ + 1, .nil => .nil
  | _, _, n + 1, .cons a b => .cons a (FzA.take n b)
theorem FzA.drop : ∀ {vs : List V} {ds : List D} (n : Nat), FzA K ct m vs ds → FzA K ct m (vs.drop n) (ds.drop n)
  | _, _, 0, h => h
  | _, _, _ + 1, .nil => .nil
  | _, _, n + 1, .cons _ b => FzA.drop n b
theorem FzA.set : ∀ {vs : List V} {ds : List D} {v : V} {d : D} (n : Nat), Fz K ct m v d → FzA K ct m vs ds → FzA K ct m (vs.set n v) (ds.set n d)
  | _, _, _, _, _, _, .nil => .nil
  | _, _, _, _, 0, h, .cons a b => .cons h b
  | _, _, _, _, n + 1, h, .cons a b => .cons a (FzA.set n h b)
theorem FzA.dropLast {vs : List V} {ds : List D} (h : FzA K ct m vs ds) : FzA K ct m vs.dropLast ds.dropLast := by
  rw [List.dropLast_eq_take, List.dropLast_eq_take, h.length]
  exact h.take _
theorem FzA.ints : ∀ {vs : List V} {ns : List Int}, FzA K ct m vs (ns.map PyData.int) → vs = ns.map V.int
  | _, [], h => by cases h; rfl
  | _, n :: ns, h => by
    cases h with
    | cons a b => cases a; rw [FzA.ints b]; rfl
theorem FzA.ofInts : ∀ (ns : List Int), FzA K ct m (ns.map V.int) (ns.map PyData.int)
  | [] => .nil
  | n :: ns => .cons (.int n) (FzA.ofInts ns)
theorem FzA.strs : ∀ {vs : List V} {ns : List Str}, FzA K ct m vs (ns.map PyData.str) → vs = ns.map V.str
  | _, [], h => by cases h; rfl
  | _, n :: ns, h => by
    cases h with
    | cons a b => cases a; rw [FzA.strs b]; rfl
theorem FzA.bls : ∀ {vs : List V} {ns : List Bool}, FzA K ct m vs (ns.map PyData.bool) → vs = ns.map V.bl
  | _, [], h => by cases h; rfl
  | _, n :: ns, h => by
    cases h with
    | cons a b => cases a; rw [FzA.bls b]; rfl
end
/-! ### things that change -/
inductive Ob where
  | lst (l : List D)
  | dk (l : List (Key × D))
  | ins (c : Nat) (fs : List (Str × D))
  | tab (P : Addr) (q : Str)
/-- a code object's data -/
def codeD (q : Str) : D := .dict [(.bool true, .tuple [.str q])]
abbrev Sto := List Ob
theorem FzA.imp {K : PySem.W.Frag} {ct : CTab} {m m' : Mo} (f : ∀ v d, Fz K ct m v d → Fz K ct m' v d) : ∀ {vs : List V} {ds : List D}, FzA K ct m vs ds → FzA K ct m' vs ds
  | _, _, .nil => .nil
  | _, _, .cons h1 h2 => .cons (f _ _ h1) (FzA.imp f h2)
section
variable (K : PySem.W.Frag) (ct : CTab) (m : Mo)
def KvA : List (Key × V) → List (Key × D) → Prop := Paired fun p q => p.1 = q.1 ∧ Fz K ct m p.2 q.2
def SvA : List (Str × V) → List (Str × D) → Prop := Paired fun p q => p.1 = q.1 ∧ Fz K ct m p.2 q.2
def OR (a : Addr) : HO → Ob → Prop
  | .tbl ps, .tab P q => P = a ∧ TriplesOk ps.toList ∧ ∀ (pos : Pos) (cv : Value), codeAmong pos ps.toList = some cv → ∃ c, cv = .ref c ∧ Fz K ct m (.ref c) (codeD q)
  | .lst xs, .lst l => FzA K ct m xs l
  | .dK kvs, .dk l => KvA K ct m kvs l
  | .ins C _ vs, .ins c fs => (∃ ns, ct c = some (C, ns)) ∧ SvA K ct m vs fs
  | _, _ => False
def ObR (a : Addr) (o : Ob) : Prop := ∃ u, m.hp a = some u ∧ OR K ct m a u o
structure SR (st : Sto) : Prop where
  len : m.rh.length = st.length
  nd : m.rh.Nodup
  bl : ∀ a, m.be a → m.hp a ≠ none
  dj : ∀ a, m.be a → a ∉ m.rh
  ob : ∀ (n : Nat) (a : Addr) (o : Ob), m.rh[n]? = some a → st[n]? = some o → ObR K ct m a o
/-- a value: one that stays, a new list that nothing else knows, a thing that changes -/
inductive W where
  | fz (d : D)
  | own (l : List D)
  | loc (n : Nat)
  | nst (ks : List Nat)
def W.stays : W → Prop
  | .own _ => False
  | _ => True
/-- inner lists that change: the things with these numbers -/
def KsR : List V → List Nat → Prop := Paired fun x k => ∃ a, x = .ref a ∧ m.rh[k]? = some a
def WR : V → W → Prop
  | v, .fz d => Fz K ct m v d
  | v, .own l => ∃ q xs, v = .ref q ∧ q ∉ m.rh ∧ ¬ m.be q ∧ m.hp q = some (.lst xs) ∧ FzA K ct (m.sh q) xs l
  | v, .loc n => ∃ a, v = .ref a ∧ m.rh[n]? = some a
  | v, .nst ks => ∃ q xs, v = .ref q ∧ q ∉ m.rh ∧ ¬ m.be q ∧ m.hp q = some (.lst xs) ∧ KsR m xs ks
/-- a new list was not there before -/
def Nw (H0 : Hp) : V → W → Prop
  | v, .own _ => ∃ q, v = .ref q ∧ H0 q = none
  | _, _ => True
abbrev En := List (Option W)
structure ER (σ : L2.St) (en : En) : Prop where
  len : σ.length = en.length
  at_ : ∀ (i : Nat) (w : W), en[i]? = some (some w) → ∃ v, σ[i]? = some (some v) ∧ WR K ct m v w ∧ w.stays
end
section
variable {K : PySem.W.Frag} {ct : CTab} {m m' m1 m2 : Mo} {a q : Addr} {xs : List V} {v : V} {w : W} {st : Sto} {H' : Hp}
theorem OR.imp (f : ∀ v d, Fz K ct m v d → Fz K ct m' v d) {u : HO} {o : Ob} (h : OR K ct m a u o) : OR K ct m' a u o := by
  unfold OR at h ⊢
  split at h
  · exact ⟨h.1, h.2.1, fun pos cv e => let ⟨c, e1, e2⟩ := h.2.2 pos cv e; ⟨c, e1, f _ _ e2⟩⟩
  · exact FzA.imp f h
  · exact Paired.mapP h fun p q z => ⟨z.1, f _ _ z.2⟩
  · exact ⟨h.1, Paired.mapP h.2 fun p q z => ⟨z.1, f _ _ z.2⟩⟩
  · exact h.elim
theorem OR.lst_of {u : HO} {l : List D} (h : OR K ct m a u (.lst l)) : ∃ xs, u = .lst xs ∧ FzA K ct m xs l := by
  cases u with
  | lst xs => exact ⟨xs, rfl, h⟩
  | _ => exact h.elim
theorem OR.dk_of {u : HO} {l : List (Key × D)} (h : OR K ct m a u (.dk l)) : ∃ xs, u = .dK xs ∧ KvA K ct m xs l := by
  cases u with
  | dK xs => exact ⟨xs, rfl, h⟩
  | _ => exact h.elim
theorem OR.ins_of {u : HO} {c : Nat} {l : List (Str × D)} (h : OR K ct m a u (.ins c l)) : ∃ C dx ns vs, u = .ins C dx vs ∧ ct c = some (C, ns) ∧ SvA K ct m vs l := by
  cases u with
  | ins C dx vs => exact ⟨C, dx, h.1.choose, vs, rfl, h.1.choose_spec, h.2⟩
  | _ => exact h.elim
theorem ObR.lst_of {l : List D} (h : ObR K ct m a (.lst l)) : ∃ xs, m.hp a = some (.lst xs) ∧ FzA K ct m xs l := by
  obtain ⟨u, e, h⟩ := h
  obtain ⟨xs, rfl, f⟩ := h.lst_of
  exact ⟨xs, e, f⟩
theorem KvA.to (s : Stp m m') {kvs : List (Key × V)} {l : List (Key × D)} (h : KvA K ct m kvs l) : KvA K ct m' kvs l := Paired.mapP h fun p q z => ⟨z.1, z.2.to s⟩
theorem Stp.sh (s : Stp m m') : Stp (m.sh q) (m'.sh q) := ⟨fun a h => h.imp (s.bl a) id, fun a h => h.elim (fun h => (s.be a h).imp .inl id) fun h => .inl (.inr h), s.ext, s.keep⟩
theorem KsR.to (s : Stp m m') {xs : List V} {ks : List Nat} (h : KsR m xs ks) : KsR m' xs ks := Paired.mapP h fun _ _ ⟨a, e, z⟩ => ⟨a, e, s.get z⟩
theorem WR.to (s : Stp m m') (h : WR K ct m v w) : WR K ct m' v w := by
  cases w with
  | fz d => exact Fz.to s h
  | own l =>
    obtain ⟨q, xs, e, n, nb, hq, f⟩ := h
    exact ⟨q, xs, e, s.out n (some_ne hq), s.nbe nb (some_ne hq), s.keep _ _ n hq, f.to s.sh⟩
  | loc n =>
    obtain ⟨a, e, h⟩ := h
    exact ⟨a, e, s.get h⟩
  | nst ks =>
    obtain ⟨q, xs, e, n, nb, hq, k⟩ := h
    exact ⟨q, xs, e, s.out n (some_ne hq), s.nbe nb (some_ne hq), s.keep _ _ n hq, k.to s⟩
theorem ER.to (s : Stp m m') {σ : L2.St} {en : En} (h : ER K ct m σ en) : ER K ct m' σ en :=
  ⟨h.len, fun i w e => let ⟨v, e1, r, k⟩ := h.at_ i w e; ⟨v, e1, r.to s, k⟩⟩
theorem WR.fz_of {l : List D} (h : WR K ct m v (.own l)) : WR K ct m v (.fz (.list l)) := by
  obtain ⟨q, xs, rfl, n, nb, hq, f⟩ := h
  exact .lst n nb hq (f.avo shun_off rfl)
/-- the list that a value is -/
def seqW (st : Sto) : W → Option (List D)
  | .fz (.list l) => some l
  | .own l => some l
  | .loc n => match st[n]? with
    | some (.lst l) => some l
    | _ => none
  | _ => none
theorem seq_ok {l : List D} (S : SR K ct m st) (h : WR K ct m v w) (e : seqW st w = some l) : ∃ a xs, v = .ref a ∧ m.hp a = some (.lst xs) ∧ FzA K ct m xs l := by
  cases w with
  | fz d =>
    cases d with
    | list l' =>
      cases e
      cases h with
      | lst h1 h2 h3 h4 => exact ⟨_, _, rfl, h3, h4⟩
    | _ => cases e
  | own l' =>
    cases e
    obtain ⟨q, xs, rfl, n, nb, hq, f⟩ := h
    exact ⟨q, xs, rfl, hq, f.avo shun_off rfl⟩
  | loc n =>
    obtain ⟨a, rfl, h⟩ := h
    unfold seqW at e
    dsimp only at e
    cases q : st[n]? with
    | none => rw [q] at e; cases e
    | some o =>
      rw [q] at e
      cases o with
      | dk _ => cases e
      | ins _ _ => cases e
      | tab _ _ => cases e
      | lst l' =>
        cases e
        obtain ⟨xs, h1, h2⟩ := (S.ob n a _ h q).lst_of
        exact ⟨a, xs, rfl, h1, h2⟩
  | nst _ => cases e
/-- .. one that is only read, too -/
def seqR (st : Sto) : W → Option (List D)
  | .fz (.dict [(.none, .list l)]) => some l
  | w => seqW st w
theorem seqR_ok {l : List D} (S : SR K ct m st) (h : WR K ct m v w) (e : seqR st w = some l) : ∃ a xs, v = .ref a ∧ SqL K m.hp a xs ∧ FzA K ct m xs l := by
  unfold seqR at e
  split at e
  case h_1 l' =>
    cases e
    cases h with
    | ro h1 h2 => exact ⟨_, _, rfl, h1.sq, h2⟩
  case h_2 =>
    obtain ⟨a, xs, e1, e2, f⟩ := seq_ok S h e
    exact ⟨a, xs, e1, SqL.of e2, f⟩
theorem ObR.kept (s : Stp m m') {o : Ob} (he : m'.hp a = m.hp a) (h : ObR K ct m a o) : ObR K ct m' a o := by
  obtain ⟨u, e, h⟩ := h
  exact ⟨u, he.trans e, h.imp fun _ _ f => f.to s⟩
theorem ObR.live {o : Ob} (h : ObR K ct m a o) : m.hp a ≠ none := by
  obtain ⟨u, e, h⟩ := h
  exact some_ne e
theorem SR.get (S : SR K ct m st) {n : Nat} (h : m.rh[n]? = some a) : ∃ o, st[n]? = some o ∧ ObR K ct m a o := by
  have hl : n < st.length := by rw [← S.len]; exact (List.getElem?_eq_some_iff.mp h).1
  exact ⟨_, List.getElem?_eq_getElem hl, S.ob n a _ h (List.getElem?_eq_getElem hl)⟩
theorem SR.live (S : SR K ct m st) (h : a ∈ m.rh) : m.hp a ≠ none := by
  obtain ⟨n, hn⟩ := List.mem_iff_getElem?.mp h
  obtain ⟨o, _, r⟩ := S.get hn
  exact r.live
theorem SR.out (S : SR K ct m st) (h : m.hp a = none) : a ∉ m.rh := fun z => S.live z h
/-- the store behind what keeps all -/
theorem SR.same (S : SR K ct m st) (s : Same m.hp H') : SR K ct (m.to H') st :=
  ⟨S.len, S.nd, fun a h => by
    cases e : m.hp a with
    | none => exact absurd e (S.bl a h)
    | some u => exact some_ne (s _ _ e), S.dj, fun n a o h1 h2 => by
    have r := S.ob n a o h1 h2
    refine r.kept (.same s) ?_
    cases e : m.hp a with
    | none => exact absurd e r.live
    | some u => exact s _ _ e⟩
theorem SR.new (S : SR K ct m st) {o : HO} (h : m.hp q = none) : SR K ct (m.to (upd m.hp q o)) st := S.same (sameNew h)
/-- a thing is changed -/
theorem SR.set (S : SR K ct m st) {n : Nat} {o : Ob} {u : HO} (h : m.rh[n]? = some a) (ho : ObR K ct (m.to (upd m.hp a u)) a o) : SR K ct (m.to (upd m.hp a u)) (st.set n o) := by
  have s : Stp m (m.to (upd m.hp a u)) := ⟨fun _ h => h, fun _ h => .inl h, ⟨[], (List.append_nil _).symm, fun _ h => nomatch h⟩, fun b o nb e => by
    show upd m.hp a u b = some o
    rw [upd_ne (fun z => nb (by rw [z]; exact List.mem_of_getElem? h))]; exact e⟩
  refine ⟨by rw [List.length_set]; exact S.len, S.nd, fun b hb => ?_, S.dj, fun k b p h1 h2 => ?_⟩
  · show upd m.hp a u b ≠ none
    by_cases e : b = a
    · subst e; rw [upd_same]; exact fun z => nomatch z
    · rw [upd_ne e]; exact S.bl b hb
  by_cases e : k = n
  · subst e
    have h1' : m.rh[k]? = some b := h1
    rw [h] at h1'
    cases h1'
    have hl : k < st.length := by rw [← S.len]; exact (List.getElem?_eq_some_iff.mp h).1
    rw [List.getElem?_set_self hl] at h2
    cases h2
    exact ho
  · rw [List.getElem?_set_ne (Ne.symm e)] at h2
    have ne : b ≠ a := fun z => by
      subst z
      obtain ⟨l1, e1⟩ := List.getElem?_eq_some_iff.mp h
      obtain ⟨l2, e2⟩ := List.getElem?_eq_some_iff.mp (show m.rh[k]? = some b from h1)
      exact e ((List.getElem_inj S.nd).mp (e2.trans e1.symm))
    exact (S.ob k b p h1 h2).kept s (upd_ne ne)
theorem Stp.chg {n : Nat} {u : HO} (h : m.rh[n]? = some a) : Stp m (m.to (upd m.hp a u)) := ⟨fun _ h => h, fun _ h => .inl h, ⟨[], (List.append_nil _).symm, fun _ h => nomatch h⟩, fun b o nb e => by
    show upd m.hp a u b = some o
    rw [upd_ne (fun z => nb (by rw [z]; exact List.mem_of_getElem? h))]; exact e⟩
/-- what was made since m0 and nothing else knows becomes a thing that changes -/
abbrev Mo.add (m : Mo) (q : Addr) : Mo := ⟨m.be, m.rh ++ [q], m.hp⟩
theorem Stp.add {m0 : Mo} (s : Stp m0 m) (n : q ∉ m.rh) (h0 : m0.hp q = none) : Stp m0 (m.add q) := by
  obtain ⟨ex, e, f⟩ := s.ext
  refine ⟨s.bl, s.be, ⟨ex ++ [q], by show m.rh ++ [q] = _; rw [e, List.append_assoc], fun b hb => ?_⟩, s.keep⟩
  rcases List.mem_append.mp hb with hb | hb
  · exact f b hb
  · rw [List.mem_singleton] at hb
    subst hb
    exact ⟨fun z => n (s.sub z), h0⟩
theorem ObR.avo (hq : ∀ a u, Rdy m a u → ¬ m'.be a ∧ a ∉ m'.rh) (he : m'.hp = m.hp) {o : Ob} (h : ObR K ct m a o) : ObR K ct m' a o := by
  obtain ⟨u, e, h⟩ := h
  exact ⟨u, by rw [he]; exact e, h.imp fun _ _ f => f.avo hq he⟩
theorem SR.avo (S : SR K ct m st) (hr : m'.rh = m.rh) (hq : ∀ a u, Rdy m a u → ¬ m'.be a ∧ a ∉ m'.rh) (he : m'.hp = m.hp) (hb : ∀ a, m'.be a → m.hp a ≠ none) (hd : ∀ a, m'.be a → a ∉ m.rh) : SR K ct m' st :=
  ⟨by rw [hr]; exact S.len, by rw [hr]; exact S.nd, fun a h => by rw [he]; exact hb a h, fun a h => by rw [hr]; exact hd a h, fun n a o h1 h2 => (S.ob n a o (by rw [← hr]; exact h1) h2).avo hq he⟩
theorem SR.add (S : SR K ct (m.sh q) st) {o : Ob} (n : q ∉ m.rh) (nb : ¬ m.be q) (ho : ObR K ct (m.sh q) q o) : SR K ct (m.add q) (st ++ [o]) := by
  refine ⟨by show (m.rh ++ [q]).length = _; rw [List.length_append, List.length_append, S.len]; rfl, ?_, fun a h => S.bl a (.inl h), fun a h z => ?_, fun k a p h1 h2 => ?_⟩
  · show (m.rh ++ [q]).Nodup
    rw [List.nodup_append]
    refine ⟨S.nd, by simp, fun x hx y hy e => ?_⟩
    rw [List.mem_singleton] at hy
    exact n (by rw [← hy, ← e]; exact hx)
  · have h' : m.be a := h
    rcases List.mem_append.mp (show a ∈ m.rh ++ [q] from z) with z | z
    · exact S.dj a (.inl h') z
    · rw [List.mem_singleton] at z
      subst z
      exact nb h'
  · have h1' : (m.rh ++ [q])[k]? = some a := h1
    by_cases c : k < m.rh.length
    · rw [List.getElem?_append_left c] at h1'
      rw [List.getElem?_append_left (by rw [← S.len]; exact c)] at h2
      exact (S.ob k a p h1' h2).avo shun_loc rfl
    · rw [List.getElem?_append_right (by omega)] at h1'
      rw [List.getElem?_append_right (by rw [← S.len]; show m.rh.length ≤ k; omega)] at h2
      have e : k - m.rh.length = 0 := by
        have := (List.getElem?_eq_some_iff.mp h1').1
        simp at this
        omega
      have e2 : k - st.length = 0 := by rw [← S.len]; exact e
      rw [e] at h1'
      rw [e2] at h2
      cases h1'
      cases h2
      exact ho.avo shun_loc rfl
/-- a shunned thing is changed -/
theorem SR.chq (S : SR K ct m st) {o : HO} (hb : m.be q) (n : q ∉ m.rh) : SR K ct (m.to (upd m.hp q o)) st := by
  refine ⟨S.len, S.nd, fun a h => ?_, S.dj, fun k a p h1 h2 => ?_⟩
  · show upd m.hp q o a ≠ none
    by_cases c : a = q
    · subst c; rw [upd_same]; exact fun z => nomatch z
    · rw [upd_ne c]; exact S.bl a h
  · have r := S.ob k a p h1 h2
    have ne : a ≠ q := fun z => n (by rw [← z]; exact List.mem_of_getElem? (show m.rh[k]? = some a from h1))
    obtain ⟨u, e, h⟩ := r
    exact ⟨u, (upd_ne ne).trans e, h.imp fun _ _ f => f.mv (mv_q hb)⟩
theorem SR.off (S : SR K ct (m.sh q) st) : SR K ct m st := S.avo rfl shun_off rfl (fun a h => S.bl a (.inl h)) fun a h => S.dj a (.inl h)
/-- what an expression has come to, from m0 on -/
structure Rs (K : PySem.W.Frag) (ct : CTab) (m0 m : Mo) (st : Sto) (v : V) (w : W) : Prop where
  stp : Stp m0 m
  sr : SR K ct m st
  wr : WR K ct m v w
  nw : ∀ l, w = .own l → ∃ q, v = .ref q ∧ m0.hp q = none ∧ SR K ct (m.sh q) st
theorem Rs.fz {m0 : Mo} {d : D} (s : Stp m0 m) (S : SR K ct m st) (f : Fz K ct m v d) : Rs K ct m0 m st v (.fz d) := ⟨s, S, f, fun _ z => nomatch z⟩
theorem Rs.loc {m0 : Mo} {n : Nat} (s : Stp m0 m) (S : SR K ct m st) (f : m.rh[n]? = some a) : Rs K ct m0 m st (.ref a) (.loc n) := ⟨s, S, ⟨a, rfl, f⟩, fun _ z => nomatch z⟩
theorem Rs.pre {m0 : Mo} (s : Stp m0 m1) (r : Rs K ct m1 m st v w) : Rs K ct m0 m st v w :=
  ⟨s.trans r.stp, r.sr, r.wr, fun l e => by
    obtain ⟨q, ev, h0, S⟩ := r.nw l e
    refine ⟨q, ev, s.new (fun z => ?_) h0, S⟩
    have w' := r.wr
    subst e
    obtain ⟨q', xs, e', n, _⟩ := w'
    rw [ev] at e'
    cases e'
    exact n (r.stp.sub z)⟩
/-- a new list, made at the end -/
theorem Rs.new {m0 : Mo} (s : Stp m0 m) (S : SR K ct m st) {l : List D} (h : m.hp q = none) (f : FzA K ct m xs l) : Rs K ct m0 (m.to (upd m.hp q (.lst xs))) st (.ref q) (.own l) := by
  have st1 : Stp m (m.to (upd m.hp q (.lst xs))) := Stp.one h
  have nr := S.out h
  have nb : ¬ m.be q := fun z => S.bl q z h
  have e : (m.to (upd m.hp q (.lst xs))).hp q = some (.lst xs) := upd_same
  have sh : ∀ a u, Rdy m a u → ¬ ((m.to (upd m.hp q (.lst xs))).sh q).be a ∧ a ∉ ((m.to (upd m.hp q (.lst xs))).sh q).rh := fun a u h' => shun_new h a u h'
  have f1 : FzA K ct (m.sh q) xs l := f.avo (shun_new h) rfl
  have st2 : Stp (m.sh q) ((m.to (upd m.hp q (.lst xs))).sh q) := ⟨fun _ h => h, fun _ h => .inl h, ⟨[], (List.append_nil _).symm, fun _ h => nomatch h⟩, st1.keep⟩
  refine ⟨s.trans st1, S.new h, ⟨q, xs, rfl, nr, nb, e, f1.to st2⟩, fun _ _ => ⟨q, rfl, s.new nr h, ?_⟩⟩
  refine ⟨S.len, S.nd, fun a z => ?_, fun a z => z.elim (S.dj a) fun z => by rw [z]; exact nr, fun n a o h1 h2 => ?_⟩
  · rcases z with z | rfl
    · show upd m.hp q _ a ≠ none
      by_cases c : a = q
      · subst c; exact some_ne e
      · rw [upd_ne c]; exact S.bl a z
    · exact some_ne e
  · have r := S.ob n a o h1 h2
    have r1 : ObR K ct (m.sh q) a o := r.avo (shun_new h) rfl
    exact r1.kept st2 (upd_ne fun c => r.live (by rw [c]; exact h))
/-- .. becomes a thing that changes -/
theorem Rs.add {m0 : Mo} {l : List D} (r : Rs K ct m0 m st v (.own l)) : ∃ q, v = .ref q ∧ Stp m0 (m.add q) ∧ SR K ct (m.add q) (st ++ [.lst l]) ∧ (m.add q).rh[st.length]? = some q := by
  obtain ⟨q, e, h0, S⟩ := r.nw l rfl
  obtain ⟨q', xs, e', n, nb, hq, f⟩ := r.wr
  rw [e] at e'
  cases e'
  refine ⟨q, e, r.stp.add n h0, S.add n nb ⟨_, hq, f⟩, ?_⟩
  show (m.rh ++ [q])[st.length]? = some q
  rw [← r.sr.len, List.getElem?_append_right (Nat.le_refl _), Nat.sub_self]
  rfl
/-- what was made since m and can change is forgotten -/
abbrev Mo.cut (m' m : Mo) : Mo := ⟨m'.be, m.rh, m'.hp⟩
theorem cut_out (s : Stp m m') : ∀ a u, Rdy m' a u → ¬ (m'.cut m).be a ∧ a ∉ (m'.cut m).rh := fun a u h => ⟨h.2.1, fun z => h.1 (s.sub z)⟩
theorem Stp.cut (s : Stp m m') : Stp m (m'.cut m) := ⟨s.bl, s.be, ⟨[], (List.append_nil _).symm, fun _ h => nomatch h⟩, s.keep⟩
theorem SR.cut (S : SR K ct m' st) (s : Stp m m') {n : Nat} (hn : n = m.rh.length) : SR K ct (m'.cut m) (st.take n) := by
  obtain ⟨ex, e, _⟩ := s.ext
  have hl := S.len
  rw [e, List.length_append] at hl
  have nd := S.nd
  rw [e, List.nodup_append] at nd
  refine ⟨by rw [List.length_take]; show m.rh.length = _; omega, nd.1, S.bl, fun a h z => S.dj a h (s.sub z), fun k a o h1 h2 => ?_⟩
  have h1' : m.rh[k]? = some a := h1
  have hk : k < m.rh.length := (List.getElem?_eq_some_iff.mp h1').1
  rw [List.getElem?_take_of_lt (by omega)] at h2
  exact (S.ob k a o (s.get h1') h2).avo (cut_out s) rfl
theorem SR.cutSh (S : SR K ct (m'.sh q) st) (s : Stp m m') {n : Nat} (hn : n = m.rh.length) : SR K ct ((m'.cut m).sh q) (st.take n) := by
  obtain ⟨ex, e, _⟩ := s.ext
  have hl := S.len
  have hl : m'.rh.length = st.length := S.len
  rw [e, List.length_append] at hl
  have nd : m'.rh.Nodup := S.nd
  rw [e, List.nodup_append] at nd
  refine ⟨by rw [List.length_take]; show m.rh.length = _; omega, nd.1, S.bl, fun a h z => S.dj a h (s.sub z), fun k a o h1 h2 => ?_⟩
  have h1' : m.rh[k]? = some a := h1
  have hk : k < m.rh.length := (List.getElem?_eq_some_iff.mp h1').1
  rw [List.getElem?_take_of_lt (by omega)] at h2
  have av : ∀ a u, Rdy (m'.sh q) a u → ¬ ((m'.cut m).sh q).be a ∧ a ∉ ((m'.cut m).sh q).rh := fun a u h => ⟨h.2.1, fun z => h.1 (show a ∈ m'.rh from s.sub z)⟩
  exact (S.ob k a o (s.get h1') h2).avo av rfl
/-- a value at a def's end -/
def exitW (n : Nat) (w : W) (st : Sto) : Option (W × Sto) := match w with
  | .loc k => if k < n then some (.loc k, st.take n) else match st[k]? with
    | some (.lst l) => some (.own l, st.take n)
    | _ => none
  | .nst _ => none
  | w => some (w, st.take n)
theorem Rs.exit {w' : W} {st' : Sto} {n : Nat} (r : Rs K ct m m' st v w) (hn : n = m.rh.length) (e : exitW n w st = some (w', st')) : Rs K ct m (m'.cut m) st' v w' := by
  have s := r.stp
  have big : ∀ k a, m'.rh[k]? = some a → ¬ k < n → a ∉ m.rh ∧ m.hp a = none := fun k a h hk => by
    obtain ⟨ex, e1, f⟩ := s.ext
    rw [e1, List.getElem?_append_right (by omega)] at h
    exact f a (List.mem_of_getElem? h)
  cases w with
  | fz d =>
    cases e
    exact .fz s.cut (r.sr.cut s hn) (Fz.avo (cut_out s) rfl r.wr)
  | own l =>
    cases e
    obtain ⟨q, xs, e1, n1, nb, hq, f⟩ := r.wr
    obtain ⟨q', e2, h0, S2⟩ := r.nw l rfl
    rw [e1] at e2
    cases e2
    have av : ∀ a u, Rdy (m'.sh q) a u → ¬ ((m'.cut m).sh q).be a ∧ a ∉ ((m'.cut m).sh q).rh := fun a u h => ⟨h.2.1, fun z => h.1 (show a ∈ m'.rh from s.sub z)⟩
    refine ⟨s.cut, r.sr.cut s hn, ⟨q, xs, e1, fun z => n1 (s.sub z), nb, hq, f.avo av rfl⟩, fun _ _ => ⟨q, e1, h0, S2.cutSh s hn⟩⟩
  | nst ks => cases e
  | loc k =>
    unfold exitW at e
    dsimp only at e
    obtain ⟨a, rfl, ha⟩ := r.wr
    split at e
    case isTrue c =>
      cases e
      refine .loc s.cut (r.sr.cut s hn) ?_
      obtain ⟨ex, e1, f⟩ := s.ext
      rw [e1, List.getElem?_append_left (by omega)] at ha
      exact ha
    case isFalse c =>
      obtain ⟨o, ho, hb⟩ := r.sr.get ha
      rw [ho] at e
      cases o with
      | dk l => cases e
      | ins _ _ => cases e
      | tab _ _ => cases e
      | lst l =>
        cases e
        obtain ⟨xs, e1, f⟩ := hb.lst_of
        obtain ⟨na, h0⟩ := big k a ha c
        have av : ∀ b u, Rdy m' b u → ¬ ((m'.cut m).sh a).be b ∧ b ∉ ((m'.cut m).sh a).rh := fun b u h => ⟨fun z => Or.elim z h.2.1 fun e => h.1 (by rw [e]; exact List.mem_of_getElem? ha), fun z => h.1 (s.sub z)⟩
        have S2 := r.sr.cut s hn
        refine ⟨s.cut, S2, ⟨a, xs, rfl, na, fun z => r.sr.dj a z (List.mem_of_getElem? ha), e1, f.avo av rfl⟩, fun _ _ => ⟨a, rfl, h0, ?_⟩⟩
        refine ⟨S2.len, S2.nd, fun b h => Or.elim h (S2.bl b) fun z => by rw [z]; exact some_ne e1, fun b h => Or.elim h (S2.dj b) fun z => by rw [z]; exact na, fun j b o h1 h2 => ?_⟩
        have hj : j < m.rh.length := (List.getElem?_eq_some_iff.mp (show m.rh[j]? = some b from h1)).1
        rw [List.getElem?_take_of_lt (by omega)] at h2
        exact (r.sr.ob j b o (s.get h1) h2).avo av rfl
end
end QD
/-! QB: what a piece of a program does to data and to the store (denotations), and that its reading follows. -/
namespace QD
open PySem PySem.Spec PyProof.Rows L2 MG
inductive Rt (α : Type) where
  | ok (a : α) (st : Sto)
  | ex (c : Str) (p : Option (Str × D)) (st : Sto)
  | no
def Rt.bind {α β : Type} : Rt α → (α → Sto → Rt β) → Rt β
  | .ok a st, f => f a st
  | .ex c p st, _ => .ex c p st
  | .no, _ => .no
@[simp] theorem Rt.bind_ok {α β : Type} {a : α} {st : Sto} {f : α → Sto → Rt β} : (Rt.ok a st).bind f = f a st := rfl
@[simp] theorem Rt.bind_ex {α β : Type} {c : Str} {p : Option (Str × D)} {st : Sto} {f : α → Sto → Rt β} : (Rt.ex c p st : Rt α).bind f = .ex c p st := rfl
@[simp] theorem Rt.bind_no {α β : Type} {f : α → Sto → Rt β} : (Rt.no : Rt α).bind f = .no := rfl
/-- the text's part, the classes, the errors' classes -/
structure Cf where
  K : PySem.W.Frag
  ct : CTab
  ce : Str → Addr
/-- an error's own dict -/
def ExD (cf : Cf) (m : Mo) : Option (Str × D) → Option Addr → Prop
  | some (f, d), dd => ∃ a v, dd = some a ∧ a ∉ m.rh ∧ ¬ m.be a ∧ m.hp a = some (.xd [(f, v)]) ∧ Fz cf.K cf.ct m v d
  | none, dd => dd = none
section
variable (cf : Cf) (E : XK) (m : Mo)
def Xe (c : Str) (p : Option (Str × D)) (st : Sto) : Prop := ∀ m' dd, Stp m m' → SR cf.K cf.ct m' st → ExD cf m' p dd → E (.ref (cf.ce c)) dd m'.hp
def Pe (Q : VK) : Rt W → Prop
  | .ok w st => ∀ v m', Rs cf.K cf.ct m m' st v w → Q v m'.hp
  | .ex c p st => Xe cf E m c p st
  | .no => False
def Pt (Q : Bool → Hp → Prop) : Rt Bool → Prop
  | .ok b st => ∀ m', Stp m m' → SR cf.K cf.ct m' st → Q b m'.hp
  | .ex c p st => Xe cf E m c p st
  | .no => False
inductive WRs (m : Mo) : List V → List W → Prop
  | nil : WRs m [] []
  | cons {v vs w ws} : WR cf.K cf.ct m v w → WRs m vs ws → WRs m (v :: vs) (w :: ws)
def Pa (Q : List V → Hp → Prop) : Rt (List W) → Prop
  | .ok ws st => ∀ vs m', Stp m m' → SR cf.K cf.ct m' st → WRs cf m' vs ws → Q vs m'.hp
  | .ex c p st => Xe cf E m c p st
  | .no => False
inductive Sx where
  | go (en : En) (st : Sto)
  | rt (w : W) (st : Sto)
  | bk (en : En) (st : Sto)
  | ct (en : En) (st : Sto)
  | ex (c : Str) (p : Option (Str × D)) (st : Sto)
  | no
def Px (D : Ends) : Sx → Prop
  | .go en st => ∀ σ m', Stp m m' → ER cf.K cf.ct m' σ en → SR cf.K cf.ct m' st → D.nx σ m'.hp
  | .bk en st => ∀ σ m', Stp m m' → ER cf.K cf.ct m' σ en → SR cf.K cf.ct m' st → D.bk σ m'.hp
  | .ct en st => ∀ σ m', Stp m m' → ER cf.K cf.ct m' σ en → SR cf.K cf.ct m' st → D.ct σ m'.hp
  | .rt w st => ∀ v m', Rs cf.K cf.ct m m' st v w → D.rt v m'.hp
  | .ex c p st => Xe cf E m c p st
  | .no => False
def Pg (vs : List Nat) (σ : L2.St) (Q : L2.St → Hp → Prop) : Rt En → Prop
  | .ok en st => ∀ σ' m', Stp m m' → ER cf.K cf.ct m' σ' en → SR cf.K cf.ct m' st → (∀ i, i ∉ vs → σ'[i]? = σ[i]?) → σ'.length = σ.length → Q σ' m'.hp
  | .ex c p st => Xe cf E m c p st
  | .no => False
end
abbrev Dn := En → Sto → Rt W
abbrev DnT := En → Sto → Rt Bool
abbrev DnA := En → Sto → Rt (List W)
abbrev DnS := En → Sto → Sx
abbrev DnG := W → En → Sto → Rt En
section
variable (cf : Cf) (E : XK)
def Ev (t : TE) (d : Dn) : Prop := ∀ m σ en st Q, ER cf.K cf.ct m σ en → SR cf.K cf.ct m st → Pe cf E m Q (d en st) → t σ m.hp Q
def Et (t : TT) (d : DnT) : Prop := ∀ m σ en st Q, ER cf.K cf.ct m σ en → SR cf.K cf.ct m st → Pt cf E m Q (d en st) → t σ m.hp Q
def Ea (t : TA) (d : DnA) : Prop := ∀ m σ en st Q, ER cf.K cf.ct m σ en → SR cf.K cf.ct m st → Pa cf E m Q (d en st) → t σ m.hp Q
def Es (t : TS) (d : DnS) : Prop := ∀ m σ en st D, ER cf.K cf.ct m σ en → SR cf.K cf.ct m st → Px cf E m D (d en st) → t D σ m.hp
/-- a target; only the slots of vs are set -/
def Eg (vs : List Nat) (g : TG) (d : DnG) : Prop := ∀ m σ en st v w Q, ER cf.K cf.ct m σ en → SR cf.K cf.ct m st → WR cf.K cf.ct m v w → Pg cf E m vs σ Q (d w en st) → g v σ m.hp Q
def Egs (vs : List Nat) (g : TGs) (d : List D → En → Sto → Rt En) : Prop := ∀ m σ en st us ds Q, ER cf.K cf.ct m σ en → SR cf.K cf.ct m st → FzA cf.K cf.ct m us ds → Pg cf E m vs σ Q (d ds en st) → g us σ m.hp Q
/-- operations by values -/
def Op2 (r : R2) (f : W → W → Sto → Rt W) : Prop := ∀ m st v1 v2 w1 w2 Q, SR cf.K cf.ct m st → WR cf.K cf.ct m v1 w1 → WR cf.K cf.ct m v2 w2 → Pe cf E m Q (f w1 w2 st) → r v1 v2 m.hp Q
def Op1 (r : V → Hp → VK → Prop) (f : W → Sto → Rt W) : Prop := ∀ m st v w Q, SR cf.K cf.ct m st → WR cf.K cf.ct m v w → Pe cf E m Q (f w st) → r v m.hp Q
def OpN (r : List V → Hp → VK → Prop) (f : List W → Sto → Rt W) : Prop := ∀ m st vs ws Q, SR cf.K cf.ct m st → WRs cf m vs ws → Pe cf E m Q (f ws st) → r vs m.hp Q
/-- a method of a builtin type, of a value -/
def OpM (T : String) (r : V → List V → Hp → VK → Prop) (f : W → List W → Sto → Rt W) (ty : W → Sto → Prop) : Prop :=
  (∀ m st v w, SR cf.K cf.ct m st → WR cf.K cf.ct m v w → ty w st → tyV cf.K T v m.hp) ∧
  ∀ m st v w vs ws Q, SR cf.K cf.ct m st → WR cf.K cf.ct m v w → WRs cf m vs ws → Pe cf E m Q (f w ws st) → r v vs m.hp Q
end
section
variable {cf : Cf} {E : XK} {m m1 : Mo} {st : Sto}
theorem Xe.pre {c : Str} {p : Option (Str × D)} (s : Stp m m1) (h : Xe cf E m c p st) : Xe cf E m1 c p st := fun m' dd t S x => h m' dd (s.trans t) S x
theorem Pe.pre {Q : VK} {r : Rt W} (s : Stp m m1) (h : Pe cf E m Q r) : Pe cf E m1 Q r := by
  cases r with
  | ok w st => exact fun v m' q => h v m' (q.pre s)
  | ex c p st => exact Xe.pre s h
  | no => exact h
theorem Pt.pre {Q : Bool → Hp → Prop} {r : Rt Bool} (s : Stp m m1) (h : Pt cf E m Q r) : Pt cf E m1 Q r := by
  cases r with
  | ok w st => exact fun m' q => h m' (s.trans q)
  | ex c p st => exact Xe.pre s h
  | no => exact h
theorem Pa.pre {Q : List V → Hp → Prop} {r : Rt (List W)} (s : Stp m m1) (h : Pa cf E m Q r) : Pa cf E m1 Q r := by
  cases r with
  | ok w st => exact fun vs m' q => h vs m' (s.trans q)
  | ex c p st => exact Xe.pre s h
  | no => exact h
theorem Px.pre {D : Ends} {r : Sx} (s : Stp m m1) (h : Px cf E m D r) : Px cf E m1 D r := by
  cases r with
  | go en st => exact fun σ m' q => h σ m' (s.trans q)
  | bk en st => exact fun σ m' q => h σ m' (s.trans q)
  | ct en st => exact fun σ m' q => h σ m' (s.trans q)
  | rt w st => exact fun v m' q => h v m' (q.pre s)
  | ex c p st => exact Xe.pre s h
  | no => exact h
theorem Pg.pre {vs : List Nat} {σ : L2.St} {Q : L2.St → Hp → Prop} {r : Rt En} (s : Stp m m1) (h : Pg cf E m vs σ Q r) : Pg cf E m1 vs σ Q r := by
  cases r with
  | ok en st => exact fun σ m' q => h σ m' (s.trans q)
  | ex c p st => exact Xe.pre s h
  | no => exact h
theorem WRs.to {vs : List V} {ws : List W} (s : Stp m m1) : WRs cf m vs ws → WRs cf m1 vs ws := fun h => by
  induction h with
  | nil => exact .nil
  | cons a b ih => exact .cons (a.to s) ih
/-! ### expressions -/
theorem Rs.keep {v : V} {w : W} (S : SR cf.K cf.ct m st) (r : WR cf.K cf.ct m v w) (k : w.stays) : Rs cf.K cf.ct m m st v w := ⟨Stp.refl, S, r, fun l e => by subst e; exact k.elim⟩
def dVar (i : Nat) : Dn := fun en st => match en[i]? with
  | some (some w) => .ok w st
  | _ => .no
theorem ev_var {i : Nat} : Ev cf E (tVar i) (dVar i) := fun m σ en st Q er S h => by
  unfold dVar at h
  cases e : en[i]? with
  | none => rw [e] at h; exact h.elim
  | some o =>
    cases o with
    | none => rw [e] at h; exact h.elim
    | some w =>
      rw [e] at h
      obtain ⟨v, hv, r, k⟩ := er.at_ i w e
      exact ⟨v, hv, h v m (.keep S r k)⟩
def dC (d : D) : Dn := fun _ st => .ok (.fz d) st
theorem ev_c {v : V} {d : D} (h : ∀ m, Fz cf.K cf.ct m v d) : Ev cf E (tC v) (dC d) := fun m σ en st Q er S q => q v m (.fz Stp.refl S (h m))
theorem ev_int {i : Int} : Ev cf E (tC (.int i)) (dC (.int i)) := ev_c fun _ => .int i
theorem ev_bl {b : Bool} : Ev cf E (tC (.bl b)) (dC (.bool b)) := ev_c fun _ => .bl b
theorem ev_str {b : Str} : Ev cf E (tC (.str b)) (dC (.str b)) := ev_c fun _ => .str b
theorem ev_non : Ev cf E (tC .non) (dC .none) := ev_c fun _ => .non
/-- two in a row, then an operation -/
def dOp (f : W → W → Sto → Rt W) (a b : Dn) : Dn := fun en st => (a en st).bind fun x st1 => (b en st1).bind fun y st2 => f x y st2
theorem ev_op {r : R2} {f : W → W → Sto → Rt W} {ta tb : TE} {a b : Dn} (o : Op2 cf E r f) (ha : Ev cf E ta a) (hb : Ev cf E tb b) : Ev cf E (tOp r ta tb) (dOp f a b) := fun m σ en st Q er S h => by
  refine ha m σ en st _ er S ?_
  unfold dOp at h
  cases e : a en st with
  | ex c p st1 => rw [e] at h; exact h
  | no => rw [e] at h; exact h
  | ok x st1 =>
    rw [e] at h
    intro v m1 r1
    refine hb m1 σ en st1 _ (er.to r1.stp) r1.sr ?_
    replace h : Pe cf E m Q ((b en st1).bind fun y st2 => f x y st2) := h
    cases e2 : b en st1 with
    | ex c p st2 => rw [e2] at h; exact Xe.pre r1.stp h
    | no => rw [e2] at h; exact h
    | ok y st2 =>
      rw [e2] at h
      intro u m2 r2
      exact o m2 st2 v u x y Q r2.sr (r1.wr.to r2.stp) r2.wr (Pe.pre (r1.stp.trans r2.stp) h)
def dUn (f : W → Sto → Rt W) (a : Dn) : Dn := fun en st => (a en st).bind fun x st1 => f x st1
theorem ev_un {r : V → Hp → VK → Prop} {f : W → Sto → Rt W} {ta : TE} {a : Dn} (o : Op1 cf E r f) (ha : Ev cf E ta a) : Ev cf E (tUn r ta) (dUn f a) := fun m σ en st Q er S h => by
  refine ha m σ en st _ er S ?_
  unfold dUn at h
  cases e : a en st with
  | ex c p st1 => rw [e] at h; exact h
  | no => rw [e] at h; exact h
  | ok x st1 =>
    rw [e] at h
    intro v m1 r1
    exact o m1 st1 v x Q r1.sr r1.wr (Pe.pre r1.stp h)
/-! ### arguments, displays -/
def aNil : DnA := fun _ st => .ok [] st
theorem ea_nil : Ea cf E tNil aNil := fun m σ en st Q er S h => h [] m Stp.refl S .nil
def aCons (a : Dn) (b : DnA) : DnA := fun en st => (a en st).bind fun x st1 => (b en st1).bind fun xs st2 => .ok (x :: xs) st2
theorem ea_cons {te : TE} {tr : TA} {a : Dn} {b : DnA} (ha : Ev cf E te a) (hb : Ea cf E tr b) : Ea cf E (tCons te tr) (aCons a b) := fun m σ en st Q er S h => by
  refine ha m σ en st _ er S ?_
  unfold aCons at h
  cases e : a en st with
  | ex c p st1 => rw [e] at h; exact h
  | no => rw [e] at h; exact h
  | ok x st1 =>
    rw [e] at h
    intro v m1 r1
    refine hb m1 σ en st1 _ (er.to r1.stp) r1.sr ?_
    replace h : Pa cf E m Q ((b en st1).bind fun xs st2 => .ok (x :: xs) st2) := h
    cases e2 : b en st1 with
    | ex c p st2 => rw [e2] at h; exact Xe.pre r1.stp h
    | no => rw [e2] at h; exact h
    | ok y st2 =>
      rw [e2] at h
      intro us m2 s2 S2 r2
      exact h (v :: us) m2 (r1.stp.trans s2) S2 (.cons (r1.wr.to s2) r2)
/-- a call of a builtin -/
def dN (f : List W → Sto → Rt W) (a : DnA) : Dn := fun en st => (a en st).bind fun xs st1 => f xs st1
theorem ev_cb {r : List V → Hp → VK → Prop} {f : List W → Sto → Rt W} {t : TA} {a : DnA} (o : OpN cf E r f) (ha : Ea cf E t a) : Ev cf E (tCB r t) (dN f a) := fun m σ en st Q er S h => by
  refine ha m σ en st _ er S ?_
  unfold dN at h
  cases e : a en st with
  | ex c p st1 => rw [e] at h; exact h
  | no => rw [e] at h; exact h
  | ok x st1 =>
    rw [e] at h
    intro vs m1 s1 S1 r1
    exact o m1 st1 vs x Q S1 r1 (Pe.pre s1 h)
/-- the data of a value that goes into a tuple, a list -/
def datW : W → Option D
  | .fz d => some d
  | .own l => some (.list l)
  | .loc _ => none
  | .nst _ => none
def datWs : List W → Option (List D)
  | [] => some []
  | w :: ws => match datW w, datWs ws with
    | some d, some ds => some (d :: ds)
    | _, _ => none
theorem dat_ok {v : V} {w : W} {d : D} (r : WR cf.K cf.ct m v w) (e : datW w = some d) : Fz cf.K cf.ct m v d := by
  cases w with
  | fz d' => cases e; exact r
  | own l => cases e; exact r.fz_of
  | loc n => cases e
  | nst _ => cases e
theorem dats_ok : ∀ {vs : List V} {ws : List W} {ds : List D}, WRs cf m vs ws → datWs ws = some ds → FzA cf.K cf.ct m vs ds
  | _, _, _, .nil, e => by cases e; exact .nil
  | _, w :: ws, ds, .cons a b, e => by
    unfold datWs at e
    cases e1 : datW w with
    | none => rw [e1] at e; cases e
    | some d =>
      cases e2 : datWs ws with
      | none => rw [e1, e2] at e; cases e
      | some ds' =>
        rw [e1, e2] at e
        cases e
        exact .cons (dat_ok a e1) (dats_ok b e2)
def fTup (ws : List W) (st : Sto) : Rt W := match datWs ws with
  | some ds => if ds.length ≤ sizeLine then .ok (.fz (.tuple ds)) st else .no
  | none => .no
def fLst (ws : List W) (st : Sto) : Rt W := match datWs ws with
  | some ds => if ds.length ≤ sizeLine then .ok (.own ds) st else .no
  | none => .no
theorem Rs.newTup {a : Addr} {xs : List V} {ds : List D} (S : SR cf.K cf.ct m st) (h : m.hp a = none) (f : FzA cf.K cf.ct m xs ds) : Rs cf.K cf.ct m (m.to (upd m.hp a (.tup xs))) st (.ref a) (.fz (.tuple ds)) :=
  .fz (Stp.one h) (S.new h) (.tup (.inl ⟨S.out h, fun z => S.bl a z h, .inl upd_same⟩) (f.to (Stp.one h)))
theorem ev_tup {t : TA} {a : DnA} (ha : Ea cf E t a) : Ev cf E (tTup t) (dN fTup a) := fun m σ en st Q er S h => by
  refine ha m σ en st _ er S ?_
  unfold dN at h
  cases e : a en st with
  | ex c p st1 => rw [e] at h; exact h
  | no => rw [e] at h; exact h
  | ok x st1 =>
    rw [e] at h
    intro vs m1 s1 S1 r1
    replace h : Pe cf E m Q (fTup x st1) := h
    unfold fTup at h
    cases e2 : datWs x with
    | none => rw [e2] at h; exact h.elim
    | some ds =>
      rw [e2] at h
      dsimp only at h
      have f := dats_ok r1 e2
      split at h
      case isTrue c =>
        refine ⟨by rw [f.length]; exact c, fun p hp => ?_⟩
        exact h _ _ ((Rs.newTup S1 hp f).pre s1)
      case isFalse c => exact h.elim
theorem ev_lst {t : TA} {a : DnA} (ha : Ea cf E t a) : Ev cf E (tLst t) (dN fLst a) := fun m σ en st Q er S h => by
  refine ha m σ en st _ er S ?_
  unfold dN at h
  cases e : a en st with
  | ex c p st1 => rw [e] at h; exact h
  | no => rw [e] at h; exact h
  | ok x st1 =>
    rw [e] at h
    intro vs m1 s1 S1 r1
    replace h : Pe cf E m Q (fLst x st1) := h
    unfold fLst at h
    cases e2 : datWs x with
    | none => rw [e2] at h; exact h.elim
    | some ds =>
      rw [e2] at h
      dsimp only at h
      have f := dats_ok r1 e2
      split at h
      case isTrue c =>
        refine ⟨by rw [f.length]; exact c, fun p hp => ?_⟩
        exact h _ _ (Rs.new s1 S1 hp f)
      case isFalse c => exact h.elim
/-- a new list is to change -/
def dLoc (a : Dn) : Dn := fun en st => (a en st).bind fun x st1 => match x with
  | .own l => .ok (.loc st1.length) (st1 ++ [.lst l])
  | _ => .no
theorem ev_loc {t : TE} {a : Dn} (ha : Ev cf E t a) : Ev cf E t (dLoc a) := fun m σ en st Q er S h => by
  refine ha m σ en st Q er S ?_
  unfold dLoc at h
  cases e : a en st with
  | ex c p st1 => rw [e] at h; exact h
  | no => rw [e] at h; exact h
  | ok x st1 =>
    rw [e] at h
    intro v m1 r1
    cases x with
    | fz _ => exact h.elim
    | loc _ => exact h.elim
    | nst _ => exact h.elim
    | own l =>
      obtain ⟨q, rfl, s, S2, hq⟩ := r1.add
      exact h (.ref q) (m1.add q) (.loc s S2 hq)
/-! ### tests -/
def tst : W → Option Bool
  | .fz (.bool b) => some b
  | _ => none
theorem tst_ok {v : V} {w : W} {b : Bool} (r : WR cf.K cf.ct m v w) (e : tst w = some b) : v = .bl b := by
  cases w with
  | fz d => cases d with
    | bool b' => cases e; cases r; rfl
    | _ => cases e
  | _ => cases e
def bT (a : Dn) : DnT := fun en st => (a en st).bind fun x st1 => match tst x with
  | some b => .ok b st1
  | none => .no
theorem et_b {t : TE} {a : Dn} (ha : Ev cf E t a) : Et cf E (tB t) (bT a) := fun m σ en st Q er S h => by
  refine ha m σ en st _ er S ?_
  unfold bT at h
  cases e : a en st with
  | ex c p st1 => rw [e] at h; exact h
  | no => rw [e] at h; exact h
  | ok x st1 =>
    rw [e] at h
    intro v m1 r1
    replace h : Pt cf E m Q (match tst x with | some b => .ok b st1 | none => .no) := h
    cases e2 : tst x with
    | none => rw [e2] at h; exact h.elim
    | some b =>
      rw [e2] at h
      exact ⟨b, tst_ok r1.wr e2, h m1 r1.stp r1.sr⟩
theorem et_t {t : TE} {a : Dn} (ha : Ev cf E t a) : Et cf E (tTest t) (bT a) := et_b ha
def bAnd (a b : DnT) : DnT := fun en st => (a en st).bind fun x st1 => if x = true then b en st1 else .ok false st1
def bOr (a b : DnT) : DnT := fun en st => (a en st).bind fun x st1 => if x = true then .ok true st1 else b en st1
def bNot (a : DnT) : DnT := fun en st => (a en st).bind fun x st1 => .ok (!x) st1
theorem et_and {t u : TT} {a b : DnT} (ha : Et cf E t a) (hb : Et cf E u b) : Et cf E (tAnd t u) (bAnd a b) := fun m σ en st Q er S h => by
  refine ha m σ en st _ er S ?_
  unfold bAnd at h
  cases e : a en st with
  | ex c p st1 => rw [e] at h; exact h
  | no => rw [e] at h; exact h
  | ok x st1 =>
    rw [e] at h
    intro m1 s1 S1
    replace h : Pt cf E m Q (if x = true then b en st1 else .ok false st1) := h
    cases x with
    | true => exact hb m1 σ en st1 Q (er.to s1) S1 (Pt.pre s1 h)
    | false => exact h m1 s1 S1
theorem et_or {t u : TT} {a b : DnT} (ha : Et cf E t a) (hb : Et cf E u b) : Et cf E (tOr t u) (bOr a b) := fun m σ en st Q er S h => by
  refine ha m σ en st _ er S ?_
  unfold bOr at h
  cases e : a en st with
  | ex c p st1 => rw [e] at h; exact h
  | no => rw [e] at h; exact h
  | ok x st1 =>
    rw [e] at h
    intro m1 s1 S1
    replace h : Pt cf E m Q (if x = true then .ok true st1 else b en st1) := h
    cases x with
    | false => exact hb m1 σ en st1 Q (er.to s1) S1 (Pt.pre s1 h)
    | true => exact h m1 s1 S1
theorem et_not {t : TT} {a : DnT} (ha : Et cf E t a) : Et cf E (tNot t) (bNot a) := fun m σ en st Q er S h => by
  refine ha m σ en st _ er S ?_
  unfold bNot at h
  cases e : a en st with
  | ex c p st1 => rw [e] at h; exact h
  | no => rw [e] at h; exact h
  | ok x st1 => rw [e] at h; exact h
theorem et_yes : Et cf E tYes (fun _ st => .ok true st) := fun m σ en st Q er S h => h m Stp.refl S
/-- and, or, not as values -/
def dAnd (a b : Dn) : Dn := fun en st => (a en st).bind fun x st1 => match tst x with
  | some true => b en st1
  | some false => .ok (.fz (.bool false)) st1
  | none => .no
def dOr (a b : Dn) : Dn := fun en st => (a en st).bind fun x st1 => match tst x with
  | some true => .ok (.fz (.bool true)) st1
  | some false => b en st1
  | none => .no
def dNot (a : Dn) : Dn := fun en st => (a en st).bind fun x st1 => match tst x with
  | some b => .ok (.fz (.bool (!b))) st1
  | none => .no
theorem ev_and {t u : TE} {a b : Dn} (ha : Ev cf E t a) (hb : Ev cf E u b) : Ev cf E (tAndV t u) (dAnd a b) := fun m σ en st Q er S h => by
  refine ha m σ en st _ er S ?_
  unfold dAnd at h
  cases e : a en st with
  | ex c p st1 => rw [e] at h; exact h
  | no => rw [e] at h; exact h
  | ok x st1 =>
    rw [e, Rt.bind_ok] at h
    intro v m1 r1
    cases e2 : tst x with
    | none => rw [e2] at h; exact h.elim
    | some c =>
      rw [e2] at h
      refine ⟨c, tst_ok r1.wr e2, ?_⟩
      cases c with
      | true => exact hb m1 σ en st1 Q (er.to r1.stp) r1.sr (Pe.pre r1.stp h)
      | false => exact h _ m1 (.fz r1.stp r1.sr (.bl false))
theorem ev_or {t u : TE} {a b : Dn} (ha : Ev cf E t a) (hb : Ev cf E u b) : Ev cf E (tOrV t u) (dOr a b) := fun m σ en st Q er S h => by
  refine ha m σ en st _ er S ?_
  unfold dOr at h
  cases e : a en st with
  | ex c p st1 => rw [e] at h; exact h
  | no => rw [e] at h; exact h
  | ok x st1 =>
    rw [e, Rt.bind_ok] at h
    intro v m1 r1
    cases e2 : tst x with
    | none => rw [e2] at h; exact h.elim
    | some c =>
      rw [e2] at h
      refine ⟨c, tst_ok r1.wr e2, ?_⟩
      cases c with
      | false => exact hb m1 σ en st1 Q (er.to r1.stp) r1.sr (Pe.pre r1.stp h)
      | true => exact h _ m1 (.fz r1.stp r1.sr (.bl true))
def dIf (c : DnT) (a b : Dn) : Dn := fun en st => (c en st).bind fun x st1 => if x = true then a en st1 else b en st1
theorem ev_if {t : TT} {ta tb : TE} {c : DnT} {a b : Dn} (hc : Et cf E t c) (ha : Ev cf E ta a) (hb : Ev cf E tb b) : Ev cf E (tIf t ta tb) (dIf c a b) := fun m σ en st Q er S h => by
  refine hc m σ en st _ er S ?_
  unfold dIf at h
  cases e : c en st with
  | ex c p st1 => rw [e] at h; exact h
  | no => rw [e] at h; exact h
  | ok x st1 =>
    rw [e, Rt.bind_ok] at h
    intro m1 s1 S1
    cases x with
    | true => exact ha m1 σ en st1 Q (er.to s1) S1 (Pe.pre s1 h)
    | false => exact hb m1 σ en st1 Q (er.to s1) S1 (Pe.pre s1 h)
/-- a chain of two comparisons -/
def dChain (f g : W → W → Sto → Rt W) (a b c : Dn) : Dn := fun en st => (a en st).bind fun x st1 => (b en st1).bind fun y st2 => (f x y st2).bind fun z st3 => match tst z with
  | some true => (c en st3).bind fun u st4 => g y u st4
  | some false => .ok (.fz (.bool false)) st3
  | none => .no
end
end QD
/-! QC: chains, truth, statements, targets, loops, comprehensions. -/
namespace QD
open PySem PySem.Spec PyProof.Rows L2 MG
section
variable {cf : Cf} {E : XK} {m m1 : Mo} {st : Sto}
theorem ev_chain {r r' : R2} {f g : W → W → Sto → Rt W} {ta tb tc : TE} {a b c : Dn} (o : Op2 cf E r f) (o' : Op2 cf E r' g) (ha : Ev cf E ta a) (hb : Ev cf E tb b) (hc : Ev cf E tc c) : Ev cf E (tChain r r' ta tb tc) (dChain f g a b c) := fun m σ en st Q er S h => by
  refine ha m σ en st _ er S ?_
  unfold dChain at h
  cases e : a en st with
  | ex c p st1 => rw [e] at h; exact h
  | no => rw [e] at h; exact h
  | ok x st1 =>
    rw [e, Rt.bind_ok] at h
    intro v m1 r1
    refine hb m1 σ en st1 _ (er.to r1.stp) r1.sr ?_
    cases e2 : b en st1 with
    | ex c p st2 => rw [e2] at h; exact Xe.pre r1.stp h
    | no => rw [e2] at h; exact h
    | ok y st2 =>
      rw [e2, Rt.bind_ok] at h
      intro u m2 r2
      refine o m2 st2 v u x y _ r2.sr (r1.wr.to r2.stp) r2.wr ?_
      have s2 := r1.stp.trans r2.stp
      cases e3 : f x y st2 with
      | ex c p st3 => rw [e3] at h; exact Xe.pre s2 h
      | no => rw [e3] at h; exact h
      | ok z st3 =>
        rw [e3, Rt.bind_ok] at h
        intro w m3 r3
        have s3 := s2.trans r3.stp
        cases e4 : tst z with
        | none => rw [e4] at h; exact h.elim
        | some k =>
          rw [e4] at h
          refine ⟨k, tst_ok r3.wr e4, ?_⟩
          cases k with
          | false => exact h _ m3 (.fz s3 r3.sr (.bl false))
          | true =>
            refine hc m3 σ en st3 _ (er.to s3) r3.sr ?_
            replace h : Pe cf E m Q ((c en st3).bind fun u st4 => g y u st4) := h
            cases e5 : c en st3 with
            | ex c p st4 => rw [e5] at h; exact Xe.pre s3 h
            | no => rw [e5] at h; exact h
            | ok u' st4 =>
              rw [e5, Rt.bind_ok] at h
              intro w' m4 r4
              exact o' m4 st4 u w' y u' Q r4.sr (r2.wr.to (r3.stp.trans r4.stp)) r4.wr (Pe.pre (s3.trans r4.stp) h)
/-! ### truth -/
def truW (st : Sto) : W → Option Bool
  | .fz .none => some false
  | .fz (.bool b) => some b
  | .fz (.int i) => some (i != 0)
  | .fz (.str y) => if y.length ≤ sizeLine then some ((y.length : Int) != 0) else none
  | .fz (.tuple l) => some (!l.isEmpty)
  | .fz (.dict _) => none
  | w => match seqW st w with
    | some l => some (!l.isEmpty)
    | none => match w with
      | .loc n => match st[n]? with
        | some (.dk l) => some (!l.isEmpty)
        | _ => none
      | _ => none
theorem isEmpty_len {α β : Type} {xs : List α} {ys : List β} (h : xs.length = ys.length) : xs.isEmpty = ys.isEmpty := by
  cases xs <;> cases ys <;> simp at h ⊢
theorem Paired.len {α β : Type} {F : α → β → Prop} : ∀ {l₁ : List α} {l₂ : List β}, Paired F l₁ l₂ → l₁.length = l₂.length
  | _, _, .nil => rfl
  | _, _, .cons _ h => congrArg Nat.succ (Paired.len h)
theorem tru_w {v : V} {w : W} {b : Bool} (S : SR cf.K cf.ct m st) (r : WR cf.K cf.ct m v w) (e : truW st w = some b) : TruV cf.K v m.hp b := by
  have viaSeq : ∀ l, seqW st w = some l → b = !l.isEmpty → TruV cf.K v m.hp b := fun l h1 h2 => by
    obtain ⟨a, xs, rfl, hs, f⟩ := seq_ok S r h1
    exact .inl ⟨xs, SqL.of hs, by rw [h2, isEmpty_len f.length]⟩
  cases w with
  | fz d =>
    cases d with
    | none => cases r; cases e; exact rfl
    | bool c => cases r; cases e; exact rfl
    | int i => cases r; cases e; exact rfl
    | str y =>
      cases r
      unfold truW at e
      dsimp only at e
      split at e
      case isTrue c => cases e; exact ⟨c, rfl⟩
      case isFalse c => cases e
    | list l => cases e; exact viaSeq l rfl rfl
    | tuple l =>
      cases e
      cases r with
      | tup h1 h2 => exact .inr (.inl ⟨_, h1.sq, by rw [isEmpty_len h2.length]⟩)
    | dict l => cases e
  | own l => cases e; exact viaSeq l rfl rfl
  | nst _ => cases e
  | loc n =>
    obtain ⟨a, rfl, ha⟩ := r
    obtain ⟨o, ho, hb⟩ := S.get ha
    cases o with
    | lst l =>
      have hs : seqW st (.loc n) = some l := by unfold seqW; dsimp only; rw [ho]
      unfold truW at e
      dsimp only at e
      rw [hs] at e
      cases e
      obtain ⟨xs, e1, f⟩ := hb.lst_of
      exact .inl ⟨xs, SqL.of e1, by rw [isEmpty_len f.length]⟩
    | dk l =>
      have hs : seqW st (.loc n) = none := by unfold seqW; dsimp only; rw [ho]
      unfold truW at e
      dsimp only at e
      rw [hs] at e
      dsimp only at e
      rw [ho] at e
      cases e
      obtain ⟨u, e1, hb⟩ := hb
      obtain ⟨kvs, rfl, f⟩ := hb.dk_of
      exact .inr (.inr ⟨kvs, e1, by rw [isEmpty_len (Paired.len f)]⟩)
    | ins c l =>
      have hs : seqW st (.loc n) = none := by unfold seqW; dsimp only; rw [ho]
      unfold truW at e
      dsimp only at e
      rw [hs] at e
      dsimp only at e
      rw [ho] at e
      cases e
    | tab c l =>
      have hs : seqW st (.loc n) = none := by unfold seqW; dsimp only; rw [ho]
      unfold truW at e
      dsimp only at e
      rw [hs] at e
      dsimp only at e
      rw [ho] at e
      cases e
def bTru (a : Dn) : DnT := fun en st => (a en st).bind fun x st1 => match truW st1 x with
  | some b => .ok b st1
  | none => .no
theorem et_tru {t : TE} {a : Dn} (ha : Ev cf E t a) : Et cf E (fun σ H Q => t σ H fun x H' => ∃ k, TruV cf.K x H' k ∧ Q k H') (bTru a) := fun m σ en st Q er S h => by
  refine ha m σ en st _ er S ?_
  unfold bTru at h
  cases e : a en st with
  | ex c p st1 => rw [e] at h; exact h
  | no => rw [e] at h; exact h
  | ok x st1 =>
    rw [e, Rt.bind_ok] at h
    intro v m1 r1
    cases e2 : truW st1 x with
    | none => rw [e2] at h; exact h.elim
    | some b =>
      rw [e2] at h
      exact ⟨b, tru_w r1.sr r1.wr e2, h m1 r1.stp r1.sr⟩
/-! ### statements -/
def sNext : DnS := fun en st => .go en st
theorem es_next : Es cf E tNext sNext := fun m σ en st D er S h => h σ m Stp.refl er S
def sNo : DnS := fun _ _ => .no
theorem es_never : Es cf E tNever sNo := fun m σ en st D er S h => h.elim
def sSeq (a b : DnS) : DnS := fun en st => match a en st with
  | .go en1 st1 => b en1 st1
  | r => r
theorem es_seq {t u : TS} {a b : DnS} (ha : Es cf E t a) (hb : Es cf E u b) : Es cf E (tSeq t u) (sSeq a b) := fun m σ en st D er S h => by
  refine ha m σ en st _ er S ?_
  unfold sSeq at h
  cases e : a en st with
  | go en1 st1 =>
    rw [e] at h
    intro σ1 m1 s1 er1 S1
    exact hb m1 σ1 en1 st1 D er1 S1 (Px.pre s1 h)
  | rt w st1 => rw [e] at h; exact h
  | bk w st1 => rw [e] at h; exact h
  | ct w st1 => rw [e] at h; exact h
  | ex c p st1 => rw [e] at h; exact h
  | no => rw [e] at h; exact h
def sBind {α : Type} (r : Rt α) (f : α → Sto → Sx) : Sx := match r with
  | .ok a st => f a st
  | .ex c p st => .ex c p st
  | .no => .no
@[simp] theorem sBind_ok {α : Type} {a : α} {st : Sto} {f : α → Sto → Sx} : sBind (.ok a st) f = f a st := rfl
def sDrop (a : Dn) : DnS := fun en st => sBind (a en st) fun _ st1 => .go en st1
theorem es_drop {t : TE} {a : Dn} (ha : Ev cf E t a) : Es cf E (tDrop t) (sDrop a) := fun m σ en st D er S h => by
  refine ha m σ en st _ er S ?_
  unfold sDrop at h
  cases e : a en st with
  | ex c p st1 => rw [e] at h; exact h
  | no => rw [e] at h; exact h
  | ok x st1 =>
    rw [e] at h
    intro v m1 r1
    exact h σ m1 r1.stp (er.to r1.stp) r1.sr
def sRet (a : Dn) : DnS := fun en st => sBind (a en st) fun x st1 => .rt x st1
theorem es_ret {t : TE} {a : Dn} (ha : Ev cf E t a) : Es cf E (tRet t) (sRet a) := fun m σ en st D er S h => by
  refine ha m σ en st _ er S ?_
  unfold sRet at h
  cases e : a en st with
  | ex c p st1 => rw [e] at h; exact h
  | no => rw [e] at h; exact h
  | ok x st1 => rw [e] at h; exact h
def sRetN : DnS := fun _ st => .rt (.fz .none) st
def sIf (c : DnT) (a b : DnS) : DnS := fun en st => sBind (c en st) fun x st1 => if x = true then a en st1 else b en st1
theorem es_if {c : TT} {t u : TS} {d : DnT} {a b : DnS} (hc : Et cf E c d) (ha : Es cf E t a) (hb : Es cf E u b) : Es cf E (tIfS c t u) (sIf d a b) := fun m σ en st D er S h => by
  refine hc m σ en st _ er S ?_
  unfold sIf at h
  cases e : d en st with
  | ex c p st1 => rw [e] at h; exact h
  | no => rw [e] at h; exact h
  | ok x st1 =>
    rw [e, sBind_ok] at h
    intro m1 s1 S1
    cases x with
    | true => exact ha m1 σ en st1 D (er.to s1) S1 (Px.pre s1 h)
    | false => exact hb m1 σ en st1 D (er.to s1) S1 (Px.pre s1 h)
/-! ### targets -/
def frz : W → W
  | .own l => .fz (.list l)
  | w => w
theorem frz_ok {v : V} {w : W} (r : WR cf.K cf.ct m v w) : WR cf.K cf.ct m v (frz w) ∧ (frz w).stays := by
  cases w with
  | fz d => exact ⟨r, trivial⟩
  | own l => exact ⟨r.fz_of, trivial⟩
  | loc n => exact ⟨r, trivial⟩
  | nst _ => exact ⟨r, trivial⟩
theorem ER.set {σ : L2.St} {en : En} {v : V} {w : W} (er : ER cf.K cf.ct m σ en) (i : Nat) (r : WR cf.K cf.ct m v w) (k : w.stays) : ER cf.K cf.ct m (σ.set i (some v)) (en.set i (some w)) := by
  refine ⟨by rw [List.length_set, List.length_set]; exact er.len, fun j u h => ?_⟩
  by_cases c : i = j
  · subst c
    have hl : i < en.length := by
      have := (List.getElem?_eq_some_iff.mp h).1
      rwa [List.length_set] at this
    rw [List.getElem?_set_self hl] at h
    cases h
    exact ⟨v, List.getElem?_set_self (by rw [er.len]; exact hl), r, k⟩
  · rw [List.getElem?_set_ne c] at h
    rw [List.getElem?_set_ne c]
    exact er.at_ j u h
def gN (i : Nat) : DnG := fun w en st => .ok (en.set i (some (frz w))) st
theorem eg_name {i : Nat} {vs : List Nat} (hi : vs.contains i = true) : Eg cf E vs (gName i) (gN i) := fun m σ en st v w Q er S r h => by
  obtain ⟨r', k⟩ := frz_ok r
  refine h _ m Stp.refl (er.set i r' k) S (fun j hj => ?_) (by rw [List.length_set])
  exact List.getElem?_set_ne (fun e => hj (by rw [← e]; simpa using hi))
def gsNil : List D → En → Sto → Rt En := fun ds en st => match ds with
  | [] => .ok en st
  | _ => .no
theorem egs_nil {vs : List Nat} : Egs cf E vs gNil gsNil := fun m σ en st us ds Q er S r h => by
  cases ds with
  | nil => cases r; exact ⟨rfl, h σ m Stp.refl er S (fun _ _ => rfl) rfl⟩
  | cons d ds => exact h.elim
def gsCons (g : DnG) (gs : List D → En → Sto → Rt En) : List D → En → Sto → Rt En := fun ds en st => match ds with
  | [] => .no
  | d :: ds => (g (.fz d) en st).bind fun en1 st1 => gs ds en1 st1
theorem egs_cons {vs : List Nat} {g : TG} {gs : TGs} {a : DnG} {b : List D → En → Sto → Rt En} (ha : Eg cf E vs g a) (hb : Egs cf E vs gs b) : Egs cf E vs (gCons g gs) (gsCons a b) := fun m σ en st us ds Q er S r h => by
  cases ds with
  | nil => exact h.elim
  | cons d ds =>
    cases r with
    | cons r1 r2 =>
      refine ⟨_, _, rfl, ?_⟩
      refine ha m σ en st _ (.fz d) _ er S r1 ?_
      replace h : Pg cf E m vs σ Q ((a (.fz d) en st).bind fun en1 st1 => b ds en1 st1) := h
      cases e : a (.fz d) en st with
      | ex c p st1 => rw [e] at h; exact h
      | no => rw [e] at h; exact h
      | ok en1 st1 =>
        rw [e, Rt.bind_ok] at h
        intro σ1 m1 s1 er1 S1 k1 l1
        refine hb m1 σ1 en1 st1 _ ds Q er1 S1 (r2.to s1) ?_
        cases e2 : b ds en1 st1 with
        | ex c p st2 => rw [e2] at h; exact Xe.pre s1 h
        | no => rw [e2] at h; exact h
        | ok en2 st2 =>
          rw [e2] at h
          intro σ2 m2 s2 er2 S2 k2 l2
          exact h σ2 m2 (s1.trans s2) er2 S2 (fun i hi => (k2 i hi).trans (k1 i hi)) (l2.trans l1)
def gT (n : Nat) (gs : List D → En → Sto → Rt En) : DnG := fun w en st => match w with
  | .fz (.tuple ds) => if ds.length = n then gs ds en st else .no
  | _ => .no
theorem eg_tup {vs : List Nat} {n : Nat} {g : TGs} {a : List D → En → Sto → Rt En} (ha : Egs cf E vs g a) : Eg cf E vs (gTup cf.K n g) (gT n a) := fun m σ en st v w Q er S r h => by
  unfold gT at h
  split at h
  case h_1 ds =>
    split at h
    case isTrue c =>
      cases r with
      | tup h1 h2 => exact ⟨_, _, rfl, h1.sq, h2.length.trans c, ha m σ en st _ ds Q er S h2 h⟩
    case isFalse c => exact h.elim
  case h_2 => exact h.elim
def sAsg (a : Dn) (g : DnG) : DnS := fun en st => sBind (a en st) fun x st1 => match g x en st1 with
  | .ok en2 st2 => .go en2 st2
  | .ex c p st2 => .ex c p st2
  | .no => .no
theorem es_asg {vs : List Nat} {t : TE} {g : TG} {a : Dn} {d : DnG} (ha : Ev cf E t a) (hg : Eg cf E vs g d) : Es cf E (tAsg t g) (sAsg a d) := fun m σ en st D er S h => by
  refine ha m σ en st _ er S ?_
  unfold sAsg at h
  cases e : a en st with
  | ex c p st1 => rw [e] at h; exact h
  | no => rw [e] at h; exact h
  | ok x st1 =>
    rw [e, sBind_ok] at h
    intro v m1 r1
    refine hg m1 σ en st1 v x _ (er.to r1.stp) r1.sr r1.wr ?_
    cases e2 : d x en st1 with
    | ex c p st2 => rw [e2] at h; exact Xe.pre r1.stp h
    | no => rw [e2] at h; exact h.elim
    | ok en2 st2 =>
      rw [e2] at h
      intro σ2 m2 s2 er2 S2 _ _
      exact h σ2 m2 (r1.stp.trans s2) er2 S2
/-- name = value -/
def sSet (i : Nat) (a : Dn) : DnS := fun en st => sBind (a en st) fun x st1 => .go (en.set i (some (frz x))) st1
theorem es_set {t : TE} {a : Dn} {i : Nat} (ha : Ev cf E t a) : Es cf E (tAsg t (gName i)) (sSet i a) := fun m σ en st D er S h => by
  refine ha m σ en st _ er S ?_
  unfold sSet at h
  cases e : a en st with
  | ex c p st1 => rw [e] at h; exact h
  | no => rw [e] at h; exact h
  | ok x st1 =>
    rw [e, sBind_ok] at h
    intro v m1 r1
    obtain ⟨r', k⟩ := frz_ok r1.wr
    exact h _ m1 r1.stp ((er.to r1.stp).set i r' k) r1.sr
/-- several names at once -/
theorem WRs.two {vs : List V} {x y : W} (h : WRs cf m vs [x, y]) : ∃ v u, vs = [v, u] ∧ WR cf.K cf.ct m v x ∧ WR cf.K cf.ct m u y := by
  cases h with
  | cons a b => cases b with
    | cons b c => cases c; exact ⟨_, _, rfl, a, b⟩
theorem WRs.three {vs : List V} {x y z : W} (h : WRs cf m vs [x, y, z]) : ∃ v u w, vs = [v, u, w] ∧ WR cf.K cf.ct m v x ∧ WR cf.K cf.ct m u y ∧ WR cf.K cf.ct m w z := by
  cases h with
  | cons a b => cases b with
    | cons b c => cases c with
      | cons c d => cases d; exact ⟨_, _, _, rfl, a, b, c⟩
theorem WRs.one {vs : List V} {x : W} (h : WRs cf m vs [x]) : ∃ v, vs = [v] ∧ WR cf.K cf.ct m v x := by
  cases h with
  | cons a b => cases b; exact ⟨_, rfl, a⟩
def sPar (i j : Nat) (a : DnA) : DnS := fun en st => sBind (a en st) fun xs st1 => match xs with
  | [x, y] => .go ((en.set i (some (frz x))).set j (some (frz y))) st1
  | _ => .no
def sPar3 (i j l : Nat) (a : DnA) : DnS := fun en st => sBind (a en st) fun xs st1 => match xs with
  | [x, y, z] => .go (((en.set i (some (frz x))).set j (some (frz y))).set l (some (frz z))) st1
  | _ => .no
/-- o[i] = v -/
def OpS (cf : Cf) (E : XK) (r : TSet) (f : W → W → W → Sto → Option Sto) : Prop := ∀ m st v1 v2 v3 w1 w2 w3 (Q : Hp → Prop), SR cf.K cf.ct m st → WR cf.K cf.ct m v1 w1 → WR cf.K cf.ct m v2 w2 → WR cf.K cf.ct m v3 w3 →
  ∀ st', f w1 w2 w3 st = some st' → (∀ m', Stp m m' → SR cf.K cf.ct m' st' → Q m'.hp) → r v1 v2 v3 m.hp Q
def gSb (f : W → W → W → Sto → Option Sto) (a b : Dn) : DnG := fun w en st => (a en st).bind fun x st1 => (b en st1).bind fun y st2 => match f x y w st2 with
  | some st3 => .ok en st3
  | none => .no
theorem eg_sub {vs : List Nat} {r : TSet} {f : W → W → W → Sto → Option Sto} {ta tb : TE} {a b : Dn} (o : OpS cf E r f) (ha : Ev cf E ta a) (hb : Ev cf E tb b) : Eg cf E vs (gSub ta tb r) (gSb f a b) := fun m σ en st v w Q er S r0 h => by
  refine ha m σ en st _ er S ?_
  unfold gSb at h
  cases e : a en st with
  | ex c p st1 => rw [e] at h; exact h
  | no => rw [e] at h; exact h
  | ok x st1 =>
    rw [e, Rt.bind_ok] at h
    intro v1 m1 r1
    refine hb m1 σ en st1 _ (er.to r1.stp) r1.sr ?_
    cases e2 : b en st1 with
    | ex c p st2 => rw [e2] at h; exact Xe.pre r1.stp h
    | no => rw [e2] at h; exact h
    | ok y st2 =>
      rw [e2, Rt.bind_ok] at h
      intro v2 m2 r2
      have s2 := r1.stp.trans r2.stp
      cases e3 : f x y w st2 with
      | none => rw [e3] at h; exact h.elim
      | some st3 =>
        rw [e3] at h
        exact o m2 st2 v1 v2 v x y w _ r2.sr (r1.wr.to r2.stp) r2.wr (r0.to s2) st3 e3 fun m3 s3 S3 => h σ m3 (s2.trans s3) (er.to (s2.trans s3)) S3 (fun _ _ => rfl) rfl
/-! ### what is walked -/
/-- a step in which what is shunned may change -/
structure Stb (m m' : Mo) : Prop where
  bl : ∀ a, m.be a → m'.be a
  be : ∀ a, m'.be a → m.be a ∨ (a ∉ m.rh ∧ m.hp a = none)
  ext : ∃ ex, m'.rh = m.rh ++ ex ∧ ∀ b ∈ ex, b ∉ m.rh ∧ m.hp b = none
  keep : ∀ b o, b ∉ m.rh → ¬ m.be b → m.hp b = some o → m'.hp b = some o
section
variable {m' : Mo}
theorem Stp.stb (s : Stp m m') : Stb m m' := ⟨s.bl, s.be, s.ext, fun b o n _ e => s.keep b o n e⟩
theorem Stb.get (s : Stb m m') {n : Nat} {a : Addr} (h : m.rh[n]? = some a) : m'.rh[n]? = some a := by
  obtain ⟨ex, e, _⟩ := s.ext
  rw [e, List.getElem?_append_left (List.getElem?_eq_some_iff.mp h).1]; exact h
theorem Stb.rdy (s : Stb m m') : ∀ a u, Rdy m a u → ¬ m'.be a ∧ a ∉ m'.rh ∧ ∀ o, m.hp a = some o → m'.hp a = some o := fun a u h => by
  refine ⟨fun z => (s.be a z).elim h.2.1 fun y => h.live y.2, fun z => ?_, fun o e => s.keep a o h.1 h.2.1 e⟩
  obtain ⟨ex, e, f⟩ := s.ext
  rw [e] at z
  exact (List.mem_append.mp z).elim h.1 fun y => h.live (f a y).2
theorem Fz.tob (s : Stb m m') {K : PySem.W.Frag} {ct : CTab} {v : V} {d : D} (h : Fz K ct m v d) : Fz K ct m' v d := Fz.mv s.rdy h
theorem FzA.tob (s : Stb m m') {K : PySem.W.Frag} {ct : CTab} {v : List V} {d : List D} (h : FzA K ct m v d) : FzA K ct m' v d := FzA.mv s.rdy h
theorem Rdy.tob (s : Stb m m') {a : Addr} {u : HO} (h : Rdy m a u) : Rdy m' a u := ⟨(s.rdy a u h).2.1, (s.rdy a u h).1, h.2.2.imp ((s.rdy a u h).2.2 _) fun ⟨o, e⟩ => ⟨o, (s.rdy a u h).2.2 _ e⟩⟩
theorem FT.tob (s : Stb m m') {K : PySem.W.Frag} {a : Addr} {xs : List V} (h : FT K m a xs) : FT K m' a xs := h.imp (Rdy.tob s) id
theorem FL.tob (s : Stb m m') {K : PySem.W.Frag} {a : Addr} {xs : List V} (h : FL K m a xs) : FL K m' a xs := h.imp (Rdy.tob s) id
theorem ER.tob (s : Stb m m') {K : PySem.W.Frag} {ct : CTab} {σ : L2.St} {en : En} (h : ER K ct m σ en) : ER K ct m' σ en :=
  ⟨h.len, fun i w e => by
    obtain ⟨v, e1, r, k⟩ := h.at_ i w e
    refine ⟨v, e1, ?_, k⟩
    cases w with
    | fz d => exact Fz.tob s r
    | own l => exact k.elim
    | loc n =>
      obtain ⟨a, ea, h⟩ := r
      exact ⟨a, ea, s.get h⟩
    | nst ks =>
      obtain ⟨q, xs, e, n, nb, hq, kk⟩ := r
      refine ⟨q, xs, e, fun z => ?_, fun z => (s.be q z).elim nb fun y => some_ne hq y.2, s.keep _ _ n nb hq, Paired.mapP kk fun _ _ ⟨a, e, z⟩ => ⟨a, e, s.get z⟩⟩
      obtain ⟨ex, e1, f⟩ := s.ext
      rw [e1] at z
      exact (List.mem_append.mp z).elim n fun y => some_ne hq (f q y).2⟩
end
/-- the items; the list that must stay as it is meanwhile -/
structure Src where
  l : List D
  g : Option Nat
def Src.ok (s : Src) (st : Sto) : Prop := match s.g with
  | none => True
  | some n => st[n]? = some (.lst s.l)
/-- from the moment m on the iterator J yields the items -/
def ItS (cf : Cf) (m : Mo) (J : It) (s : Src) : Prop := ∀ m' st (i : Nat), Stb m m' → SR cf.K cf.ct m' st → s.ok st →
  (s.l.length ≤ i → i ≤ s.l.length → J.stop i m'.hp) ∧
  (∀ d, s.l[i]? = some d → J.go i m'.hp ∧ ∀ x H', J.yld i m'.hp x H' → Same m'.hp H' ∧ Fz cf.K cf.ct (m'.to H') x d)
def Pi (cf : Cf) (E : XK) (m : Mo) (R : It → Hp → Prop) : Rt Src → Prop
  | .ok s st1 => ∀ J m1, Stp m m1 → SR cf.K cf.ct m1 st1 → ItS cf m1 J s → R J m1.hp
  | .ex c p st1 => Xe cf E m c p st1
  | .no => False
def Ei (cf : Cf) (E : XK) (t : TI) (d : En → Sto → Rt Src) : Prop := ∀ m σ en st (R : It → Hp → Prop), ER cf.K cf.ct m σ en → SR cf.K cf.ct m st → Pi cf E m R (d en st) → t σ m.hp R
open Classical in
/-- the turns of a for -/
noncomputable def forL (s : Src) (g : DnG) (b : DnS) : List D → En → Sto → Sx
  | [], en, st => if s.ok st then .go en st else .no
  | d :: ds, en, st => if s.ok st then match g (.fz d) en st with
    | .ok en1 st1 => match b en1 st1 with
      | .go en2 st2 => forL s g b ds en2 st2
      | .ct en2 st2 => forL s g b ds en2 st2
      | .bk en2 st2 => .go en2 st2
      | r => r
    | .ex c p st1 => .ex c p st1
    | .no => .no
    else .no
noncomputable def sFor (i : En → Sto → Rt Src) (g : DnG) (b : DnS) : DnS := fun en st => sBind (i en st) fun s st1 => forL s g b s.l en st1
theorem es_for {vs : List Nat} {wi : TI} {g : TG} {tb : TS} {i : En → Sto → Rt Src} {d : DnG} {b : DnS} (hi : Ei cf E wi i) (hg : Eg cf E vs g d) (hb : Es cf E tb b) : Es cf E (tFor wi g tb) (sFor i d b) := fun m σ en st D er S h => by
  refine hi m σ en st _ er S ?_
  unfold sFor at h
  cases e : i en st with
  | ex c p st1 => rw [e] at h; exact h
  | no => rw [e] at h; exact h
  | ok s st1 =>
    rw [e, sBind_ok] at h
    intro J m1 s1 S1 it
    refine ⟨fun k n σ' H => ∃ m' en' st', n = s.l.length - k ∧ k ≤ s.l.length ∧ H = m'.hp ∧ Stp m1 m' ∧ ER cf.K cf.ct m' σ' en' ∧ SR cf.K cf.ct m' st' ∧ Px cf E m' D (forL s d b (s.l.drop k) en' st'), ⟨s.l.length, m1, en, st1, by simp, Nat.zero_le _, rfl, Stp.refl, er.to s1, S1, Px.pre s1 h⟩, ?_⟩
    rintro k n σ' _ ⟨m', en', st', rfl, hk, rfl, sm, er', S', hp⟩
    by_cases c : k < s.l.length
    · have hd : s.l.drop k = s.l[k] :: s.l.drop (k + 1) := List.drop_eq_getElem_cons c
      rw [hd] at hp
      unfold forL at hp
      split at hp
      case isFalse => exact hp.elim
      case isTrue ok =>
        obtain ⟨_, go⟩ := it m' st' k sm.stb S' ok
        obtain ⟨g1, g2⟩ := go s.l[k] (List.getElem?_eq_getElem c)
        refine .inr ⟨g1, fun σ2 H2 => ∃ m2 en2 st2, H2 = m2.hp ∧ Stp m1 m2 ∧ ER cf.K cf.ct m2 σ2 en2 ∧ SR cf.K cf.ct m2 st2 ∧ Px cf E m2 D (forL s d b (s.l.drop (k + 1)) en2 st2),
          fun σ2 H2 ⟨m2, en2, st2, q1, q2, q3, q4, q5⟩ => ⟨s.l.length - (k + 1), by omega, m2, en2, st2, rfl, c, q1, q2, q3, q4, q5⟩, fun x H' y => ?_⟩
        obtain ⟨sH, fx⟩ := g2 x H' y
        have sx : Stp m' (m'.to H') := .same sH
        refine hg (m'.to H') σ' en' st' x (.fz s.l[k]) _ (er'.to sx) (S'.same sH) fx ?_
        cases e2 : d (.fz s.l[k]) en' st' with
        | ex c p st2 => rw [e2] at hp; exact Xe.pre sx hp
        | no => rw [e2] at hp; exact hp.elim
        | ok en1 st2 =>
          rw [e2] at hp
          dsimp only at hp
          intro σ2 m2 s2 er2 S2 _ _
          refine hb m2 σ2 en1 st2 _ er2 S2 ?_
          have sx2 := sx.trans s2
          cases e3 : b en1 st2 with
          | go en3 st3 =>
            rw [e3] at hp
            exact fun σ3 m3 s3 er3 S3 => ⟨m3, en3, st3, rfl, (sm.trans sx2).trans s3, er3, S3, Px.pre (sx2.trans s3) hp⟩
          | ct en3 st3 =>
            rw [e3] at hp
            exact fun σ3 m3 s3 er3 S3 => ⟨m3, en3, st3, rfl, (sm.trans sx2).trans s3, er3, S3, Px.pre (sx2.trans s3) hp⟩
          | bk en3 st3 =>
            rw [e3] at hp
            exact fun σ3 m3 s3 er3 S3 => hp σ3 m3 (sx2.trans s3) er3 S3
          | rt w st3 =>
            rw [e3] at hp
            exact fun v m3 r3 => hp v m3 (r3.pre sx2)
          | ex c p st3 =>
            rw [e3] at hp
            exact Xe.pre sx2 hp
          | no => rw [e3] at hp; exact hp.elim
    · have ek : k = s.l.length := by omega
      subst ek
      rw [List.drop_length] at hp
      unfold forL at hp
      split at hp
      case isFalse => exact hp.elim
      case isTrue ok => exact .inl ⟨(it m' st' _ sm.stb S' ok).1 (Nat.le_refl _) (Nat.le_refl _), hp σ' m' Stp.refl er' S'⟩
/-! ### while: at most so many turns -/
def whlL (c : DnT) (b : DnS) : Nat → En → Sto → Sx
  | 0, _, _ => .no
  | n + 1, en, st => sBind (c en st) fun x st1 => if x = true then match b en st1 with
      | .go en2 st2 => whlL c b n en2 st2
      | .ct en2 st2 => whlL c b n en2 st2
      | .bk en2 st2 => .go en2 st2
      | r => r
    else .go en st1
def sWhile (n : En → Sto → Nat) (c : DnT) (b : DnS) : DnS := fun en st => whlL c b (n en st) en st
end
end QD
/-! QF: comprehensions, a def's promise, calls. -/
namespace QD
open PySem PySem.Spec PyProof.Rows L2 MG
theorem wipe_get {σ : L2.St} {i : Nat} : ∀ {vs : List Nat}, (wipe σ vs)[i]? = if i ∈ vs ∧ i < σ.length then some none else σ[i]?
  | [] => by simp [wipe]
  | v :: vs => by
    have ih := wipe_get (σ := σ) (i := i) (vs := vs)
    unfold wipe
    by_cases c : v = i
    · subst c
      by_cases l : v < σ.length
      · rw [List.getElem?_set_self (by rw [wipe_length]; exact l), if_pos ⟨List.mem_cons_self .., l⟩]
      · rw [if_neg fun z => l z.2, List.getElem?_eq_none (by rw [List.length_set, wipe_length]; omega), List.getElem?_eq_none (by omega)]
    · rw [List.getElem?_set_ne c, ih]
      have : (i ∈ v :: vs ∧ i < σ.length) ↔ (i ∈ vs ∧ i < σ.length) := by simp [Ne.symm c]
      simp only [this]
theorem wipe_eq {σ σ2 : L2.St} {vs : List Nat} (hl : σ2.length = σ.length) (h : ∀ i, i ∉ vs → σ2[i]? = (wipe σ vs)[i]?) : wipe σ2 vs = wipe σ vs := by
  apply List.ext_getElem?
  intro i
  rw [wipe_get, wipe_get, hl]
  by_cases c : i ∈ vs ∧ i < σ.length
  · rw [if_pos c, if_pos c]
  · rw [if_neg c, if_neg c]
    by_cases d : i ∈ vs
    · have l : ¬ i < σ.length := fun z => c ⟨d, z⟩
      rw [List.getElem?_eq_none (by omega), List.getElem?_eq_none (by omega)]
    · rw [h i d, wipe_get, if_neg fun z => d z.1]
def wipeE (en : En) : List Nat → En
  | [] => en
  | v :: vs => (wipeE en vs).set v none
section
variable {cf : Cf} {E : XK} {m m1 : Mo} {st : Sto} {q : Addr}
theorem ER.unset {σ : L2.St} {en : En} (er : ER cf.K cf.ct m σ en) (i : Nat) : ER cf.K cf.ct m (σ.set i none) (en.set i none) := by
  refine ⟨by rw [List.length_set, List.length_set]; exact er.len, fun j u h => ?_⟩
  by_cases c : i = j
  · subst c
    by_cases l : i < en.length
    · rw [List.getElem?_set_self l] at h
      cases h
    · rw [List.getElem?_eq_none (by rw [List.length_set]; omega)] at h
      cases h
  · rw [List.getElem?_set_ne c] at h
    rw [List.getElem?_set_ne c]
    exact er.at_ j u h
theorem ER.wipe {σ : L2.St} {en : En} (er : ER cf.K cf.ct m σ en) : ∀ vs : List Nat, ER cf.K cf.ct m (wipe σ vs) (wipeE en vs)
  | [] => er
  | v :: vs => (ER.wipe er vs).unset v
/-- the state behind an exception that must not be -/
def nox {α : Type} : Rt α → Rt α
  | .ok a st => .ok a st
  | _ => .no
@[simp] theorem nox_ok {α : Type} {a : α} {st : Sto} : nox (.ok a st) = .ok a st := rfl
abbrev noE : XK := fun _ _ _ => False
open Classical in
noncomputable def lcL (s : Src) (g : DnG) (t : DnT) (e : Dn) (en0 : En) : List D → List D → Sto → Rt W
  | [], acc, st => if s.ok st then .ok (.own acc) st else .no
  | d :: ds, acc, st => if s.ok st then (nox (g (.fz d) en0 st)).bind fun en2 st2 => (nox (t en2 st2)).bind fun b st3 =>
      if b = true then (nox (e en2 st3)).bind fun w st4 => match datW w with
        | some y => if acc.length < sizeLine then lcL s g t e en0 ds (acc ++ [y]) st4 else .no
        | none => .no
      else lcL s g t e en0 ds acc st3
    else .no
noncomputable def dLc (i : En → Sto → Rt Src) (g : DnG) (t : DnT) (e : Dn) (vs : List Nat) : Dn := fun en st => (i en st).bind fun s st1 => lcL s g t e (wipeE en vs) s.l [] st1
theorem Pe_nox {α : Type} {r : Rt α} {a : α} {st : Sto} (h : nox r = .ok a st) : r = .ok a st := by
  cases r with
  | ok b s => exact h
  | ex c p s => cases h
  | no => cases h
theorem ER.shNew {σ : L2.St} {en : En} (er : ER cf.K cf.ct m σ en) (n : m.hp q = none) : ER cf.K cf.ct (m.sh q) σ en :=
  ⟨er.len, fun i w h => by
    obtain ⟨v, h1, r, k⟩ := er.at_ i w h
    refine ⟨v, h1, ?_, k⟩
    cases w with
    | fz d => exact Fz.avo (shun_new n) rfl r
    | own l => exact k.elim
    | nst ks =>
      obtain ⟨q', xs, e, n', nb, hq, kk⟩ := r
      exact ⟨q', xs, e, n', fun z => z.elim nb fun y => some_ne hq (by rw [y]; exact n), hq, kk⟩
    | loc n => exact r⟩
theorem ER.chq {σ : L2.St} {en : En} {o : HO} (er : ER cf.K cf.ct m σ en) (hb : m.be q) : ER cf.K cf.ct (m.to (upd m.hp q o)) σ en :=
  ⟨er.len, fun i w h => by
    obtain ⟨v, h1, r, k⟩ := er.at_ i w h
    refine ⟨v, h1, ?_, k⟩
    cases w with
    | fz d => exact Fz.mv (mv_q hb) r
    | own l => exact k.elim
    | nst ks =>
      obtain ⟨q', xs, e, n', nb, hq, kk⟩ := r
      exact ⟨q', xs, e, n', nb, (upd_ne fun z => nb (by rw [z]; exact hb)).trans hq, kk⟩
    | loc n => exact r⟩
/-- a step that the shunned new thing q at m1 makes no matter of -/
theorem Stp.chq {m' : Mo} {o : HO} (s : Stp m1 m') (h : m1.hp q = none) (n : q ∉ m1.rh) : Stp m1 (m'.to (upd m'.hp q o)) :=
  ⟨s.bl, s.be, s.ext, fun b u nb e => by
    show upd m'.hp q o b = some u
    rw [upd_ne (fun z => by rw [z, h] at e; cases e)]; exact s.keep b u nb e⟩
theorem ev_lc {wi : TI} {g : TG} {tt : TT} {te : TE} {vs : List Nat} {i : En → Sto → Rt Src} {d : DnG} {t : DnT} {e : Dn} (hi : Ei cf E wi i) (hg : Eg cf noE vs g d) (ht : Et cf noE tt t) (he : Ev cf noE te e) : Ev cf E (tLc wi g tt te vs) (dLc i d t e vs) := fun m σ en st Q er S h => by
  refine hi m σ en st _ er S ?_
  unfold dLc at h
  cases e0 : i en st with
  | ex c p st1 => rw [e0] at h; exact h
  | no => rw [e0] at h; exact h
  | ok s st1 =>
    rw [e0, Rt.bind_ok] at h
    intro J m1 s1 S1 it q hq
    have nq : q ∉ m1.rh := S1.out hq
    have nb : ¬ m1.be q := fun z => S1.bl q z hq
    -- the moment behind the new list, q shunned
    have n0 := (Rs.new (Stp.refl (m := m1)) S1 hq (.nil : FzA cf.K cf.ct m1 [] []))
    obtain ⟨q', eq', _, S2⟩ := n0.nw [] rfl
    cases eq'
    have sM : Stp m1 ((m1.to (upd m1.hp q (.lst []))).sh q) := ⟨fun a h => .inl h, fun a h => h.imp id fun z => by subst z; exact ⟨nq, hq⟩, ⟨[], (List.append_nil _).symm, fun _ h => nomatch h⟩, (Stp.one hq).keep⟩
    refine ⟨fun k n H => ∃ (M : Mo) (xs : List V) (acc : List D) (st' : Sto), n = s.l.length - k ∧ k ≤ s.l.length ∧ H = M.hp ∧ Stp m1 M ∧ M.be q ∧ q ∉ M.rh ∧ M.hp q = some (.lst xs) ∧ FzA cf.K cf.ct M xs acc ∧ SR cf.K cf.ct M st' ∧
      Pe cf E m Q (lcL s d t e (wipeE en vs) (s.l.drop k) acc st'), ⟨s.l.length, _, [], [], st1, by simp, Nat.zero_le _, rfl, sM, .inr rfl, nq, upd_same, .nil, S2, h⟩, ?_⟩
    rintro k n _ ⟨M, xs, acc, st', rfl, hk, rfl, sm, bq, nqM, hqM, fa, S', hp⟩
    have er' : ER cf.K cf.ct M (wipe σ vs) (wipeE en vs) := ((er.to s1).to sm).wipe vs
    by_cases c : k < s.l.length
    · have hd : s.l.drop k = s.l[k] :: s.l.drop (k + 1) := List.drop_eq_getElem_cons c
      rw [hd] at hp
      unfold lcL at hp
      split at hp
      case isFalse => exact hp.elim
      case isTrue ok =>
        obtain ⟨_, go⟩ := it M st' k sm.stb S' ok
        obtain ⟨g1, g2⟩ := go s.l[k] (List.getElem?_eq_getElem c)
        refine .inr ⟨g1, fun H2 => ∃ (M2 : Mo) (xs2 : List V) (acc2 : List D) (st2 : Sto), H2 = M2.hp ∧ Stp m1 M2 ∧ M2.be q ∧ q ∉ M2.rh ∧ M2.hp q = some (.lst xs2) ∧ FzA cf.K cf.ct M2 xs2 acc2 ∧ SR cf.K cf.ct M2 st2 ∧
            Pe cf E m Q (lcL s d t e (wipeE en vs) (s.l.drop (k + 1)) acc2 st2),
          fun H2 ⟨M2, xs2, acc2, st2, q1, q2, q3, q4, q5, q6, q7, q8⟩ => ⟨s.l.length - (k + 1), by omega, M2, xs2, acc2, st2, rfl, c, q1, q2, q3, q4, q5, q6, q7, q8⟩, fun x H' y => ?_⟩
        obtain ⟨sH, fx⟩ := g2 x H' y
        have sx : Stp M (M.to H') := .same sH
        refine hg (M.to H') (wipe σ vs) (wipeE en vs) st' x (.fz s.l[k]) _ (er'.to sx) (S'.same sH) fx ?_
        cases e2 : nox (d (.fz s.l[k]) (wipeE en vs) st') with
        | ex c p st2 => rw [e2] at hp; cases hr : d (.fz s.l[k]) (wipeE en vs) st' <;> rw [hr] at e2 <;> cases e2
        | no => rw [e2] at hp; exact hp.elim
        | ok en2 st2 =>
          rw [e2, Rt.bind_ok] at hp
          rw [Pe_nox e2]
          intro σ2 M2 s2 er2 S2' k2 l2
          refine ⟨wipe_eq (by rw [l2, wipe_length]) k2, ?_⟩
          refine ht M2 σ2 en2 st2 _ er2 S2' ?_
          have sx2 := sx.trans s2
          cases e3 : nox (t en2 st2) with
          | ex c p st3 => rw [e3] at hp; cases hr : t en2 st2 <;> rw [hr] at e3 <;> cases e3
          | no => rw [e3] at hp; exact hp.elim
          | ok b st3 =>
            rw [e3, Rt.bind_ok] at hp
            rw [Pe_nox e3]
            intro M3 s3 S3
            have sx3 := sx2.trans s3
            have live : M.hp q ≠ none := some_ne hqM
            cases b with
            | false =>
              rw [if_neg Bool.false_ne_true] at hp ⊢
              exact ⟨M3, xs, acc, st3, rfl, sm.trans sx3, sx3.bl q bq, sx3.out nqM live, sx3.keep q _ nqM hqM, fa.to sx3, S3, hp⟩
            | true =>
              rw [if_pos rfl] at hp ⊢
              refine he M3 σ2 en2 st3 _ (er2.to s3) S3 ?_
              cases e4 : nox (e en2 st3) with
              | ex c p st4 => rw [e4] at hp; cases hr : e en2 st3 <;> rw [hr] at e4 <;> cases e4
              | no => rw [e4] at hp; exact hp.elim
              | ok w st4 =>
                rw [e4, Rt.bind_ok] at hp
                rw [Pe_nox e4]
                intro v M4 r4
                have sx4 := sx3.trans r4.stp
                cases e5 : datW w with
                | none => rw [e5] at hp; exact hp.elim
                | some y =>
                  rw [e5] at hp
                  dsimp only at hp
                  split at hp
                  case isFalse => exact hp.elim
                  case isTrue hl =>
                    have hq4 : M4.hp q = some (.lst xs) := sx4.keep q _ nqM hqM
                    have bq4 : M4.be q := sx4.bl q bq
                    have nq4 : q ∉ M4.rh := sx4.out nqM live
                    have fa4 : FzA cf.K cf.ct M4 (xs ++ [v]) (acc ++ [y]) := (fa.to sx4).append (.cons (dat_ok r4.wr e5) .nil)
                    refine ⟨xs, hq4, by rw [fa.length]; exact hl, M4.to (upd M4.hp q (.lst (xs ++ [v]))), xs ++ [v], acc ++ [y], st4, rfl, (sm.trans sx4).chq hq nq, bq4, nq4, upd_same, fa4.mv (mv_q bq4), r4.sr.chq bq4 nq4, hp⟩
    · have ek : k = s.l.length := by omega
      subst ek
      rw [List.drop_length] at hp
      unfold lcL at hp
      split at hp
      case isFalse => exact hp.elim
      case isTrue ok =>
        refine .inl ⟨(it M st' _ sm.stb S' ok).1 (Nat.le_refl _) (Nat.le_refl _), ?_⟩
        have hA : ∀ a u, Rdy M a u → ¬ ((⟨m1.be, M.rh, M.hp⟩ : Mo).sh q).be a ∧ a ∉ ((⟨m1.be, M.rh, M.hp⟩ : Mo).sh q).rh := fun a u h => ⟨fun z => h.2.1 (Or.elim z (sm.bl a) fun e => by rw [e]; exact bq), h.1⟩
        refine hp (.ref q) ⟨m1.be, M.rh, M.hp⟩ ⟨s1.trans ⟨fun _ h => h, fun _ h => .inl h, sm.ext, sm.keep⟩, ?_, ⟨q, xs, rfl, nqM, nb, hqM, fa.avo hA rfl⟩, fun _ _ => ⟨q, rfl, s1.new nq hq, ?_⟩⟩
        · exact SR.avo (m' := ⟨m1.be, M.rh, M.hp⟩) S' rfl (fun a u h => ⟨fun z => h.2.1 (sm.bl a z), h.1⟩) rfl (fun a h => S'.bl a (sm.bl a h)) fun a h => S'.dj a (sm.bl a h)
        · exact SR.avo (m' := (⟨m1.be, M.rh, M.hp⟩ : Mo).sh q) S' rfl hA rfl (fun a h => S'.bl a (Or.elim h (sm.bl a) fun e => by rw [e]; exact bq)) fun a h => S'.dj a (Or.elim h (sm.bl a) fun e => by rw [e]; exact bq)
end
end QD
/-! QG: a def's promise from its body, calls; what is walked. -/
namespace QD
open PySem PySem.Spec PyProof.Rows L2 MG
abbrev Fd := List W → Sto → Rt W
def exitD (n : Nat) : Sx → Rt W
  | .rt w st => match exitW n w st with
    | some (w', st') => .ok w' st'
    | none => .no
  | .go _ st => .ok (.fz .none) (st.take n)
  | .ex c p st => .ex c p (st.take n)
  | _ => .no
def fnD (n : Nat) (b : DnS) : Fd := fun ws st => exitD st.length (b (ws.map some ++ List.replicate (n - ws.length) none) st)
def spD (cf : Cf) (n : Nat) (F : Fd) : Sp := fun vs H Q E => ∃ m st ws, H = m.hp ∧ WRs cf m vs ws ∧ (∀ w ∈ ws, w.stays) ∧ SR cf.K cf.ct m st ∧ ws.length = n ∧ Pe cf E m Q (F ws st)
section
variable {cf : Cf} {E : XK} {m m1 : Mo} {st : Sto}
theorem WRs.length {vs : List V} {ws : List W} (h : WRs cf m vs ws) : vs.length = ws.length := by
  induction h with
  | nil => rfl
  | cons _ _ ih => exact congrArg Nat.succ ih
theorem WRs.append {vs us : List V} {ws xs : List W} (h : WRs cf m vs ws) (h' : WRs cf m us xs) : WRs cf m (vs ++ us) (ws ++ xs) := by
  induction h with
  | nil => exact h'
  | cons a _ ih => exact .cons a ih
theorem WRs.frz {vs : List V} {ws : List W} (h : WRs cf m vs ws) : WRs cf m vs (ws.map frz) ∧ ∀ w ∈ ws.map frz, w.stays := by
  induction h with
  | nil => exact ⟨.nil, fun _ h => nomatch h⟩
  | cons a _ ih =>
    obtain ⟨r, k⟩ := frz_ok a
    refine ⟨.cons r ih.1, fun w hw => ?_⟩
    rcases List.mem_cons.mp hw with e | hw
    · rw [e]; exact k
    · exact ih.2 w hw
theorem WRs.get {vs : List V} {ws : List W} (h : WRs cf m vs ws) : ∀ {i : Nat} {w : W}, ws[i]? = some w → ∃ v, vs[i]? = some v ∧ WR cf.K cf.ct m v w := by
  induction h with
  | nil => intro i w e; simp at e
  | cons a _ ih =>
    intro i w e
    cases i with
    | zero => simp at e; subst e; exact ⟨_, rfl, a⟩
    | succ i => simp at e; obtain ⟨v, e1, r⟩ := ih e; exact ⟨v, by simpa using e1, r⟩
theorem spD_len {n : Nat} {F : Fd} {vs : List V} {H : Hp} {Q : VK} {X : XK} (h : spD cf n F vs H Q X) : vs.length = n := by
  obtain ⟨m, st, ws, _, r, _, _, l, _⟩ := h
  rw [r.length]; exact l
/-- at the start of a body -/
theorem ER.start {vs : List V} {ws : List W} {N : List Str} {n : Nat} (r : WRs cf m vs ws) (k : ∀ w ∈ ws, w.stays) (hn : N.length = n) : ER cf.K cf.ct m (start N vs) (ws.map some ++ List.replicate (n - ws.length) none) := by
  subst hn
  refine ⟨by show (vs.map some ++ List.replicate (N.length - vs.length) none).length = _; simp [r.length], fun i w e => ?_⟩
  by_cases c : i < ws.length
  · rw [List.getElem?_append_left (by simpa using c), List.getElem?_map, List.getElem?_eq_getElem c] at e
    have e' : ws[i] = w := Option.some.inj (Option.some.inj e)
    obtain ⟨v, e1, r1⟩ := r.get (List.getElem?_eq_getElem c)
    refine ⟨v, ?_, by rw [← e']; exact r1, by rw [← e']; exact k _ (List.getElem_mem c)⟩
    show (vs.map some ++ List.replicate (N.length - vs.length) none)[i]? = _
    rw [List.getElem?_append_left (by rw [List.length_map, r.length]; exact c), List.getElem?_map, e1]
    rfl
  · rw [List.getElem?_append_right (by simpa using c), List.getElem?_replicate] at e
    split at e <;> cases e
theorem ExD.cut {m' : Mo} {p : Option (Str × D)} {dd : Option Addr} (s : Stp m m') (h : ExD cf m' p dd) : ExD cf (m'.cut m) p dd := by
  cases p with
  | none => exact h
  | some q =>
    obtain ⟨f, d⟩ := q
    obtain ⟨a, v, e, h1, h2, hx, fz⟩ := h
    exact ⟨a, v, e, fun z => h1 (s.sub z), h2, hx, Fz.avo (cut_out s) rfl fz⟩
/-- the end of a body -/
theorem Px_exit {Q : VK} {r : Sx} (S : SR cf.K cf.ct m st) (h : Pe cf E m Q (exitD st.length r)) : Px cf E m { nx := fun _ H' => Q .non H', rt := Q } r := by
  have hn := S.len.symm
  cases r with
  | go en st' =>
    intro σ m' s er S'
    exact h .non (m'.cut m) (.fz s.cut (S'.cut s hn) .non)
  | rt w st' =>
    intro v m' r
    replace h : Pe cf E m Q (match exitW st.length w st' with | some (w', st') => .ok w' st' | none => .no) := h
    cases e : exitW st.length w st' with
    | none => rw [e] at h; exact h.elim
    | some p =>
      obtain ⟨w', st''⟩ := p
      rw [e] at h
      exact h v (m'.cut m) (r.exit hn e)
  | ex c p st' =>
    intro m' dd s S' x
    exact h (m'.cut m) dd s.cut (S'.cut s hn) (x.cut s)
  | bk _ _ => exact h.elim
  | ct _ _ => exact h.elim
  | no => exact h.elim
theorem Pe_noxE {Q : VK} {r : Rt W} {E' : XK} (h : Pe cf E m Q (nox r)) : Pe cf E' m Q r := by
  cases r with
  | ok w st => exact h
  | ex c p st => exact h.elim
  | no => exact h.elim
end
section
variable {P : Program} {w : World} {K : PySem.W.Frag} {mg : Str → Option Value} {base : Heap}
/-- a def that lets nothing out -/
theorem fnQ {cf : Cf} {x qual : Str} {st : Stmt} {f : Addr} {fd : FuncData} {N ps : List Str} {k n : Nat} {b : DnS} (F : Fun K x qual st f fd) (S : FnScope N ps (defScope st)) (hp : ps.length = n)
    (hbody : ∀ (cdv : Value) (A : Around) (outer : List Env) (s : Shared) (H : Hp) (E : XK), A.guards = some [] → Room k (A.deeper (envOfC qual (defScope st) s.heap.objs.size f cdv)) →
      ∃ t, PSs (cxOf CX0 P w K mg base N qual (defScope st) f cdv A outer s H E).nox (defBody st) t ∧ Es cf noE t b) :
    FnG P w K mg base CX0 (k + 1) f fd ps (spD cf n fun ws st => nox (fnD N.length b ws st)) := by
  refine okG F S (fun vs H Q E h => (spD_len h).trans hp.symm) fun cdv A outer s H vs Q E hg hr h => ?_
  obtain ⟨t, ht, he⟩ := hbody cdv A outer s H E hg hr
  obtain ⟨m, st', ws, rfl, r, kp, S', hl, q⟩ := h
  exact ⟨t, ht, he m _ _ st' _ (ER.start r kp rfl) S' (Px_exit S' (Pe_noxE q))⟩
end
section
variable {cf : Cf} {E : XK} {m m1 : Mo} {st : Sto}
def dCall (n : Nat) (F : Fd) (ds : List W) (a : DnA) : Dn := fun en st => (a en st).bind fun ws st1 => if (ws.map frz ++ ds).length = n then F (ws.map frz ++ ds) st1 else .no
theorem ev_call {n : Nat} {F : Fd} {dvs : List V} {ds : List W} {t : TA} {a : DnA} (hd : ∀ m, WRs cf m dvs ds ∧ ∀ w ∈ ds, w.stays) (ha : Ea cf E t a) : Ev cf E (tCall (spD cf n F) dvs E t) (dCall n F ds a) := fun m σ en st Q er S h => by
  refine ha m σ en st _ er S ?_
  unfold dCall at h
  cases e : a en st with
  | ex c p st1 => rw [e] at h; exact h
  | no => rw [e] at h; exact h
  | ok x st1 =>
    rw [e, Rt.bind_ok] at h
    intro vs m1 s1 S1 r1
    split at h
    case isFalse => exact h.elim
    case isTrue c =>
      obtain ⟨r, k⟩ := r1.frz
      obtain ⟨r', k'⟩ := hd m1
      exact ⟨m1, st1, x.map frz ++ ds, rfl, r.append r', fun w hw => (List.mem_append.mp hw).elim (k w) (k' w), S1, c, Pe.pre s1 h⟩
theorem no_ds : ∀ m : Mo, WRs cf m [] [] ∧ ∀ w ∈ ([] : List W), w.stays := fun _ => ⟨.nil, fun _ h => nomatch h⟩
/-! ### what is walked -/
/-- a list -/
def srcW (st : Sto) : W → Option Src
  | .fz (.list l) => some ⟨l, none⟩
  | .own l => some ⟨l, none⟩
  | .loc n => match st[n]? with
    | some (.lst l) => some ⟨l, some n⟩
    | _ => none
  | _ => none
def iSeq (f : Sto → W → Option Src) (a : Dn) : En → Sto → Rt Src := fun en st => (a en st).bind fun x st1 => match f st1 x with
  | some s => .ok s st1
  | none => .no
theorem Same.rfl' {H : Hp} : Same H H := fun _ _ h => h
/-- the list at a, from m1 on: what stands there -/
theorem src_at {s : Src} {v : V} {w : W} (S : SR cf.K cf.ct m st) (r : WR cf.K cf.ct m v w) (e : srcW st w = some s) : ∃ a, v = .ref a ∧ ∀ m' st', Stb m m' → SR cf.K cf.ct m' st' → s.ok st' → ∃ xs, SqL cf.K m'.hp a xs ∧ FzA cf.K cf.ct m' xs s.l := by
  cases w with
  | fz d =>
    cases d with
    | list l =>
      cases e
      cases r with
      | lst h1 h2 h3 h4 => exact ⟨_, rfl, fun m' st' s1 _ _ => ⟨_, SqL.of (s1.keep _ _ h1 h2 h3), h4.tob s1⟩⟩
    | _ => cases e
  | nst _ => cases e
  | own l =>
    cases e
    obtain ⟨q, xs, rfl, n, nb, hq, f⟩ := r
    exact ⟨q, rfl, fun m' st' s1 _ _ => ⟨xs, SqL.of (s1.keep _ _ n nb hq), (f.avo shun_off rfl).tob s1⟩⟩
  | loc n =>
    obtain ⟨a, rfl, ha⟩ := r
    unfold srcW at e
    dsimp only at e
    obtain ⟨o, ho, hb⟩ := S.get ha
    rw [ho] at e
    cases o with
    | dk l => cases e
    | ins _ _ => cases e
    | tab _ _ => cases e
    | lst l =>
      cases e
      refine ⟨a, rfl, fun m' st' s1 S' ok => ?_⟩
      obtain ⟨xs, e1, f⟩ := (S'.ob n a _ (s1.get ha) (show st'[n]? = some (.lst l) from ok)).lst_of
      exact ⟨xs, SqL.of e1, f⟩
theorem its_list {s : Src} {a : Addr} (h : ∀ m' st', Stb m m' → SR cf.K cf.ct m' st' → s.ok st' → ∃ xs, SqL cf.K m'.hp a xs ∧ FzA cf.K cf.ct m' xs s.l) : ItS cf m (Itl cf.K a) s := fun m' st' i s1 S' ok => by
  obtain ⟨xs, hs, f⟩ := h m' st' s1 S' ok
  refine ⟨fun h1 _ => ⟨xs, hs, by rw [f.length]; exact h1⟩, fun d hd => ?_⟩
  obtain ⟨v, hv, fv⟩ := f.get hd
  refine ⟨⟨xs, v, hs, hv⟩, fun x H' y => ?_⟩
  obtain ⟨rfl, y⟩ := y
  have := y xs hs
  rw [hv] at this
  cases this
  exact ⟨Same.rfl', fv⟩
theorem ei_list {t : TE} {a : Dn} (ha : Ev cf E t a) : Ei cf E (iList cf.K t) (iSeq srcW a) := fun m σ en st R er S h => by
  refine ha m σ en st _ er S ?_
  unfold iSeq at h
  cases e : a en st with
  | ex c p st1 => rw [e] at h; exact h
  | no => rw [e] at h; exact h
  | ok x st1 =>
    rw [e, Rt.bind_ok] at h
    intro v m1 r1
    cases e2 : srcW st1 x with
    | none => rw [e2] at h; exact h.elim
    | some s =>
      rw [e2] at h
      obtain ⟨b, rfl, hb⟩ := src_at r1.sr r1.wr e2
      have ok1 : s.ok st1 := by
        cases x with
        | fz d => cases d <;> first | (cases e2; trivial) | cases e2
        | own l => cases e2; trivial
        | nst _ => cases e2
        | loc n =>
          unfold srcW at e2
          dsimp only at e2
          split at e2
          case h_1 l hl => cases e2; exact hl
          case h_2 => cases e2
      obtain ⟨xs, hs, _⟩ := hb m1 st1 Stp.refl.stb r1.sr ok1
      exact ⟨b, rfl, ⟨xs, hs⟩, h _ m1 r1.stp r1.sr (its_list hb)⟩
/-- a tuple -/
def srcT (_ : Sto) : W → Option Src
  | .fz (.tuple l) => some ⟨l, none⟩
  | _ => none
theorem srcT_at {s : Src} {v : V} {w : W} (r : WR cf.K cf.ct m v w) (e : srcT st w = some s) : ∃ a xs, v = .ref a ∧ FT cf.K m a xs ∧ FzA cf.K cf.ct m xs s.l ∧ s.g = none := by
  cases w with
  | fz d =>
    cases d with
    | tuple l =>
      cases e
      cases r with
      | tup h1 h2 => exact ⟨_, _, rfl, h1, h2, rfl⟩
    | _ => cases e
  | own l => cases e
  | nst _ => cases e
  | loc n => cases e
theorem ei_tup {t : TE} {a : Dn} (ha : Ev cf E t a) : Ei cf E (iTup cf.K t) (iSeq srcT a) := fun m σ en st R er S h => by
  refine ha m σ en st _ er S ?_
  unfold iSeq at h
  cases e : a en st with
  | ex c p st1 => rw [e] at h; exact h
  | no => rw [e] at h; exact h
  | ok x st1 =>
    rw [e, Rt.bind_ok] at h
    intro v m1 r1
    cases e2 : srcT st1 x with
    | none => rw [e2] at h; exact h.elim
    | some s =>
      rw [e2] at h
      obtain ⟨b, xs, rfl, ft, f, hg⟩ := srcT_at r1.wr e2
      refine ⟨b, rfl, ⟨xs, ft.sq⟩, h _ m1 r1.stp r1.sr fun m' st' i s1 S' ok => ?_⟩
      have hs := (ft.tob s1).sq
      have f' := f.tob s1
      refine ⟨fun h1 _ => ⟨xs, hs, by rw [f.length]; exact h1⟩, fun d hd => ?_⟩
      obtain ⟨v, hv, fv⟩ := f'.get hd
      refine ⟨⟨xs, v, hs, hv⟩, fun x H' y => ?_⟩
      obtain ⟨rfl, y⟩ := y
      have := y xs hs
      rw [hv] at this
      cases this
      exact ⟨Same.rfl', fv⟩
/-- a text -/
def srcS (_ : Sto) : W → Option Src
  | .fz (.str x) => some ⟨x.cps.toList.map fun c => .str ⟨#[c]⟩, none⟩
  | _ => none
theorem ei_str {t : TE} {a : Dn} (ha : Ev cf E t a) : Ei cf E (iStr t) (iSeq srcS a) := fun m σ en st R er S h => by
  refine ha m σ en st _ er S ?_
  unfold iSeq at h
  cases e : a en st with
  | ex c p st1 => rw [e] at h; exact h
  | no => rw [e] at h; exact h
  | ok x st1 =>
    rw [e, Rt.bind_ok] at h
    intro v m1 r1
    cases e2 : srcS st1 x with
    | none => rw [e2] at h; exact h.elim
    | some s =>
      rw [e2] at h
      cases x with
      | own l => cases e2
      | nst _ => cases e2
      | loc n => cases e2
      | fz d =>
        cases d with
        | str z =>
          cases e2
          cases r1.wr
          refine ⟨z, rfl, h _ m1 r1.stp r1.sr fun m' st' i s1 S' ok => ⟨fun h1 _ => ?_, fun d hd => ?_⟩⟩
          · show z.cps.size ≤ i
            simpa using h1
          · have hd' : (z.cps.toList.map fun c => PyData.str ⟨#[c]⟩)[i]? = some d := hd
            rw [List.getElem?_map] at hd'
            cases q : z.cps.toList[i]? with
            | none => rw [q] at hd'; cases hd'
            | some c =>
              rw [q] at hd'
              cases hd'
              have q' : z.cps[i]? = some c := by rw [← Array.getElem?_toList]; exact q
              refine ⟨(Array.getElem?_eq_some_iff.mp q').1, fun x H' y => ?_⟩
              obtain ⟨rfl, c', hc', rfl⟩ := y
              rw [q'] at hc'
              cases hc'
              exact ⟨Same.rfl', .str _⟩
        | _ => cases e2
/-- ranges -/
def rngS (lo : Int) (n : Nat) : Src := ⟨(List.range n).map fun i => .int (lo + (i : Nat)), none⟩
theorem its_rng {lo : Int} {n : Nat} : ItS cf m (Itr lo n) (rngS lo n) := fun m' st' i s1 S' ok => by
  refine ⟨fun h1 _ => by show n ≤ i; simpa [rngS] using h1, fun d hd => ?_⟩
  have hd' : ((List.range n).map fun i => PyData.int (lo + (i : Nat)))[i]? = some d := hd
  rw [List.getElem?_map] at hd'
  cases q : (List.range n)[i]? with
  | none => rw [q] at hd'; cases hd'
  | some j =>
    rw [q] at hd'
    cases hd'
    obtain ⟨l, e⟩ := List.getElem?_eq_some_iff.mp q
    rw [List.getElem_range] at e
    subst e
    refine ⟨by show i < n; simpa using l, fun x H' y => ?_⟩
    obtain ⟨rfl, rfl⟩ := y
    exact ⟨Same.rfl', .int _⟩
/-- so many intsW -/
def intsW : List W → Option (List Int)
  | [] => some []
  | .fz (.int i) :: ws => (intsW ws).map fun l => i :: l
  | _ => none
theorem intsW_ok : ∀ {vs : List V} {ws : List W} {l : List Int}, WRs cf m vs ws → intsW ws = some l → vs = l.map V.int
  | _, _, _, .nil, e => by cases e; rfl
  | _, w :: ws, l, .cons a b, e => by
    cases w with
    | own _ => cases e
    | nst _ => cases e
    | loc _ => cases e
    | fz d =>
      cases d with
      | int i =>
        unfold intsW at e
        cases q : intsW ws with
        | none => rw [q] at e; cases e
        | some l' =>
          rw [q] at e
          cases e
          cases a
          rw [intsW_ok b q]
          rfl
      | _ => cases e
noncomputable def r1S : List Int → Option Src
  | [j] => @ite _ (-(2 ^ 62) ≤ j ∧ j < 2 ^ 62) (Classical.propDecidable _) (some (rngS 0 j.toNat)) none
  | _ => none
noncomputable def r2S : List Int → Option Src
  | [i, j] => @ite _ (-(2 ^ 62) ≤ i ∧ i < 2 ^ 62 ∧ -(2 ^ 62) ≤ j ∧ j < 2 ^ 62) (Classical.propDecidable _) (some (rngS i (j - i).toNat)) none
  | _ => none
def iR (f : List Int → Option Src) (a : DnA) : En → Sto → Rt Src := fun en st => (a en st).bind fun ws st1 => match (intsW ws).bind f with
  | some s => .ok s st1
  | none => .no
theorem ei_r1 {t : TA} {a : DnA} (ha : Ea cf E t a) : Ei cf E (iRng1 t) (iR r1S a) := fun m σ en st R er S h => by
  refine ha m σ en st _ er S ?_
  unfold iR at h
  cases e : a en st with
  | ex c p st1 => rw [e] at h; exact h
  | no => rw [e] at h; exact h
  | ok x st1 =>
    rw [e, Rt.bind_ok] at h
    intro vs m1 s1 S1 r1
    cases q : intsW x with
    | none => rw [q] at h; exact h.elim
    | some l =>
      rw [q, Option.bind_some] at h
      obtain rfl := intsW_ok r1 q
      match l, h with
      | [j], h =>
        rw [show r1S [j] = @ite _ (-(2 ^ 62) ≤ j ∧ j < 2 ^ 62) (Classical.propDecidable _) (some (rngS 0 j.toNat)) none from rfl] at h
        by_cases c : -(2 ^ 62) ≤ j ∧ j < 2 ^ 62
        · rw [if_pos c] at h
          exact ⟨j, rfl, c.1, c.2, h _ m1 s1 S1 its_rng⟩
        · rw [if_neg c] at h
          exact h.elim
      | [], h => exact h.elim
      | _ :: _ :: _, h => exact h.elim
theorem ei_r2 {t : TA} {a : DnA} (ha : Ea cf E t a) : Ei cf E (iRng2 t) (iR r2S a) := fun m σ en st R er S h => by
  refine ha m σ en st _ er S ?_
  unfold iR at h
  cases e : a en st with
  | ex c p st1 => rw [e] at h; exact h
  | no => rw [e] at h; exact h
  | ok x st1 =>
    rw [e, Rt.bind_ok] at h
    intro vs m1 s1 S1 r1
    cases q : intsW x with
    | none => rw [q] at h; exact h.elim
    | some l =>
      rw [q, Option.bind_some] at h
      obtain rfl := intsW_ok r1 q
      match l, h with
      | [i, j], h =>
        rw [show r2S [i, j] = @ite _ (-(2 ^ 62) ≤ i ∧ i < 2 ^ 62 ∧ -(2 ^ 62) ≤ j ∧ j < 2 ^ 62) (Classical.propDecidable _) (some (rngS i (j - i).toNat)) none from rfl] at h
        by_cases c : -(2 ^ 62) ≤ i ∧ i < 2 ^ 62 ∧ -(2 ^ 62) ≤ j ∧ j < 2 ^ 62
        · rw [if_pos c] at h
          exact ⟨i, j, rfl, c, h _ m1 s1 S1 its_rng⟩
        · rw [if_neg c] at h
          exact h.elim
      | [], h => exact h.elim
      | [_], h => exact h.elim
      | _ :: _ :: _ :: _, h => exact h.elim
end
end QD
/-! QH: operations by values. -/
namespace QD
open PySem PySem.Spec PyProof.Rows L2 MG
section
variable {cf : Cf} {E : XK} {m m1 : Mo} {st : Sto} {v u : V} {w x : W}
theorem Pe.fz {Q : VK} {d : D} (S : SR cf.K cf.ct m st) (f : Fz cf.K cf.ct m v d) (h : Pe cf E m Q (.ok (.fz d) st)) : Q v m.hp := h v m (.fz Stp.refl S f)
/-! ### ints -/
def intW : W → Option Int
  | .fz (.int i) => some i
  | _ => none
theorem intW_ok {i : Int} (r : WR cf.K cf.ct m v w) (e : intW w = some i) : v = .int i := by
  cases w with
  | fz d => cases d with
    | int j => cases e; cases r; rfl
    | _ => cases e
  | _ => cases e
def f2I (C : Int → Int → Bool) (g : Int → Int → D) (a b : W) (st : Sto) : Rt W := match intW a, intW b with
  | some i, some j => if C i j = true then .ok (.fz (g i j)) st else .no
  | _, _ => .no
theorem op_2I {C : Int → Int → Bool} {CC : Int → Int → Prop} {g : Int → Int → D} {gv : Int → Int → V} (hC : ∀ i j, C i j = true → CC i j) (hg : ∀ m i j, Fz cf.K cf.ct m (gv i j) (g i j)) : Op2 cf E (rI CC gv) (f2I C g) := fun m st v1 v2 w1 w2 Q S r1 r2 h => by
  unfold f2I at h
  cases e1 : intW w1 with
  | none => rw [e1] at h; exact h.elim
  | some i =>
    cases e2 : intW w2 with
    | none => rw [e1, e2] at h; exact h.elim
    | some j =>
      rw [e1, e2] at h
      dsimp only at h
      split at h
      case isTrue c => exact ⟨i, j, intW_ok r1 e1, intW_ok r2 e2, hC i j c, h.fz S (hg m i j)⟩
      case isFalse => exact h.elim
theorem op_2I0 {g : Int → Int → D} {gv : Int → Int → V} (hg : ∀ m i j, Fz cf.K cf.ct m (gv i j) (g i j)) : Op2 cf E (rI0 gv) (f2I (fun _ _ => true) g) := fun m st v1 v2 w1 w2 Q S r1 r2 h => by
  unfold f2I at h
  cases e1 : intW w1 with
  | none => rw [e1] at h; exact h.elim
  | some i =>
    cases e2 : intW w2 with
    | none => rw [e1, e2] at h; exact h.elim
    | some j =>
      rw [e1, e2] at h
      exact ⟨i, j, intW_ok r1 e1, intW_ok r2 e2, h.fz S (hg m i j)⟩
abbrev fAdd := f2I (fun _ _ => true) fun i j => .int (i + j)
abbrev fSub := f2I (fun _ _ => true) fun i j => .int (i - j)
/-- * of two factors of together less than 130 million bits -/
def CMulB (i j : Int) : Prop := i.natAbs.log2 + j.natAbs.log2 < 130000000
theorem CMulB.ok {i j : Int} (h : CMulB i j) : IntMulOk i j := by
  have b : ∀ x : Int, Builtin.Int.intBits x ≤ x.natAbs.log2 + 1 := fun x => by
    unfold Builtin.Int.intBits
    split <;> omega
  have h1 := b i
  have h2 := b j
  have h3 : i.natAbs.log2 + j.natAbs.log2 < 130000000 := h
  have e : bitsLine = 134217728 := by decide
  unfold IntMulOk
  intro z
  rw [Bool.and_eq_true] at z
  have z2 := z.2
  unfold Builtin.Int.intTooBig at z2
  have z3 := of_decide_eq_true z2
  rw [e] at z3
  omega
theorem op_mulB {X : Cx} : OpR X (binaryOp .Mult) (rI CMulB fun i j => .int (i * j)) := opI fun _ _ _ _ _ _ _ hc q => mul_int q hc.ok
def cMul (i j : Int) : Bool := decide (i.natAbs.log2 + j.natAbs.log2 < 130000000)
def cDiv (_ j : Int) : Bool := decide (0 < j ∧ j.natAbs.log2 < 9000)
def cMod (_ j : Int) : Bool := decide (0 < j)
def cPow (i j : Int) : Bool := decide (0 ≤ j ∧ j ≤ 1000000 ∧ i.natAbs < 2 ^ 64)
abbrev fMul := f2I cMul fun i j => .int (i * j)
abbrev fDiv := f2I cDiv fun i j => .int (i / j)
abbrev fMod := f2I cMod fun i j => .int (i % j)
abbrev fPow := f2I cPow fun i j => .int (i ^ j.toNat)
abbrev fLt := f2I (fun _ _ => true) fun i j => .bool (decide (i < j))
abbrev fLe := f2I (fun _ _ => true) fun i j => .bool (decide (i ≤ j))
abbrev fGt := f2I (fun _ _ => true) fun i j => .bool (decide (j < i))
abbrev fGe := f2I (fun _ _ => true) fun i j => .bool (decide (j ≤ i))
theorem q_add : Op2 cf E (rI0 fun i j => .int (i + j)) fAdd := op_2I0 fun _ _ _ => .int _
theorem q_mul : Op2 cf E (rI CMulB fun i j => .int (i * j)) fMul := op_2I (fun i j h => by unfold CMulB; exact of_decide_eq_true h) fun _ _ _ => .int _
theorem q_div : Op2 cf E (rI CDivW fun i j => .int (i / j)) fDiv := op_2I (fun i j h => (of_decide_eq_true h : 0 < j ∧ j.natAbs.log2 < 9000)) fun _ _ _ => .int _
theorem q_mod : Op2 cf E (rI (fun _ j => 0 < j) fun i j => .int (i % j)) fMod := op_2I (fun i j h => of_decide_eq_true h) fun _ _ _ => .int _
theorem q_pow : Op2 cf E (rI CPow fun i j => .int (i ^ j.toNat)) fPow := op_2I (fun i j h => (of_decide_eq_true h : 0 ≤ j ∧ j ≤ 1000000 ∧ i.natAbs < 2 ^ 64)) fun _ _ _ => .int _
theorem q_lt : Op2 cf E (rI0 fun i j => .bl (decide (i < j))) fLt := op_2I0 fun _ _ _ => .bl _
theorem q_le : Op2 cf E (rI0 fun i j => .bl (decide (i ≤ j))) fLe := op_2I0 fun _ _ _ => .bl _
theorem q_gt : Op2 cf E (rI0 fun i j => .bl (decide (j < i))) fGt := op_2I0 fun _ _ _ => .bl _
theorem q_ge : Op2 cf E (rI0 fun i j => .bl (decide (j ≤ i))) fGe := op_2I0 fun _ _ _ => .bl _
def f1I (g : Int → D) (a : W) (st : Sto) : Rt W := match intW a with
  | some i => .ok (.fz (g i)) st
  | none => .no
theorem q_neg : Op1 cf E (rU fun i => .int (-i)) (f1I fun i => .int (-i)) := fun m st v w Q S r h => by
  unfold f1I at h
  cases e : intW w with
  | none => rw [e] at h; exact h.elim
  | some i => rw [e] at h; exact ⟨i, intW_ok r e, h.fz S (.int _)⟩
/-! ### == and != of plain values -/
def scaD : D → D → Bool
  | .none, .none => true | .none, .int _ => true | .int _, .none => true | .none, .bool _ => true | .bool _, .none => true | .none, .str _ => true | .str _, .none => true
  | .int _, .int _ => true | .bool _, .bool _ => true | .str _, .str _ => true
  | .int _, .str _ => true | .str _, .int _ => true | .bool _, .str _ => true | .str _, .bool _ => true
  | _, _ => false
def eqS : D → D → Bool
  | .none, .none => true
  | .int i, .int j => decide (i = j)
  | .bool i, .bool j => decide (i = j)
  | .str i, .str j => decide (i = j)
  | _, _ => false
theorem sca_ok {d e : D} (f : Fz cf.K cf.ct m v d) (g : Fz cf.K cf.ct m u e) (h : scaD d e = true) : scal v u = true ∧ decide (v = u) = eqS d e := by
  cases d <;> cases e <;> first | (cases h; done) | (cases f; cases g; refine ⟨rfl, ?_⟩; simp [eqS])
def fEq (neg : Bool) (a b : W) (st : Sto) : Rt W := match a, b with
  | .fz d, .fz e => if scaD d e = true then .ok (.fz (.bool (if neg = true then !eqS d e else eqS d e))) st else .no
  | _, _ => .no
theorem q_eq : Op2 cf E rEq (fEq false) := fun m st v1 v2 w1 w2 Q S r1 r2 h => by
  cases w1 with
  | fz d =>
    cases w2 with
    | fz e =>
      unfold fEq at h
      dsimp only at h
      split at h
      case isTrue c =>
        obtain ⟨h1, h2⟩ := sca_ok r1 r2 c
        refine ⟨h1, ?_⟩
        rw [h2]
        exact h.fz S (.bl _)
      case isFalse => exact h.elim
    | _ => exact h.elim
  | _ => exact h.elim
theorem q_ne : Op2 cf E rNe (fEq true) := fun m st v1 v2 w1 w2 Q S r1 r2 h => by
  cases w1 with
  | fz d =>
    cases w2 with
    | fz e =>
      unfold fEq at h
      dsimp only at h
      split at h
      case isTrue c =>
        obtain ⟨h1, h2⟩ := sca_ok r1 r2 c
        refine ⟨h1, ?_⟩
        rw [h2]
        exact h.fz S (.bl _)
      case isFalse => exact h.elim
    | _ => exact h.elim
  | _ => exact h.elim
/-! ### of data at any depth -/
mutual
/-- None, bools, ints, texts, lists, tuples of such -/
def plain : D → Bool
  | .none => true
  | .bool _ => true
  | .int _ => true
  | .str _ => true
  | .list l => plainA l
  | .tuple l => plainA l
  | .dict _ => false
def plainA : List D → Bool
  | [] => true
  | d :: ds => plain d && plainA ds
end
mutual
theorem Fz.dp : ∀ {v : V} {d : D}, Fz cf.K cf.ct m v d → plain d = true → Dp cf.K m.hp v d
  | _, _, .non, _ => .non
  | _, _, .bl b, _ => .bl b
  | _, _, .int b, _ => .int b
  | _, _, .str b, _ => .str b
  | _, _, .tup h1 h2, p => .tup h1.sq (FzA.dp h2 (by unfold plain at p; exact p))
  | _, _, .lst h1 h2 h3 h4, p => .lst (SqL.of h3) (FzA.dp h4 (by unfold plain at p; exact p))
  | _, _, .ro h1 h2, p => by unfold plain at p; cases p
  | _, _, .emp h, p => by unfold plain at p; cases p
  | _, _, .ty h, p => by unfold plain at p; cases p
  | _, _, .cls h, p => by unfold plain at p; cases p
  | _, _, .ob h1 h2 h3 h4 h5 h6, p => by unfold plain at p; cases p
theorem FzA.dp : ∀ {vs : List V} {ds : List D}, FzA cf.K cf.ct m vs ds → plainA ds = true → DpAll cf.K m.hp vs ds
  | _, _, .nil, _ => .nil
  | _, _, .cons h1 h2, p => by
    unfold plainA at p
    rw [Bool.and_eq_true] at p
    exact .cons (Fz.dp h1 p.1) (FzA.dp h2 p.2)
end
/-- a value's data, to be looked at -/
def lookW (st : Sto) : W → Option D
  | .fz d => some d
  | .own l => some (.list l)
  | .loc n => match st[n]? with
    | some (.lst l) => some (.list l)
    | _ => none
  | .nst _ => none
theorem look_dp {d : D} (S : SR cf.K cf.ct m st) (r : WR cf.K cf.ct m v w) (e : lookW st w = some d) (p : plain d = true) : Dp cf.K m.hp v d := by
  cases w with
  | fz d' => cases e; exact Fz.dp r p
  | nst _ => cases e
  | own l =>
    cases e
    obtain ⟨a, xs, rfl, hs, f⟩ := seq_ok S r (l := l) rfl
    exact .lst (SqL.of hs) (f.dp (by unfold plain at p; exact p))
  | loc n =>
    unfold lookW at e
    dsimp only at e
    split at e
    case h_1 l hl =>
      cases e
      obtain ⟨a, xs, rfl, hs, f⟩ := seq_ok S r (l := l) (by unfold seqW; dsimp only; rw [hl])
      exact .lst (SqL.of hs) (f.dp (by unfold plain at p; exact p))
    case h_2 => cases e
def fEqD (neg : Bool) (a b : W) (st : Sto) : Rt W := match lookW st a, lookW st b with
  | some d, some e => if (plain d && plain e && SeqAt.shaped d && SeqAt.shaped e) = true then .ok (.fz (.bool (if neg = true then !PyData.eqv d e else PyData.eqv d e))) st else .no
  | _, _ => .no
theorem q_eqD : Op2 cf E (rEqD cf.K) (fEqD false) := fun m st v1 v2 w1 w2 Q S r1 r2 h => by
  unfold fEqD at h
  cases e1 : lookW st w1 with
  | none => rw [e1] at h; exact h.elim
  | some d =>
    cases e2 : lookW st w2 with
    | none => rw [e1, e2] at h; exact h.elim
    | some e =>
      rw [e1, e2] at h
      dsimp only at h
      split at h
      case isTrue c =>
        simp only [Bool.and_eq_true] at c
        exact ⟨d, e, look_dp S r1 e1 c.1.1.1, look_dp S r2 e2 c.1.1.2, c.1.2, c.2, h.fz S (.bl _)⟩
      case isFalse => exact h.elim
theorem q_neD : Op2 cf E (rNeD cf.K) (fEqD true) := fun m st v1 v2 w1 w2 Q S r1 r2 h => by
  unfold fEqD at h
  cases e1 : lookW st w1 with
  | none => rw [e1] at h; exact h.elim
  | some d =>
    cases e2 : lookW st w2 with
    | none => rw [e1, e2] at h; exact h.elim
    | some e =>
      rw [e1, e2] at h
      dsimp only at h
      split at h
      case isTrue c =>
        simp only [Bool.and_eq_true] at c
        exact ⟨d, e, look_dp S r1 e1 c.1.1.1, look_dp S r2 e2 c.1.1.2, c.1.2, c.2, h.fz S (.bl _)⟩
      case isFalse => exact h.elim
/-! ### is None -/
def noneW : W → Bool
  | .fz .none => true
  | _ => false
theorem noneW_ok (r : WR cf.K cf.ct m v w) : decide (v = .non) = noneW w := by
  cases w with
  | fz d => cases r <;> simp [noneW]
  | own l => obtain ⟨q, xs, rfl, _⟩ := r; simp [noneW]
  | nst l => obtain ⟨q, xs, rfl, _⟩ := r; simp [noneW]
  | loc n => obtain ⟨a, rfl, _⟩ := r; simp [noneW]
def fIs (neg : Bool) (a b : W) (st : Sto) : Rt W := if noneW b = true then .ok (.fz (.bool (if neg = true then !noneW a else noneW a))) st else .no
theorem q_isN : Op2 cf E (fun x y H Q => y = .non ∧ Q (.bl (decide (x = .non))) H) (fIs false) := fun m st v1 v2 w1 w2 Q S r1 r2 h => by
  unfold fIs at h
  split at h
  case isTrue c =>
    refine ⟨of_decide_eq_true ((noneW_ok r2).trans c), ?_⟩
    rw [noneW_ok r1]
    exact h.fz S (.bl _)
  case isFalse => exact h.elim
theorem q_notN : Op2 cf E (fun x y H Q => y = .non ∧ Q (.bl (!decide (x = .non))) H) (fIs true) := fun m st v1 v2 w1 w2 Q S r1 r2 h => by
  unfold fIs at h
  split at h
  case isTrue c =>
    refine ⟨of_decide_eq_true ((noneW_ok r2).trans c), ?_⟩
    rw [noneW_ok r1]
    exact h.fz S (.bl _)
  case isFalse => exact h.elim
/-! ### texts -/
def strW : W → Option Str
  | .fz (.str x) => some x
  | _ => none
theorem strW_ok {z : Str} (r : WR cf.K cf.ct m v w) (e : strW w = some z) : v = .str z := by
  cases w with
  | fz d => cases d with
    | str j => cases e; cases r; rfl
    | _ => cases e
  | _ => cases e
def fAddS (a b : W) (st : Sto) : Rt W := match strW a, strW b with
  | some i, some j => if i.length + j.length ≤ sizeLine then .ok (.fz (.str (i ++ j))) st else .no
  | _, _ => .no
theorem q_addS : Op2 cf E (fun x y H Q => ∃ i j, x = .str i ∧ y = .str j ∧ i.length + j.length ≤ sizeLine ∧ Q (.str (i ++ j)) H) fAddS := fun m st v1 v2 w1 w2 Q S r1 r2 h => by
  unfold fAddS at h
  cases e1 : strW w1 with
  | none => rw [e1] at h; exact h.elim
  | some i =>
    cases e2 : strW w2 with
    | none => rw [e1, e2] at h; exact h.elim
    | some j =>
      rw [e1, e2] at h
      dsimp only at h
      split at h
      case isTrue c => exact ⟨i, j, strW_ok r1 e1, strW_ok r2 e2, c, h.fz S (.str _)⟩
      case isFalse => exact h.elim
/-! ### lists and tuples -/
def fCat (a b : W) (st : Sto) : Rt W := match seqW st a, seqW st b with
  | some i, some j => if i.length + j.length ≤ sizeLine then .ok (.own (i ++ j)) st else .no
  | _, _ => .no
theorem q_cat : Op2 cf E rCat fCat := fun m st v1 v2 w1 w2 Q S r1 r2 h => by
  unfold fCat at h
  cases e1 : seqW st w1 with
  | none => rw [e1] at h; exact h.elim
  | some i =>
    cases e2 : seqW st w2 with
    | none => rw [e1, e2] at h; exact h.elim
    | some j =>
      rw [e1, e2] at h
      dsimp only at h
      split at h
      case isTrue c =>
        obtain ⟨a, xs, rfl, ha, fa⟩ := seq_ok S r1 e1
        obtain ⟨b, ys, rfl, hb, fb⟩ := seq_ok S r2 e2
        exact ⟨a, b, xs, ys, rfl, rfl, ha, hb, by rw [fa.length, fb.length]; exact c, fun p hp => h _ _ (Rs.new Stp.refl S hp (fa.append fb))⟩
      case isFalse => exact h.elim
def tupW : W → Option (List D)
  | .fz (.tuple l) => some l
  | _ => none
theorem tupW_ok {l : List D} (r : WR cf.K cf.ct m v w) (e : tupW w = some l) : ∃ a xs, v = .ref a ∧ FT cf.K m a xs ∧ FzA cf.K cf.ct m xs l := by
  cases w with
  | fz d => cases d with
    | tuple j =>
      cases e
      cases r with
      | tup h1 h2 => exact ⟨_, _, rfl, h1, h2⟩
    | _ => cases e
  | _ => cases e
def fCatT (a b : W) (st : Sto) : Rt W := match tupW a, tupW b with
  | some i, some j => if i.length + j.length ≤ sizeLine then .ok (.fz (.tuple (i ++ j))) st else .no
  | _, _ => .no
theorem q_catT : Op2 cf E (rCatA cf.K) fCatT := fun m st v1 v2 w1 w2 Q S r1 r2 h => by
  unfold fCatT at h
  cases e1 : tupW w1 with
  | none => rw [e1] at h; exact h.elim
  | some i =>
    cases e2 : tupW w2 with
    | none => rw [e1, e2] at h; exact h.elim
    | some j =>
      rw [e1, e2] at h
      dsimp only at h
      split at h
      case isTrue c =>
        obtain ⟨a, xs, rfl, ha, fa⟩ := tupW_ok r1 e1
        obtain ⟨b, ys, rfl, hb, fb⟩ := tupW_ok r2 e2
        refine ⟨a, b, xs, ys, rfl, rfl, ha.sq, hb.sq, by rw [fa.length, fb.length]; exact c, fun e => ?_, fun _ e => ?_, fun _ _ p hp => ?_⟩
        · subst e
          cases fa
          exact h.fz S (.tup hb fb)
        · subst e
          cases fb
          rw [List.append_nil] at h
          exact h.fz S (.tup ha fa)
        · exact h _ _ (Rs.newTup S hp (fa.append fb))
      case isFalse => exact h.elim
/-- x in xs, of plain values -/
def flatD : D → Bool
  | .none => true | .bool _ => true | .int _ => true | .str _ => true | _ => false
def toV : D → V
  | .none => .non | .bool b => .bl b | .int i => .int i | .str z => .str z | _ => .non
theorem flat_ok {d : D} (f : Fz cf.K cf.ct m v d) (h : flatD d = true) : v = toV d := by
  cases f <;> first | rfl | (cases h; done)
theorem flats_ok : ∀ {vs : List V} {ds : List D}, FzA cf.K cf.ct m vs ds → ds.all flatD = true → vs = ds.map toV
  | _, _, .nil, _ => rfl
  | _, _, .cons a b, h => by
    rw [List.all_cons, Bool.and_eq_true] at h
    rw [flat_ok a h.1, flats_ok b h.2]
    rfl
theorem flatV_of {d : D} (h : flatD d = true) : flatV (toV d) = true := by
  cases d <;> first | rfl | (cases h; done)
def inD (d : D) (l : List D) : Bool := inV (toV d) (l.map toV)
/-- a list's or a tuple's items -/
def anyW (st : Sto) (w : W) : Option (List D) := match tupW w with
  | some l => some l
  | none => seqR st w
theorem anyW_ok {l : List D} (S : SR cf.K cf.ct m st) (r : WR cf.K cf.ct m v w) (e : anyW st w = some l) : ∃ a xs, v = .ref a ∧ (SqL cf.K m.hp a xs ∨ SqT cf.K m.hp a xs) ∧ FzA cf.K cf.ct m xs l := by
  unfold anyW at e
  cases q : tupW w with
  | some l' =>
    rw [q] at e
    cases e
    obtain ⟨a, xs, rfl, h, f⟩ := tupW_ok r q
    exact ⟨a, xs, rfl, .inr h.sq, f⟩
  | none =>
    rw [q] at e
    obtain ⟨a, xs, rfl, h, f⟩ := seqR_ok S r e
    exact ⟨a, xs, rfl, .inl h, f⟩
def fIn (neg : Bool) (a b : W) (st : Sto) : Rt W := match a, anyW st b with
  | .fz d, some l => if (flatD d && l.all flatD) = true then .ok (.fz (.bool (if neg = true then !inD d l else inD d l))) st else .no
  | _, _ => .no
theorem q_in {neg : Bool} : Op2 cf E (rIn cf.K neg) (fIn neg) := fun m st v1 v2 w1 w2 Q S r1 r2 h => by
  cases w1 with
  | own _ => exact h.elim
  | nst _ => exact h.elim
  | loc _ => exact h.elim
  | fz d =>
    unfold fIn at h
    cases e2 : anyW st w2 with
    | none => rw [e2] at h; exact h.elim
    | some l =>
      rw [e2] at h
      dsimp only at h
      split at h
      case isTrue c =>
        rw [Bool.and_eq_true] at c
        obtain ⟨a, xs, rfl, hs, f⟩ := anyW_ok S r2 e2
        have e1 := flat_ok r1 c.1
        have e3 := flats_ok f c.2
        subst e1 e3
        refine ⟨a, _, rfl, hs, flatV_of c.1, ?_, h.fz S (.bl _)⟩
        rw [List.all_map]
        exact List.all_eq_true.mpr fun y hy => flatV_of (List.all_eq_true.mp c.2 y hy)
      case isFalse => exact h.elim
/-- a sign in a text -/
def sgnW : W → Option Nat
  | .fz (.str x) => match x.cps.toList with
    | [c] => some c
    | _ => none
  | _ => none
theorem sgnW_ok {c : Nat} (r : WR cf.K cf.ct m v w) (e : sgnW w = some c) : v = .str ⟨#[c]⟩ := by
  cases w with
  | fz d => cases d with
    | str x =>
      cases r
      obtain ⟨⟨l⟩⟩ := x
      unfold sgnW at e
      dsimp only at e
      match l, e with
      | [c'], e => cases e; rfl
    | _ => cases e
  | _ => cases e
def fInS (neg : Bool) (a b : W) (st : Sto) : Rt W := match sgnW a, strW b with
  | some c, some z => .ok (.fz (.bool (if neg = true then !decide (c ∈ z.cps.toList) else decide (c ∈ z.cps.toList)))) st
  | _, _ => .no
theorem q_inS : Op2 cf E (fun x y H Q => ∃ (c : Nat) (z : Str), x = .str ⟨#[c]⟩ ∧ y = .str z ∧ Q (.bl (decide (c ∈ z.cps.toList))) H) (fInS false) := fun m st v1 v2 w1 w2 Q S r1 r2 h => by
  unfold fInS at h
  cases e1 : sgnW w1 with
  | none => rw [e1] at h; exact h.elim
  | some c =>
    cases e2 : strW w2 with
    | none => rw [e1, e2] at h; exact h.elim
    | some z =>
      rw [e1, e2] at h
      exact ⟨c, z, sgnW_ok r1 e1, strW_ok r2 e2, h.fz S (.bl _)⟩
theorem q_notInS : Op2 cf E (fun x y H Q => ∃ (c : Nat) (z : Str), x = .str ⟨#[c]⟩ ∧ y = .str z ∧ Q (.bl (!decide (c ∈ z.cps.toList))) H) (fInS true) := fun m st v1 v2 w1 w2 Q S r1 r2 h => by
  unfold fInS at h
  cases e1 : sgnW w1 with
  | none => rw [e1] at h; exact h.elim
  | some c =>
    cases e2 : strW w2 with
    | none => rw [e1, e2] at h; exact h.elim
    | some z =>
      rw [e1, e2] at h
      exact ⟨c, z, sgnW_ok r1 e1, strW_ok r2 e2, h.fz S (.bl _)⟩
/-! ### items -/
theorem atI_rel {l : List D} {xs : List V} {i : Int} {d : D} (f : FzA cf.K cf.ct m xs l) (e : atI l i = some d) : ∃ v, atI xs i = some v ∧ Fz cf.K cf.ct m v d := by
  unfold atI at e ⊢
  rw [f.length]
  cases q : ixN l.length i with
  | none => rw [q] at e; cases e
  | some j => rw [q] at e; exact f.get e
def fIxL (a b : W) (st : Sto) : Rt W := match seqR st a, intW b with
  | some l, some i => match atI l i with
    | some d => .ok (.fz d) st
    | none => .no
  | _, _ => .no
def fIxT (a b : W) (st : Sto) : Rt W := match tupW a, intW b with
  | some l, some i => match atI l i with
    | some d => .ok (.fz d) st
    | none => .no
  | _, _ => .no
def fIxS (a b : W) (st : Sto) : Rt W := match strW a, intW b with
  | some z, some i => if z.length ≤ sizeLine then match atI z.cps.toList i with
    | some c => .ok (.fz (.str ⟨#[c]⟩)) st
    | none => .no
    else .no
  | _, _ => .no
theorem q_ixL : Op2 cf E (rIxL cf.K) fIxL := fun m st v1 v2 w1 w2 Q S r1 r2 h => by
  unfold fIxL at h
  cases e1 : seqR st w1 with
  | none => rw [e1] at h; exact h.elim
  | some l =>
    cases e2 : intW w2 with
    | none => rw [e1, e2] at h; exact h.elim
    | some i =>
      rw [e1, e2] at h
      dsimp only at h
      cases e3 : atI l i with
      | none => rw [e3] at h; exact h.elim
      | some d =>
        rw [e3] at h
        obtain ⟨a, xs, rfl, hs, f⟩ := seqR_ok S r1 e1
        obtain ⟨v, hv, fv⟩ := atI_rel f e3
        exact ⟨a, xs, i, v, rfl, intW_ok r2 e2, hs, hv, h.fz S fv⟩
theorem q_ixT : Op2 cf E (rIxT cf.K) fIxT := fun m st v1 v2 w1 w2 Q S r1 r2 h => by
  unfold fIxT at h
  cases e1 : tupW w1 with
  | none => rw [e1] at h; exact h.elim
  | some l =>
    cases e2 : intW w2 with
    | none => rw [e1, e2] at h; exact h.elim
    | some i =>
      rw [e1, e2] at h
      dsimp only at h
      cases e3 : atI l i with
      | none => rw [e3] at h; exact h.elim
      | some d =>
        rw [e3] at h
        obtain ⟨a, xs, rfl, hs, f⟩ := tupW_ok r1 e1
        obtain ⟨v, hv, fv⟩ := atI_rel f e3
        exact ⟨a, xs, i, v, rfl, intW_ok r2 e2, hs.sq, hv, h.fz S fv⟩
theorem q_ixS : Op2 cf E rIxS fIxS := fun m st v1 v2 w1 w2 Q S r1 r2 h => by
  unfold fIxS at h
  cases e1 : strW w1 with
  | none => rw [e1] at h; exact h.elim
  | some z =>
    cases e2 : intW w2 with
    | none => rw [e1, e2] at h; exact h.elim
    | some i =>
      rw [e1, e2] at h
      dsimp only at h
      split at h
      case isFalse => exact h.elim
      case isTrue c =>
        cases e3 : atI z.cps.toList i with
        | none => rw [e3] at h; exact h.elim
        | some k =>
          rw [e3] at h
          exact ⟨z, i, k, strW_ok r1 e1, intW_ok r2 e2, c, e3, h.fz S (.str _)⟩
/-- xs[i] = v -/
def fSetL (a b c : W) (st : Sto) : Option Sto := match a, intW b, datW c with
  | .loc n, some k, some d => match st[n]? with
    | some (.lst l) => match ixN l.length k with
      | some j => some (st.set n (.lst (l.set j d)))
      | none => none
    | _ => none
  | _, _, _ => none
theorem q_setL : OpS cf E rSetL fSetL := fun m st v1 v2 v3 w1 w2 w3 Q S r1 r2 r3 st' h k => by
  cases w1 with
  | fz _ => cases h
  | own _ => cases h
  | nst _ => cases h
  | loc n =>
    unfold fSetL at h
    cases e2 : intW w2 with
    | none => rw [e2] at h; cases h
    | some i =>
      cases e3 : datW w3 with
      | none => rw [e2, e3] at h; cases h
      | some d =>
        rw [e2, e3] at h
        dsimp only at h
        obtain ⟨a, rfl, ha⟩ := r1
        obtain ⟨o, ho, hb⟩ := S.get ha
        rw [ho] at h
        cases o with
        | dk _ => cases h
        | ins _ _ => cases h
        | tab _ _ => cases h
        | lst l =>
          dsimp only at h
          obtain ⟨xs, e1, f⟩ := hb.lst_of
          cases e4 : ixN l.length i with
          | none => rw [e4] at h; cases h
          | some j =>
            rw [e4] at h
            cases h
            refine ⟨a, xs, i, j, rfl, intW_ok r2 e2, e1, by rw [f.length]; exact e4, ?_⟩
            have s := Stp.chg (m := m) (u := .lst (xs.set j v3)) ha
            exact k _ s (S.set ha ⟨_, upd_same, ((f.set j (dat_ok r3 e3)).to s : FzA cf.K cf.ct _ _ _)⟩)
end
end QD
/-! QD2: repr of data in which empty dicts may stand. -/
namespace QD
open PySem PySem.Spec PyProof.Rows L2 MG
mutual
inductive De (K : PySem.W.Frag) (H : Hp) : V → D → Prop
  | non : De K H .non .none
  | bl (b : Bool) : De K H (.bl b) (.bool b)
  | int (i : Int) : De K H (.int i) (.int i)
  | str (x : Str) : De K H (.str x) (.str x)
  | lst {a : Addr} {xs : List V} {ds : List D} : SqL K H a xs → DeA K H xs ds → De K H (.ref a) (.list ds)
  | tup {a : Addr} {xs : List V} {ds : List D} : SqT K H a xs → DeA K H xs ds → De K H (.ref a) (.tuple ds)
  | emp {a : Addr} : Rd H a (.dK []) → De K H (.ref a) (.dict [])
inductive DeA (K : PySem.W.Frag) (H : Hp) : List V → List D → Prop
  | nil : DeA K H [] []
  | cons {v : V} {vs : List V} {d : D} {ds : List D} : De K H v d → DeA K H vs ds → DeA K H (v :: vs) (d :: ds)
end
mutual
def noLst : D → Bool
  | .list _ => false
  | .tuple l => noLstA l
  | .dict l => l.isEmpty
  | _ => true
def noLstA : List D → Bool
  | [] => true
  | d :: ds => noLst d && noLstA ds
end
section
variable {X : Cx} {pins : List (Addr × Obj)} {σ : L2.St} {H : Hp} {s : Shared}
mutual
theorem De.reads (I : Inv X pins σ H s) : ∀ (d : D) (v : V) (u : Value), De X.K H v d → RelV v u → ∃ as, Reads s.heap u d as ∧ (noLst d = true → ∀ x ∈ as, (x == sysModules) = false)
  | .none, _, _, h, r => by cases h; cases r; exact ⟨_, .none, fun _ x hx => by cases hx⟩
  | .bool b, _, _, h, r => by cases h; cases r; exact ⟨_, .bool b, fun _ x hx => by cases hx⟩
  | .int i, _, _, h, r => by cases h; obtain ⟨t, rfl⟩ := r; exact ⟨_, .int i t, fun _ x hx => by cases hx⟩
  | .str y, _, _, h, r => by cases h; obtain ⟨t, rfl⟩ := r; exact ⟨_, .str y t, fun _ x hx => by cases hx⟩
  | .list ds, _, _, h, r => by
    cases h with
    | lst hs ha =>
      cases r
      obtain ⟨its, rv, ⟨o, n, ho, hc, _, hd⟩, _⟩ := I.list hs
      obtain ⟨as, q, _⟩ := De.readsA I ds _ its ha rv
      exact ⟨_, .list ho hc hd q, fun z => by unfold noLst at z; cases z⟩
  | .tuple ds, _, _, h, r => by
    cases h with
    | tup hs ha =>
      cases r
      obtain ⟨its, rv, ⟨o, ho, hc, n, hd⟩, _⟩ := I.tuple hs
      obtain ⟨as, q, k⟩ := De.readsA I ds _ its ha rv
      exact ⟨_, .tuple ho hc hd q, fun z => k (by unfold noLst at z; exact z)⟩
  | .dict l, _, _, h, r => by
    cases h with
    | emp hr =>
      cases r
      obtain ⟨_, hm, vs, rel, o, es, ep, ho, ex, hd, _, pr, _⟩ := dk_rd I.hok hr
      have l0 : vs = [] := by
        have := Paired.len rel
        cases vs with
        | nil => rfl
        | cons _ _ => simp at this
      subst l0
      have l1 : es.toList = [] := List.length_eq_zero_iff.mp (Pairs.length pr)
      have hk : ReadsAll s.heap (es.toList.map (·.key)) (([] : List (D × D)).map (·.1)) [] := by rw [l1]; exact .nil
      have hv : ReadsAll s.heap (es.toList.map (·.val)) (([] : List (D × D)).map (·.2)) [] := by rw [l1]; exact .nil
      refine ⟨_, .dict ho ex.1 hd hk hv, fun _ x hx => ?_⟩
      have hx' : x ∈ [_] := hx
      rw [List.mem_singleton] at hx'
      subst hx'
      exact hm
theorem De.readsA (I : Inv X pins σ H s) : ∀ (ds : List D) (vs : List V) (us : List Value), DeA X.K H vs ds → Vals vs us → ∃ as, ReadsAll s.heap us ds as ∧ (noLstA ds = true → ∀ x ∈ as, (x == sysModules) = false)
  | [], _, _, h, r => by cases h; cases r; exact ⟨_, .nil, fun _ x hx => by cases hx⟩
  | d :: ds, _, _, h, r => by
    cases h with
    | cons h1 h2 =>
      cases r with
      | cons r1 r2 =>
        obtain ⟨as, q1, k1⟩ := De.reads I d _ _ h1 r1
        obtain ⟨bs, q2, k2⟩ := De.readsA I ds _ _ h2 r2
        refine ⟨_, .cons q1 q2, fun z x hx => ?_⟩
        unfold noLstA at z
        rw [Bool.and_eq_true] at z
        rcases List.mem_append.mp hx with hx | hx
        · exact k1 z.1 x hx
        · exact k2 z.2 x hx
end
end
def okRep (d : D) : Bool := !d.hasDict || noLst d
/-- repr(x) -/
def rReprE (K : PySem.W.Frag) : List V → Hp → VK → Prop := fun xs H Q => ∃ x d, xs = [x] ∧ De K H x d ∧ d.showable = true ∧ okRep d = true ∧ d.depth ≤ 60 ∧ d.shown.length ≤ 16777216 ∧ Q (.str d.shown) H
theorem call_reprE {X : Cx} (hgd : X.A.guards = some []) (hun : X.A.units + 64 < cLine) : CallR X (.builtin "repr") (rReprE X.K) := by
  intro pins s σ H vs us Q I r h
  obtain ⟨x, d, rfl, hd, hs, hn, hp, hz, q⟩ := h
  cases r with
  | cons rx rn =>
    cases rn
    rename_i u
    obtain ⟨as, rd, hsm⟩ := De.reads I d x u hd rx
    have hm : d.hasDict = true → sysModules ∉ as := fun z y => by
      have e : noLst d = true := by
        unfold okRep at hn
        rw [z] at hn
        simpa using hn
      have := hsm e _ y
      simp at this
    cases rd with
    | list h1 h2 h3 h4 =>
      refine repr_of_reads' (.list h1 h2 h3 h4) hs hm hgd (by omega) (fun _ _ e => e) (fun h' tk tk' keep => ?_) (by rw [sizeLine_eq]; exact hz)
      exact ⟨.str _, H, I.kept keep, ⟨_, rfl⟩, q⟩
    | tuple h1 h2 h3 h4 =>
      refine repr_of_reads' (.tuple h1 h2 h3 h4) hs hm hgd (by omega) (fun _ _ e => e) (fun h' tk tk' keep => ?_) (by rw [sizeLine_eq]; exact hz)
      exact ⟨.str _, H, I.kept keep, ⟨_, rfl⟩, q⟩
    | dict h1 h2 h3 h4 h5 =>
      refine repr_of_reads' (.dict h1 h2 h3 h4 h5) hs hm hgd (by omega) (fun _ _ e => e) (fun h' tk tk' keep => ?_) (by rw [sizeLine_eq]; exact hz)
      exact ⟨.str _, H, I.kept keep, ⟨_, rfl⟩, q⟩
    | none => exact P.repr_of_none ⟨.str "None", H, I.tok _, ⟨_, rfl⟩, q⟩
    | bool b => exact P.repr_of_bool ⟨.str (if b then "True" else "False"), H, I.tok _, ⟨_, rfl⟩, q⟩
    | int i t =>
      have hb : i.natAbs.log2 < 1920 := of_decide_eq_true hs
      exact P.repr_of_int hb ⟨.str (toString i), H, I.tok _, ⟨_, rfl⟩, q⟩
    | str y t => exact P.repr_of_str (by exact ⟨.str (reprText y), H, I.tok _, ⟨_, rfl⟩, q⟩) (by rw [sizeLine_eq]; exact hz)
section
variable {cf : Cf} {m : Mo} {st : Sto} {v : V} {w : W}
mutual
def plainE : D → Bool
  | .none => true
  | .bool _ => true
  | .int _ => true
  | .str _ => true
  | .list l => plainEA l
  | .tuple l => plainEA l
  | .dict l => l.isEmpty
def plainEA : List D → Bool
  | [] => true
  | d :: ds => plainE d && plainEA ds
end
mutual
theorem plainE_of : ∀ {d : D}, plain d = true → plainE d = true
  | .none, _ => by unfold plainE; rfl
  | .bool _, _ => by unfold plainE; rfl
  | .int _, _ => by unfold plainE; rfl
  | .str _, _ => by unfold plainE; rfl
  | .list l, h => by unfold plainE; unfold plain at h; exact plainEA_of h
  | .tuple l, h => by unfold plainE; unfold plain at h; exact plainEA_of h
  | .dict l, h => by unfold plain at h; cases h
theorem plainEA_of : ∀ {l : List D}, plainA l = true → plainEA l = true
  | [], _ => by unfold plainEA; rfl
  | d :: ds, h => by
    unfold plainA at h
    unfold plainEA
    rw [Bool.and_eq_true] at h ⊢
    exact ⟨plainE_of h.1, plainEA_of h.2⟩
end
mutual
theorem Fz.de : ∀ {v : V} {d : D}, Fz cf.K cf.ct m v d → plainE d = true → De cf.K m.hp v d
  | _, _, .non, _ => .non
  | _, _, .bl b, _ => .bl b
  | _, _, .int b, _ => .int b
  | _, _, .str b, _ => .str b
  | _, _, .tup h1 h2, p => .tup h1.sq (FzA.de h2 (by unfold plainE at p; exact p))
  | _, _, .lst h1 h2 h3 h4, p => .lst (SqL.of h3) (FzA.de h4 (by unfold plainE at p; exact p))
  | _, _, .ro h1 h2, p => by unfold plainE at p; cases p
  | _, _, .emp h, p => .emp h.2.2
  | _, _, .ty h, p => by unfold plainE at p; cases p
  | _, _, .cls h, p => by unfold plainE at p; cases p
  | _, _, .code _ _ _, p => by unfold plainE at p; cases p
  | _, _, .fn _ _ _, p => by unfold plainE at p; cases p
  | _, _, .exc _ _ _ _, p => by unfold plainE at p; cases p
  | _, _, .exc0, p => by unfold plainE at p; cases p
  | _, _, .ob _ _ _ _ _ _, p => by unfold plainE at p; cases p
theorem FzA.de : ∀ {vs : List V} {ds : List D}, FzA cf.K cf.ct m vs ds → plainEA ds = true → DeA cf.K m.hp vs ds
  | _, _, .nil, _ => .nil
  | _, _, .cons h1 h2, p => by
    unfold plainEA at p
    rw [Bool.and_eq_true] at p
    exact .cons (Fz.de h1 p.1) (FzA.de h2 p.2)
end
theorem look_de {d : D} (S : SR cf.K cf.ct m st) (r : WR cf.K cf.ct m v w) (e : lookW st w = some d) (p : plainE d = true) : De cf.K m.hp v d := by
  cases w with
  | fz d' => cases e; exact Fz.de r p
  | nst _ => cases e
  | own l =>
    cases e
    obtain ⟨a, xs, rfl, hs, f⟩ := seq_ok S r (l := l) rfl
    exact .lst (SqL.of hs) (f.de (by unfold plainE at p; exact p))
  | loc n =>
    unfold lookW at e
    dsimp only at e
    split at e
    case h_1 l hl =>
      cases e
      obtain ⟨a, xs, rfl, hs, f⟩ := seq_ok S r (l := l) (by unfold seqW; dsimp only; rw [hl])
      exact .lst (SqL.of hs) (f.de (by unfold plainE at p; exact p))
    case h_2 => cases e
end
end QD
/-! QD3: repr of data in which empty dicts stand anywhere. -/
namespace QD
open PySem PySem.Spec PyProof.Rows L2 MG
section
variable {X : Cx} {pins : List (Addr × Obj)} {σ : L2.St} {H : Hp} {s : Shared}
mutual
theorem De.rp (I : Inv X pins σ H s) : ∀ (d : D) (v : V) (u : Value), De X.K H v d → RelV v u → d.showable = true → d.shown.length ≤ sizeLine → ∃ bs, ReadAtMost s.heap d.depth bs ∧ ReprK X.prog X.w bs s.heap d.depth u d.shown
  | .list ds, _, _, h, r, hs, hz => by
    have h0 := h
    cases h with
    | lst hl ha =>
      cases r
      obtain ⟨its, rv, ⟨o, n, ho, hc, _, hd⟩, _⟩ := I.list hl
      obtain ⟨as, q, _⟩ := De.readsA I ds _ its ha rv
      have z : (listText (PyData.shownAll ds)).length ≤ sizeLine := by simpa only [PyData.shown] using hz
      obtain ⟨bs, hb, hk⟩ := De.rpA I ds _ its ha rv (by simpa [PyData.showable] using hs) fun t ht => Nat.le_trans (listText_mem_le ht) z
      have rd := Reads.list ho hc hd q
      have na := not_mem_of_deeper rd (show PyData.depthAll ds < (PyData.list ds).depth by simp only [PyData.depth]; omega) hb
      refine ⟨_ :: bs, ReadAtMost.cons rd (by simp only [PyData.depth]; omega) hb, ?_⟩
      simp only [PyData.depth, PyData.shown]
      cases its with
      | nil =>
        cases q
        simp only [PyData.shownAll, listText_nil]
        exact ReprK.listEmpty ho hc hd
      | cons x l => exact ReprK.list ho hc hd na (by simpa using hk.length_eq) fun i y e => hk.item i y (by simpa using e)
  | .tuple ds, _, _, h, r, hs, hz => by
    cases h with
    | tup hl ha =>
      cases r
      obtain ⟨its, rv, ⟨o, ho, hc, n, hd⟩, _⟩ := I.tuple hl
      obtain ⟨as, q, _⟩ := De.readsA I ds _ its ha rv
      have z : (tupleText (PyData.shownAll ds)).length ≤ sizeLine := by simpa only [PyData.shown] using hz
      obtain ⟨bs, hb, hk⟩ := De.rpA I ds _ its ha rv (by simpa [PyData.showable] using hs) fun t ht => Nat.le_trans (tupleText_mem_le ht) z
      have rd := Reads.tuple ho hc hd q
      have na := not_mem_of_deeper rd (show PyData.depthAll ds < (PyData.tuple ds).depth by simp only [PyData.depth]; omega) hb
      refine ⟨_ :: bs, ReadAtMost.cons rd (by simp only [PyData.depth]; omega) hb, ?_⟩
      simp only [PyData.depth, PyData.shown]
      exact ReprK.tuple ho hc hd na hk
  | .none, v, u, h, r, hs, hz => by obtain ⟨as, rd, k⟩ := De.reads I .none v u h r; exact ReprK.of_reads rd hs (fun e => by cases e) hz
  | .bool b, v, u, h, r, hs, hz => by obtain ⟨as, rd, k⟩ := De.reads I (.bool b) v u h r; exact ReprK.of_reads rd hs (fun e => by cases e) hz
  | .int i, v, u, h, r, hs, hz => by obtain ⟨as, rd, k⟩ := De.reads I (.int i) v u h r; exact ReprK.of_reads rd hs (fun e => by cases e) hz
  | .str x, v, u, h, r, hs, hz => by obtain ⟨as, rd, k⟩ := De.reads I (.str x) v u h r; exact ReprK.of_reads rd hs (fun e => by cases e) hz
  | .dict l, v, u, h, r, hs, hz => by
    obtain ⟨as, rd, k⟩ := De.reads I (.dict l) v u h r
    have e : noLst (.dict l) = true := by cases h; rfl
    exact ReprK.of_reads rd hs (fun _ y => by have := k e _ y; simp at this) hz
theorem De.rpA (I : Inv X pins σ H s) : ∀ (ds : List D) (vs : List V) (us : List Value), DeA X.K H vs ds → Vals vs us → PyData.showableAll ds = true → (∀ t ∈ PyData.shownAll ds, t.length ≤ sizeLine) → ∃ bs, ReadAtMost s.heap (PyData.depthAll ds) bs ∧ ReprAllK X.prog X.w bs s.heap (PyData.depthAll ds) us (PyData.shownAll ds)
  | [], _, _, h, r, _, _ => by cases h; cases r; exact ⟨[], (fun _ h => nomatch h), (by simp only [PyData.shownAll]; exact .nil)⟩
  | d :: ds, _, _, h, r, hs, hz => by
    cases h with
    | cons h1 h2 =>
      cases r with
      | cons r1 r2 =>
        have hs' : d.showable = true ∧ PyData.showableAll ds = true := by simpa [PyData.showableAll] using hs
        obtain ⟨b1, m1, k1⟩ := De.rp I d _ _ h1 r1 hs'.1 (hz _ (by simp only [PyData.shownAll]; exact List.mem_cons_self ..))
        obtain ⟨b2, m2, k2⟩ := De.rpA I ds _ _ h2 r2 hs'.2 fun t ht => hz t (by simp only [PyData.shownAll]; exact List.mem_cons_of_mem _ ht)
        have l1 : d.depth ≤ PyData.depthAll (d :: ds) := by simp only [PyData.depthAll]; exact Nat.le_max_left _ _
        have l2 : PyData.depthAll ds ≤ PyData.depthAll (d :: ds) := by simp only [PyData.depthAll]; exact Nat.le_max_right _ _
        refine ⟨b1 ++ b2, (m1.mono l1).append (m2.mono l2), ?_⟩
        rw [show PyData.shownAll (d :: ds) = d.shown :: PyData.shownAll ds by simp only [PyData.shownAll]]
        exact .cons ((k1.more fun b hb => List.mem_append_left _ hb).level_le l1) (k2.more_le (fun b hb => List.mem_append_right _ hb) l2)
end
end
/-- repr(x) -/
def rReprX (K : PySem.W.Frag) : List V → Hp → VK → Prop := fun xs H Q => ∃ x d, xs = [x] ∧ De K H x d ∧ d.showable = true ∧ d.depth ≤ 60 ∧ d.shown.length ≤ 16777216 ∧ Q (.str d.shown) H
theorem call_reprX {X : Cx} (hgd : X.A.guards = some []) (hun : X.A.units + 64 < cLine) : CallR X (.builtin "repr") (rReprX X.K) := by
  intro pins s σ H vs us Q I r h
  obtain ⟨x, d, rfl, hd, hs, hp, hz, q⟩ := h
  by_cases c : okRep d = true
  · exact call_reprE hgd hun pins s σ H [x] us Q I r ⟨x, d, rfl, hd, hs, c, hp, hz, q⟩
  · cases r with
    | cons rx rn =>
      cases rn
      rename_i u
      have hz' : d.shown.length ≤ sizeLine := by rw [sizeLine_eq]; exact hz
      cases hd with
      | @lst a xs ds hl ha =>
        cases rx
        obtain ⟨its, rv, ⟨o, n, ho, hc, _, hdt⟩, _⟩ := I.list hl
        obtain ⟨as, rq, _⟩ := De.readsA I ds _ its ha rv
        have z : (listText (PyData.shownAll ds)).length ≤ sizeLine := by simpa only [PyData.shown] using hz'
        obtain ⟨bs, hb, hk⟩ := De.rpA I ds _ its ha rv (by simpa [PyData.showable] using hs) fun t ht => Nat.le_trans (listText_mem_le ht) z
        have na := not_mem_of_deeper (Reads.list ho hc hdt rq) (show PyData.depthAll ds < (PyData.list ds).depth by simp only [PyData.depth]; omega) hb
        simp only [PyData.depth] at hp
        simp only [PyData.shown] at q
        refine call_repr_slot (T := "list") (idr := "list.__repr__") (by omega) ⟨o, ho, hc⟩ F.slot_list_repr.toG ?_
        cases its with
        | nil =>
          cases rq
          exact absurd (by rfl) c
        | cons y l => exact call_list_reprK (A := X.A.in1) ho hc hdt na (by simpa using hk.length_eq) (fun i y e => hk.item i y (by simpa using e)) hgd (fun b _ => Clear.nil b) (show X.A.units + 1 + (PyData.depthAll ds + 1) < cLine by omega) (fun _ _ e => e) (fun h' u tk keep => ⟨_, _, rfl, .str _, H, I.kept keep, ⟨_, rfl⟩, q⟩) z
      | @tup a xs ds hl ha =>
        cases rx
        obtain ⟨its, rv, ⟨o, ho, hc, n, hdt⟩, _⟩ := I.tuple hl
        obtain ⟨as, rq, _⟩ := De.readsA I ds _ its ha rv
        have z : (tupleText (PyData.shownAll ds)).length ≤ sizeLine := by simpa only [PyData.shown] using hz'
        obtain ⟨bs, hb, hk⟩ := De.rpA I ds _ its ha rv (by simpa [PyData.showable] using hs) fun t ht => Nat.le_trans (tupleText_mem_le ht) z
        have na := not_mem_of_deeper (Reads.tuple ho hc hdt rq) (show PyData.depthAll ds < (PyData.tuple ds).depth by simp only [PyData.depth]; omega) hb
        simp only [PyData.depth] at hp
        simp only [PyData.shown] at q
        refine call_repr_slot (T := "tuple") (idr := "tuple.__repr__") (by omega) ⟨o, ho, hc⟩ F.slot_tuple_repr ?_
        exact call_tuple_reprK (A := X.A.in1) ho hc hdt na hk hgd (fun b _ => Clear.nil b) (show X.A.units + 1 + (PyData.depthAll ds + 1) < cLine by omega) (fun _ _ e => e) (fun h' u tk keep => ⟨_, _, rfl, .str _, H, I.kept keep, ⟨_, rfl⟩, q⟩) z
      | emp _ => exact absurd (by rfl) c
      | non => exact absurd (by rfl) c
      | bl _ => exact absurd (by rfl) c
      | int _ => exact absurd (by rfl) c
      | str _ => exact absurd (by rfl) c
end QD
/-! zip over the items of a tuple of tuples, one to four of them, and the results kept under one name -/
namespace ZN
open PySem
open PySem.Sem (wp)
abbrev IsZipF (h : Heap) (z TI TO : Addr) (f0 f1 : Value) : Prop :=
  h.get? z = some { cls := .type "zip", dict := none, data := .fields #[f0, f1, .bool false, .ref TI, .ref TO], slots := #[] }
abbrev IsTupV (h : Heap) (T : Addr) (vs : List Value) : Prop := h.get? T = some { cls := .type "tuple", data := .seq vs.toArray }
/-- the iterators (and their tuples) stand apart from the zip and its own -/
structure Apart (z TI TO : Addr) (l : List (Addr × Addr)) : Prop where
  TIz : TI ≠ z
  TOz : TO ≠ z
  TITO : TI ≠ TO
  iz : ∀ p ∈ l, p.1 ≠ z
  iTI : ∀ p ∈ l, p.1 ≠ TI
  iTO : ∀ p ∈ l, p.1 ≠ TO
  tz : ∀ p ∈ l, p.2 ≠ z
  tTO : ∀ p ∈ l, p.2 ≠ TO
  ti : ∀ p ∈ l, ∀ q ∈ l, p.2 ≠ q.1
  nd : (l.map (·.1)).Nodup
def Rows (h : Heap) (k : Nat) (l : List (Addr × Addr)) (xs : List Value) : Prop := l.length = xs.length ∧ ∀ (n : Nat) (p : Addr × Addr), l[n]? = some p → ∃ x items, xs[n]? = some x ∧ h.IsTuple p.2 items ∧ items[k]? = some x
abbrev refs (l : List (Addr × Addr)) : List Value := l.map fun p => Value.ref p.1
section
variable {prog : Program} {w : World} {A : Around} {E : Value → Shared → Prop} {s : Shared}
/-- how far a round of draws has come -/
structure St (z TI TO : Addr) (f0 f1 : Value) (l dn td : List (Addr × Addr)) (k : Nat) (ys : List Value) (h0 h : Heap) (d : Nat) : Prop where
  hz : IsZipF h z TI TO f0 f1
  hTI : IsTupV h TI (refs l)
  hTO : IsTupV h TO ys
  ly : ys.length = l.length
  hd : ∀ p ∈ dn, h.IsTupleIter p.1 p.2 (k + 1)
  ht : ∀ p ∈ td, h.IsTupleIter p.1 p.2 k
  sz : h.objs.size = h0.objs.size + d
  kp : ∀ c o, c ≠ z → c ≠ TO → (∀ p ∈ l, c ≠ p.1) → h0.get? c = some o → h.get? c = some o
/-- one draw -/
theorem St.draw {z TI TO : Addr} {f0 f1 : Value} {l dn td : List (Addr × Addr)} {p : Addr × Addr} {k : Nat} {ys : List Value} {h0 : Heap} {x : Value} {items : Array Value} {Q : Value → Shared → Prop} (D : Apart z TI TO l) (e : l = dn ++ p :: td)
    (S : St z TI TO f0 f1 l dn (p :: td) k ys h0 s.heap 0) (ht : h0.IsTuple p.2 items) (hx : items[k]? = some x)
    (hQ : ∀ h', St z TI TO f0 f1 l (dn ++ [p]) td k ys h0 h' 0 → Q x { s with heap := h' }) : wpAny (model prog w) A (Builtin.SmallTypes.nextOf (.ref p.1)) Q E s := by
  have mp : p ∈ l := by rw [e]; simp
  have nd := D.nd
  rw [e, List.map_append, List.map_cons] at nd
  have nd2 := List.nodup_append.mp nd
  have nd3 := List.nodup_cons.mp nd2.2.1
  obtain ⟨o, ho, r⟩ := ht
  have ht' : s.heap.IsTuple p.2 items := ⟨o, S.kp _ _ (D.tz p mp) (D.tTO p mp) (fun q hq => D.ti p mp q hq) ho, r⟩
  refine RZ.nextOf_tuple_item (S.ht p (List.mem_cons_self ..)) ht' hx fun h' hi hs => hQ h' ?_
  refine ⟨hs.extBut _ _ (D.iz p mp).symm S.hz, hs.extBut _ _ (D.iTI p mp).symm S.hTI, hs.extBut _ _ (D.iTO p mp).symm S.hTO, S.ly, fun q hq => ?_, fun q hq => ?_, by rw [hs.1, S.sz], fun c o c1 c2 c3 hc => hs.extBut _ _ (c3 p mp) (S.kp c o c1 c2 c3 hc)⟩
  · rcases List.mem_append.mp hq with hq | hq
    · refine (S.hd q hq).extBut hs.extBut fun x => ?_
      exact nd2.2.2 q.1 (List.mem_map_of_mem hq) p.1 (List.mem_cons_self ..) x
    · have : q = p := by simpa using hq
      subst this
      exact hi
  · refine (S.ht q (List.mem_cons_of_mem _ hq)).extBut hs.extBut fun x => ?_
    exact nd3.1 (x ▸ List.mem_map_of_mem hq)
/-- the zip's own field set -/
theorem St.set {z TI TO : Addr} {f0 f1 g0 g1 : Value} {l dn td : List (Addr × Addr)} {k d : Nat} {ys : List Value} {h0 h h' : Heap} (D : Apart z TI TO l) (hl : l = dn ++ td) (S : St z TI TO f0 f1 l dn td k ys h0 h d)
    (hz : IsZipF h' z TI TO g0 g1) (hs : Heap.SameBut z h h') : St z TI TO g0 g1 l dn td k ys h0 h' d := by
  refine ⟨hz, hs.extBut _ _ D.TIz S.hTI, hs.extBut _ _ D.TOz S.hTO, S.ly, fun q hq => (S.hd q hq).extBut hs.extBut (D.iz q (by rw [hl]; simp [hq])), fun q hq => (S.ht q hq).extBut hs.extBut (D.iz q (by rw [hl]; simp [hq])), by rw [hs.1, S.sz], fun c o c1 c2 c3 hc => hs.extBut _ _ c1 (S.kp c o c1 c2 c3 hc)⟩
theorem St.tup {z TI TO : Addr} {f0 f1 : Value} {l dn td : List (Addr × Addr)} {k d : Nat} {ys zs : List Value} {h0 h h' : Heap} (D : Apart z TI TO l) (hl : l = dn ++ td) (S : St z TI TO f0 f1 l dn td k ys h0 h d)
    (hT : IsTupV h' TO zs) (lz : zs.length = ys.length) (hs : Heap.SameBut TO h h') : St z TI TO f0 f1 l dn td k zs h0 h' d := by
  refine ⟨hs.extBut _ _ D.TOz.symm S.hz, hs.extBut _ _ D.TITO S.hTI, hT, by rw [lz, S.ly], fun q hq => (S.hd q hq).extBut hs.extBut (D.iTO q (by rw [hl]; simp [hq])), fun q hq => (S.ht q hq).extBut hs.extBut (D.iTO q (by rw [hl]; simp [hq])), by rw [hs.1, S.sz], fun c o c1 c2 c3 hc => hs.extBut _ _ c2 (S.kp c o c1 c2 c3 hc)⟩
theorem St.push {z TI TO : Addr} {f0 f1 : Value} {l dn td : List (Addr × Addr)} {k : Nat} {ys : List Value} {h0 h : Heap} (o : Obj) (S : St z TI TO f0 f1 l dn td k ys h0 h 0) : St z TI TO f0 f1 l dn td k ys h0 (h.push o) 1 :=
  ⟨Heap.get?_push_of_some _ S.hz, Heap.get?_push_of_some _ S.hTI, Heap.get?_push_of_some _ S.hTO, S.ly, fun q hq => (S.hd q hq).at fun o e => Heap.get?_push_of_some _ e, fun q hq => (S.ht q hq).at fun o e => Heap.get?_push_of_some _ e,
    by rw [Heap.size_push, S.sz], fun c o c1 c2 c3 hc => Heap.get?_push_of_some _ (S.kp c o c1 c2 c3 hc)⟩
end
/-! ### the call -/
def mk : Nat → List Addr → List (Addr × Addr)
  | _, [] => []
  | n, a :: as => (n, a) :: mk (n + 1) as
/-- what stands after a call of zip -/
structure Made (n : Nat) (as : List Addr) (h0 h : Heap) : Prop where
  st : St (n + as.length + 2) (n + as.length) (n + as.length + 1) .none (.bool false) (mk n as) [] (mk n as) 0 ((mk n as).map fun _ => Value.none) h h 0
  kp : ∀ c o, h0.get? c = some o → h.get? c = some o
  sz : h.objs.size = n + as.length + 3
section
variable {prog : Program} {w : World} {A : Around} {E : Value → Shared → Prop} {s : Shared}
end
end ZN
/-! x in zip(*rows), the results under one name, at the hand layer -/
namespace ZS
open PySem PySem.Spec PyProof.Rows L2 ZN
/-- the column at i of the tuples at these addresses -/
def ColAt (K : PySem.W.Frag) (H : Hp) (i : Nat) : List Addr → List V → Prop
  | [], [] => True
  | a :: as, x :: col => (∃ xs, SqT K H a xs ∧ xs[i]? = some x) ∧ ColAt K H i as col
  | _, _ => False
def ItN (K : PySem.W.Frag) (as : List Addr) : It :=
  ⟨fun i H => ∃ col, ColAt K H i as col, fun i H v H' => ∃ T col, v = .ref T ∧ H T = none ∧ H' = upd H T (.tup col) ∧ ∀ c, ColAt K H i as c → c = col,
    fun i H => ∃ a rest xs, as = a :: rest ∧ SqT K H a xs ∧ xs.length ≤ i⟩
theorem Rows.nil {h : Heap} {k : Nat} : Rows h k [] [] := ⟨rfl, fun n p e => by simp at e⟩
theorem Rows.cons {h : Heap} {k : Nat} {p : Addr × Addr} {x : Value} {l : List (Addr × Addr)} {xs : List Value} (h1 : ∃ items, h.IsTuple p.2 items ∧ items[k]? = some x) (r : Rows h k l xs) : Rows h k (p :: l) (x :: xs) := by
  refine ⟨congrArg Nat.succ r.1, fun n q e => ?_⟩
  cases n with
  | zero =>
    simp at e
    subst e
    obtain ⟨items, h2, h3⟩ := h1
    exact ⟨x, items, by simp, h2, h3⟩
  | succ n =>
    obtain ⟨y, items, h2, h3, h4⟩ := r.2 n q (by simpa using e)
    exact ⟨y, items, by simpa using h2, h3, h4⟩
theorem rows_of {X : Cx} {pins : List (Addr × Obj)} {σ : L2.St} {H : Hp} {s : Shared} (I : Inv X pins σ H s) {i : Nat} : ∀ {n : Nat} {as : List Addr} {col : List V}, ColAt X.K H i as col → ∃ us, Rows s.heap i (mk n as) us ∧ Vals col us
  | _, [], [], _ => ⟨[], Rows.nil, .nil⟩
  | n, a :: as, x :: col, h => by
    obtain ⟨⟨xs, hq, hx⟩, h2⟩ := h
    obtain ⟨us, r, v⟩ := rows_of (n := n + 1) I h2
    obtain ⟨its, rv, p, _⟩ := I.tuple hq
    obtain ⟨u, hu, ru⟩ := rv.get hx
    exact ⟨u :: us, Rows.cons ⟨its.toArray, p, by simpa using hu⟩ r, .cons ru v⟩
  | _, [], _ :: _, h => h.elim
  | _, _ :: _, [], h => h.elim
abbrev fpN (n : Nat) (as : List Addr) : List Addr := (n + as.length + 2) :: (n + as.length) :: (n + as.length + 1) :: (mk n as).map (·.1)
def tnN (n : Nat) (as : List Addr) (i : Nat) (h : Heap) : Prop := ∃ (f0 : Value) (b : Bool) (ys : List Value), (f0 = .none ∨ ∃ a : Nat, f0 = rawInt a) ∧ St (n + as.length + 2) (n + as.length) (n + as.length + 1) f0 (.bool b) (mk n as) [] (mk n as) i ys h h 0
def iZipS (K : PySem.W.Frag) (te : TE) : TI := fun σ H R => te σ H fun x H1 => ∃ (a : Addr) (as : List Addr), x = .ref a ∧ SqT K H1 a (as.map V.ref) ∧ as ≠ [] ∧ as.length ≤ 4 ∧ (∀ b ∈ as, ∃ xs, SqT K H1 b xs) ∧ R (ItN K as) H1
end ZS
/-! sum of a tuple of ints; a walk over zip of rows -/
namespace LT
open PySem PySem.Spec PyProof.Rows L2
section
variable {prog : Program} {w : World} {A : Around} {E : Value → Shared → Prop} {s : Shared}
end
section
variable {X : Cx}
def rSumT (K : PySem.W.Frag) : List V → Hp → VK → Prop := fun vs H Q => ∃ (a : Addr) (ns : List Int), vs = [V.ref a] ∧ SqT K H a (ns.map V.int) ∧ Q (.int ns.sum) H
end
end LT
/-! QI: calls of builtins, methods, slices, texts put together. -/
namespace QD
open PySem PySem.Spec PyProof.Rows L2 MG LT
section
variable {cf : Cf} {E : XK} {m m1 : Mo} {st : Sto} {v u : V} {w x : W}
/-- a builtin of one argument -/
def f1 (f : W → Sto → Rt W) (ws : List W) (st : Sto) : Rt W := match ws with
  | [w] => f w st
  | _ => .no
theorem opN1 {r : List V → Hp → VK → Prop} {f : W → Sto → Rt W} (h : ∀ m st v w Q, SR cf.K cf.ct m st → WR cf.K cf.ct m v w → Pe cf E m Q (f w st) → r [v] m.hp Q) : OpN cf E r (f1 f) := fun m st vs ws Q S r1 q => by
  match ws, r1, q with
  | [w], r1, q =>
    obtain ⟨v, rfl, r2⟩ := r1.one
    exact h m st v w Q S r2 q
  | [], _, q => exact q.elim
  | _ :: _ :: _, _, q => exact q.elim
def f2 (f : W → W → Sto → Rt W) (ws : List W) (st : Sto) : Rt W := match ws with
  | [w, x] => f w x st
  | _ => .no
theorem opN2 {r : List V → Hp → VK → Prop} {f : W → W → Sto → Rt W} (h : ∀ m st v u w x Q, SR cf.K cf.ct m st → WR cf.K cf.ct m v w → WR cf.K cf.ct m u x → Pe cf E m Q (f w x st) → r [v, u] m.hp Q) : OpN cf E r (f2 f) := fun m st vs ws Q S r1 q => by
  match ws, r1, q with
  | [w, x], r1, q =>
    obtain ⟨v, u, rfl, r2, r3⟩ := r1.two
    exact h m st v u w x Q S r2 r3 q
  | [], _, q => exact q.elim
  | [_], _, q => exact q.elim
  | _ :: _ :: _ :: _, _, q => exact q.elim
/-! ### len -/
def fLen (w : W) (st : Sto) : Rt W := match anyW st w with
  | some l => .ok (.fz (.int l.length)) st
  | none => .no
theorem q_len : OpN cf E (fun xs H Q => ∃ p ys, xs = [.ref p] ∧ (SqL cf.K H p ys ∨ SqT cf.K H p ys) ∧ Q (.int ys.length) H) (f1 fLen) := opN1 fun m st v w Q S r h => by
  unfold fLen at h
  cases e : anyW st w with
  | none => rw [e] at h; exact h.elim
  | some l =>
    rw [e] at h
    obtain ⟨a, xs, rfl, hs, f⟩ := anyW_ok S r e
    refine ⟨a, xs, rfl, hs, ?_⟩
    rw [f.length]
    exact h.fz S (.int _)
def fLenS (w : W) (st : Sto) : Rt W := match strW w with
  | some z => if z.length ≤ sizeLine then .ok (.fz (.int z.length)) st else .no
  | none => .no
theorem q_lenS : OpN cf E (fun xs H Q => ∃ x n, xs = [x] ∧ LenV cf.K x H n ∧ Q (.int n) H) (f1 fLenS) := opN1 fun m st v w Q S r h => by
  unfold fLenS at h
  cases e : strW w with
  | none => rw [e] at h; exact h.elim
  | some z =>
    rw [e] at h
    dsimp only at h
    split at h
    case isTrue c =>
      obtain rfl := strW_ok r e
      exact ⟨_, z.length, rfl, ⟨c, rfl⟩, h.fz S (.int _)⟩
    case isFalse => exact h.elim
/-! ### of ints -/
theorem q_abs : OpN cf E (fun xs H Q => ∃ i, xs = [.int i] ∧ Q (.int (if i < 0 then -i else i)) H) (f1 (f1I fun i => .int (if i < 0 then -i else i))) := opN1 fun m st v w Q S r h => by
  unfold f1I at h
  cases e : intW w with
  | none => rw [e] at h; exact h.elim
  | some i => rw [e] at h; obtain rfl := intW_ok r e; exact ⟨i, rfl, h.fz S (.int _)⟩
theorem q_int : OpN cf E (fun xs H Q => (∃ i, xs = [.int i] ∧ Q (.int i) H) ∨ ∃ k, xs = [.bl k] ∧ Q (.int (if k then 1 else 0)) H) (f1 (f1I fun i => .int i)) := opN1 fun m st v w Q S r h => by
  unfold f1I at h
  cases e : intW w with
  | none => rw [e] at h; exact h.elim
  | some i => rw [e] at h; obtain rfl := intW_ok r e; exact .inl ⟨i, rfl, h.fz S (.int _)⟩
def fStrI (w : W) (st : Sto) : Rt W := match intW w with
  | some i => if i.natAbs.log2 < 1920 then .ok (.fz (.str (toString i : String))) st else .no
  | none => .no
theorem q_strI : OpN cf E (fun xs H Q => ∃ i, xs = [.int i] ∧ i.natAbs.log2 < 1920 ∧ Q (.str (toString i)) H) (f1 fStrI) := opN1 fun m st v w Q S r h => by
  unfold fStrI at h
  cases e : intW w with
  | none => rw [e] at h; exact h.elim
  | some i =>
    rw [e] at h
    dsimp only at h
    split at h
    case isTrue c => obtain rfl := intW_ok r e; exact ⟨i, rfl, c, h.fz S (.str _)⟩
    case isFalse => exact h.elim
def fStrS (w : W) (st : Sto) : Rt W := match strW w with
  | some z => .ok (.fz (.str z)) st
  | none => .no
theorem q_strS : OpN cf E (fun xs H Q => ∃ a, xs = [.str a] ∧ Q (.str a) H) (f1 fStrS) := opN1 fun m st v w Q S r h => by
  unfold fStrS at h
  cases e : strW w with
  | none => rw [e] at h; exact h.elim
  | some z => rw [e] at h; obtain rfl := strW_ok r e; exact ⟨z, rfl, h.fz S (.str _)⟩
def fDivm (a b : W) (st : Sto) : Rt W := match intW a, intW b with
  | some i, some j => if 0 < j ∧ j.natAbs.log2 < 9000 then .ok (.fz (.tuple [.int (i / j), .int (i % j)])) st else .no
  | _, _ => .no
theorem q_divm : OpN cf E (fun xs H Q => ∃ i j, xs = [.int i, .int j] ∧ CDivP i j ∧ ∀ p, H p = none → Q (.ref p) (upd H p (.tup [.int (i / j), .int (i % j)]))) (f2 fDivm) := opN2 fun m st v u w x Q S r r' h => by
  unfold fDivm at h
  cases e : intW w with
  | none => rw [e] at h; exact h.elim
  | some i =>
    cases e' : intW x with
    | none => rw [e, e'] at h; exact h.elim
    | some j =>
      rw [e, e'] at h
      dsimp only at h
      split at h
      case isTrue c =>
        obtain rfl := intW_ok r e
        obtain rfl := intW_ok r' e'
        exact ⟨i, j, rfl, ⟨c.1, PyProof.noPylong_of_log2 c.2⟩, fun p hp => h _ _ (Rs.newTup S hp (.cons (.int _) (.cons (.int _) .nil)))⟩
      case isFalse => exact h.elim
theorem q_max2 : OpN cf E (fun xs H Q => ∃ i j, xs = [.int i, .int j] ∧ Q (.int (if j > i then j else i)) H) (f2 (f2I (fun _ _ => true) fun i j => .int (if j > i then j else i))) := opN2 fun m st v u w x Q S r r' h => by
  unfold f2I at h
  cases e : intW w with
  | none => rw [e] at h; exact h.elim
  | some i =>
    cases e' : intW x with
    | none => rw [e, e'] at h; exact h.elim
    | some j =>
      rw [e, e'] at h
      obtain rfl := intW_ok r e
      obtain rfl := intW_ok r' e'
      exact ⟨i, j, rfl, h.fz S (.int _)⟩
theorem q_min2 : OpN cf E (fun xs H Q => ∃ i j, xs = [.int i, .int j] ∧ Q (.int (if j < i then j else i)) H) (f2 (f2I (fun _ _ => true) fun i j => .int (if j < i then j else i))) := opN2 fun m st v u w x Q S r r' h => by
  unfold f2I at h
  cases e : intW w with
  | none => rw [e] at h; exact h.elim
  | some i =>
    cases e' : intW x with
    | none => rw [e, e'] at h; exact h.elim
    | some j =>
      rw [e, e'] at h
      obtain rfl := intW_ok r e
      obtain rfl := intW_ok r' e'
      exact ⟨i, j, rfl, h.fz S (.int _)⟩
/-! ### of lists -/
/-- a list's ints -/
def intL : List D → Option (List Int)
  | [] => some []
  | .int i :: l => (intL l).map fun r => i :: r
  | _ => none
@[simp] theorem intL_map (ns : List Int) : intL (ns.map PyData.int) = some ns := by
  induction ns with
  | nil => rfl
  | cons n ns ih => show (intL (ns.map PyData.int)).map _ = _; rw [ih]; rfl
def fInts (s : Sto → W → Option (List D)) (g : List Int → Option D) (w : W) (st : Sto) : Rt W := match ((s st w).bind intL).bind g with
  | some d => .ok (.fz d) st
  | none => .no
def fSum := fInts seqR fun ns => some (.int ns.sum)
def fSumT := fInts (fun _ => tupW) fun ns => some (.int ns.sum)
/-- the greatest, the least of ints -/
def maxL : List Int → Option Int
  | [] => none
  | n :: ns => some (ns.foldl max n)
def minL : List Int → Option Int
  | [] => none
  | n :: ns => some (ns.foldl min n)
def fMax := fInts seqR fun ns => (maxL ns).map PyData.int
def fMin := fInts seqR fun ns => (minL ns).map PyData.int
def blL : List D → Option (List Bool)
  | [] => some []
  | .bool i :: l => (blL l).map fun r => i :: r
  | _ => none
theorem blL_eq : ∀ {l : List D} {ns : List Bool}, blL l = some ns → l = ns.map PyData.bool
  | [], ns, e => by cases e; rfl
  | d :: l, ns, e => by
    cases d with
    | bool i =>
      unfold blL at e
      cases q : blL l with
      | none => rw [q] at e; cases e
      | some r => rw [q] at e; cases e; rw [blL_eq q]; rfl
    | _ => cases e
@[simp] theorem blL_map (ns : List Bool) : blL (ns.map PyData.bool) = some ns := by
  induction ns with
  | nil => rfl
  | cons n ns ih => show (blL (ns.map PyData.bool)).map _ = _; rw [ih]; rfl
def fBls (g : List Bool → Bool) (w : W) (st : Sto) : Rt W := match (seqR st w).bind blL with
  | some bs => .ok (.fz (.bool (g bs))) st
  | none => .no
theorem q_all : OpN cf E (rAll cf.K) (f1 (fBls fun bs => bs.all id)) := opN1 fun m st v w Q S r h => by
  unfold fBls at h
  cases e : seqR st w with
  | none => rw [e] at h; exact h.elim
  | some l =>
    rw [e, Option.bind_some] at h
    cases e2 : blL l with
    | none => rw [e2] at h; exact h.elim
    | some bs =>
      rw [e2] at h
      rw [blL_eq e2] at e
      obtain ⟨a, xs, rfl, hs, f⟩ := seqR_ok S r e
      rw [f.bls] at hs
      exact ⟨a, bs, rfl, hs, h.fz S (.bl _)⟩
/-- tuple(xs), list(xs) -/
def fTupOf (w : W) (st : Sto) : Rt W := match anyW st w with
  | some l => .ok (.fz (.tuple l)) st
  | none => .no
theorem q_tupOf : OpN cf E (fun xs H Q => ∃ p ys, xs = [.ref p] ∧ ((SqL cf.K H p ys ∧ ∀ l, H l = none → Q (.ref l) (upd H l (.tup ys))) ∨ (SqT cf.K H p ys ∧ Q (.ref p) H))) (f1 fTupOf) := opN1 fun m st v w Q S r h => by
  unfold fTupOf anyW at h
  cases e : tupW w with
  | some l =>
    rw [e] at h
    obtain ⟨a, xs, rfl, hs, f⟩ := tupW_ok r e
    exact ⟨a, xs, rfl, .inr ⟨hs.sq, h.fz S (.tup hs f)⟩⟩
  | none =>
    rw [e] at h
    dsimp only at h
    cases e2 : seqR st w with
    | none => rw [e2] at h; exact h.elim
    | some l =>
      rw [e2] at h
      obtain ⟨a, xs, rfl, hs, f⟩ := seqR_ok S r e2
      exact ⟨a, xs, rfl, .inl ⟨hs, fun p hp => h _ _ (Rs.newTup S hp f)⟩⟩
def fLstOf (w : W) (st : Sto) : Rt W := match anyW st w with
  | some l => .ok (.own l) st
  | none => .no
theorem q_lstOf : OpN cf E (fun xs H Q => ∃ p ys, xs = [.ref p] ∧ (SqL cf.K H p ys ∨ SqT cf.K H p ys) ∧ ∀ l, H l = none → Q (.ref l) (upd H l (.lst ys))) (f1 fLstOf) := opN1 fun m st v w Q S r h => by
  unfold fLstOf at h
  cases e : anyW st w with
  | none => rw [e] at h; exact h.elim
  | some l =>
    rw [e] at h
    obtain ⟨a, xs, rfl, hs, f⟩ := anyW_ok S r e
    exact ⟨a, xs, rfl, hs, fun p hp => h _ _ (Rs.new Stp.refl S hp f)⟩
/-! ### repr -/
def shOk (d : D) : Bool := plainE d && d.showable && decide (d.depth ≤ 60) && decide (d.shown.length ≤ 16777216)
def fRepr (w : W) (st : Sto) : Rt W := match lookW st w with
  | some d => if shOk d = true then .ok (.fz (.str d.shown)) st else .no
  | none => .no
theorem q_repr : OpN cf E (rReprX cf.K) (f1 fRepr) := opN1 fun m st v w Q S r h => by
  unfold fRepr at h
  cases e : lookW st w with
  | none => rw [e] at h; exact h.elim
  | some d =>
    rw [e] at h
    dsimp only at h
    split at h
    case isTrue c =>
      unfold shOk at c
      simp only [Bool.and_eq_true, decide_eq_true_eq, Bool.not_eq_true'] at c
      exact ⟨v, d, rfl, look_de S r e c.1.1.1, c.1.1.2, c.1.2, c.2, h.fz S (.str _)⟩
    case isFalse => exact h.elim
/-! ### methods -/
def dM (ty : Sto → W → Bool) (f : W → List W → Sto → Rt W) (a : Dn) (b : DnA) : Dn := fun en st => (a en st).bind fun x st1 => if ty st1 x = true then (b en st1).bind fun xs st2 => f x xs st2 else .no
def OpM' (cf : Cf) (E : XK) (T : String) (r : V → List V → Hp → VK → Prop) (ty : Sto → W → Bool) (f : W → List W → Sto → Rt W) : Prop :=
  (∀ m st v w, SR cf.K cf.ct m st → WR cf.K cf.ct m v w → ty st w = true → tyV cf.K T v m.hp) ∧
  ∀ m st v w vs ws Q, SR cf.K cf.ct m st → WR cf.K cf.ct m v w → WRs cf m vs ws → Pe cf E m Q (f w ws st) → r v vs m.hp Q
theorem ev_bm {T : String} {r : V → List V → Hp → VK → Prop} {ty : Sto → W → Bool} {f : W → List W → Sto → Rt W} {to : TE} {t : TA} {a : Dn} {b : DnA} (o : OpM' cf E T r ty f) (ha : Ev cf E to a) (hb : Ea cf E t b) : Ev cf E (tBM cf.K T r to t) (dM ty f a b) := fun m σ en st Q er S h => by
  refine ha m σ en st _ er S ?_
  unfold dM at h
  cases e : a en st with
  | ex c p st1 => rw [e] at h; exact h
  | no => rw [e] at h; exact h
  | ok x st1 =>
    rw [e, Rt.bind_ok] at h
    intro v m1 r1
    split at h
    case isFalse => exact h.elim
    case isTrue c =>
      refine ⟨o.1 m1 st1 v x r1.sr r1.wr c, hb m1 σ en st1 _ (er.to r1.stp) r1.sr ?_⟩
      cases e2 : b en st1 with
      | ex c p st2 => rw [e2] at h; exact Xe.pre r1.stp h
      | no => rw [e2] at h; exact h
      | ok xs st2 =>
        rw [e2, Rt.bind_ok] at h
        intro vs m2 s2 S2 r2
        exact o.2 m2 st2 v x vs xs Q S2 (r1.wr.to s2) r2 (Pe.pre (r1.stp.trans s2) h)
def isLst (st : Sto) (w : W) : Bool := (seqW st w).isSome
theorem isLst_ok (S : SR cf.K cf.ct m st) (r : WR cf.K cf.ct m v w) (h : isLst st w = true) : tyV cf.K "list" v m.hp := by
  unfold isLst at h
  cases e : seqW st w with
  | none => rw [e] at h; cases h
  | some l =>
    obtain ⟨a, xs, rfl, hs, _⟩ := seq_ok S r e
    exact .inl ⟨rfl, _, SqL.of hs⟩
/-- a change of a list: what it gives back, what it holds then -/
def fChg (g : List D → List W → Option (D × List D)) (w : W) (ws : List W) (st : Sto) : Rt W := match w with
  | .loc n => match st[n]? with
    | some (.lst l) => match g l ws with
      | some (d, l') => .ok (.fz d) (st.set n (.lst l'))
      | none => .no
    | _ => .no
  | _ => .no
theorem fChg_ok {g : List D → List W → Option (D × List D)} {ws : List W} {Q : VK} (S : SR cf.K cf.ct m st) (r : WR cf.K cf.ct m v w) (h : Pe cf E m Q (fChg g w ws st)) :
    ∃ a xs l d l', v = .ref a ∧ m.hp a = some (.lst xs) ∧ FzA cf.K cf.ct m xs l ∧ g l ws = some (d, l') ∧
      ∀ u ys, FzA cf.K cf.ct m ys l' → Fz cf.K cf.ct m u d → Q u (upd m.hp a (.lst ys)) := by
  cases w with
  | fz _ => exact h.elim
  | own _ => exact h.elim
  | nst _ => exact h.elim
  | loc n =>
    unfold fChg at h
    dsimp only at h
    obtain ⟨a, rfl, ha⟩ := r
    obtain ⟨o, ho, hb⟩ := S.get ha
    rw [ho] at h
    cases o with
    | dk _ => exact h.elim
    | ins _ _ => exact h.elim
    | tab _ _ => exact h.elim
    | lst l =>
      dsimp only at h
      obtain ⟨xs, e1, f⟩ := hb.lst_of
      cases e : g l ws with
      | none => rw [e] at h; exact h.elim
      | some p =>
        obtain ⟨d, l'⟩ := p
        rw [e] at h
        refine ⟨a, xs, l, d, l', rfl, e1, f, e, fun u ys f2 fu => ?_⟩
        have s := Stp.chg (m := m) (u := .lst ys) ha
        exact h u (m.to (upd m.hp a (.lst ys))) (.fz s (S.set ha ⟨_, upd_same, (f2.to s : FzA cf.K cf.ct _ _ _)⟩) (fu.to s))
def gApp (l : List D) (ws : List W) : Option (D × List D) := match ws with
  | [w] => match datW w with
    | some d => if l.length < sizeLine then some (.none, l ++ [d]) else none
    | none => none
  | _ => none
theorem q_app : OpM' cf E "list" rAppend isLst (fChg gApp) := by
  refine ⟨fun m st v w S r h => isLst_ok S r h, fun m st v w vs ws Q S r rs h => ?_⟩
  obtain ⟨a, xs, l, d, l', rfl, e1, f, e, k⟩ := fChg_ok S r h
  match ws, rs, e with
  | [w1], rs, e =>
    obtain ⟨v1, rfl, r1⟩ := rs.one
    unfold gApp at e
    dsimp only at e
    cases e2 : datW w1 with
    | none => rw [e2] at e; cases e
    | some d1 =>
      rw [e2] at e
      dsimp only at e
      split at e
      case isTrue c =>
        cases e
        exact ⟨a, xs, v1, rfl, rfl, e1, by rw [f.length]; exact c, k _ _ (f.append (.cons (dat_ok r1 e2) .nil)) .non⟩
      case isFalse => cases e
  | [], _, e => cases e
  | _ :: _ :: _, _, e => cases e
noncomputable def gIns (l : List D) (ws : List W) : Option (D × List D) := match ws with
  | [i, w] => match intW i, datW w with
    | some i, some d => @ite _ (l.length < sizeLine ∧ 0 ≤ i ∧ i < 2 ^ 63) (Classical.propDecidable _) (some (.none, l.take i.toNat ++ [d] ++ l.drop i.toNat)) none
    | _, _ => none
  | _ => none
def gExt (st : Sto) (l : List D) (ws : List W) : Option (D × List D) := match ws with
  | [w] => match seqW st w with
    | some z => if l.length + z.length ≤ sizeLine then some (.none, l ++ z) else none
    | none => none
  | _ => none
theorem q_ext : OpM' cf E "list" rExtend isLst (fun w ws st => fChg (gExt st) w ws st) := by
  refine ⟨fun m st v w S r h => isLst_ok S r h, fun m st v w vs ws Q S r rs h => ?_⟩
  obtain ⟨a, xs, l, d, l', rfl, e1, f, e, k⟩ := fChg_ok S r h
  match ws, rs, e with
  | [w1], rs, e =>
    obtain ⟨v1, rfl, r1⟩ := rs.one
    unfold gExt at e
    dsimp only at e
    cases e2 : seqW st w1 with
    | none => rw [e2] at e; cases e
    | some z =>
      rw [e2] at e
      dsimp only at e
      split at e
      case isTrue c =>
        cases e
        obtain ⟨b, ys, rfl, hb, fb⟩ := seq_ok S r1 e2
        exact ⟨a, b, xs, ys, rfl, rfl, e1, hb, by rw [f.length, fb.length]; exact c, k _ _ (f.append fb) .non⟩
      case isFalse => cases e
  | [], _, e => cases e
  | _ :: _ :: _, _, e => cases e
def gPop (l : List D) (ws : List W) : Option (D × List D) := match ws with
  | [] => match l[l.length - 1]? with
    | some d => some (d, l.dropLast)
    | none => none
  | _ => none
/-! ### slices -/
def OpSl (cf : Cf) (E : XK) (r : V → Option Int → Option Int → Hp → VK → Prop) (f : W → Option Int → Option Int → Sto → Rt W) : Prop := ∀ m st v w lo hi Q, SR cf.K cf.ct m st → WR cf.K cf.ct m v w → Pe cf E m Q (f w lo hi st) → r v lo hi m.hp Q
abbrev DnO := En → Sto → Rt (Option Int)
def Po (cf : Cf) (E : XK) (m : Mo) (Q : Option Int → Hp → Prop) : Rt (Option Int) → Prop
  | .ok o st => ∀ m', Stp m m' → SR cf.K cf.ct m' st → Q o m'.hp
  | .ex c p st => Xe cf E m c p st
  | .no => False
def Eo (cf : Cf) (E : XK) (t : TO) (d : DnO) : Prop := ∀ m σ en st Q, ER cf.K cf.ct m σ en → SR cf.K cf.ct m st → Po cf E m Q (d en st) → t σ m.hp Q
def oNone : DnO := fun _ st => .ok none st
def oSome (a : Dn) : DnO := fun en st => (a en st).bind fun x st1 => match intW x with
  | some i => .ok (some i) st1
  | none => .no
theorem eo_none : Eo cf E tNoPart oNone := fun m σ en st Q er S h => h m Stp.refl S
theorem eo_some {t : TE} {a : Dn} (ha : Ev cf E t a) : Eo cf E (tPart t) (oSome a) := fun m σ en st Q er S h => by
  refine ha m σ en st _ er S ?_
  unfold oSome at h
  cases e : a en st with
  | ex c p st1 => rw [e] at h; exact h
  | no => rw [e] at h; exact h
  | ok x st1 =>
    rw [e, Rt.bind_ok] at h
    intro v m1 r1
    cases e2 : intW x with
    | none => rw [e2] at h; exact h.elim
    | some i =>
      rw [e2] at h
      exact ⟨i, intW_ok r1.wr e2, h m1 r1.stp r1.sr⟩
def dSl (f : W → Option Int → Option Int → Sto → Rt W) (a : Dn) (lo hi : DnO) : Dn := fun en st => (a en st).bind fun x st1 => (lo en st1).bind fun l st2 => (hi en st2).bind fun u st3 => f x l u st3
theorem ev_sl {r : V → Option Int → Option Int → Hp → VK → Prop} {f : W → Option Int → Option Int → Sto → Rt W} {te : TE} {tl th : TO} {a : Dn} {lo hi : DnO} (o : OpSl cf E r f) (ha : Ev cf E te a) (hl : Eo cf E tl lo) (hh : Eo cf E th hi) : Ev cf E (tSl r te tl th) (dSl f a lo hi) := fun m σ en st Q er S h => by
  refine ha m σ en st _ er S ?_
  unfold dSl at h
  cases e : a en st with
  | ex c p st1 => rw [e] at h; exact h
  | no => rw [e] at h; exact h
  | ok x st1 =>
    rw [e, Rt.bind_ok] at h
    intro v m1 r1
    refine hl m1 σ en st1 _ (er.to r1.stp) r1.sr ?_
    cases e2 : lo en st1 with
    | ex c p st2 => rw [e2] at h; exact Xe.pre r1.stp h
    | no => rw [e2] at h; exact h
    | ok l st2 =>
      rw [e2, Rt.bind_ok] at h
      intro m2 s2 S2
      have s12 := r1.stp.trans s2
      refine hh m2 σ en st2 _ (er.to s12) S2 ?_
      cases e3 : hi en st2 with
      | ex c p st3 => rw [e3] at h; exact Xe.pre s12 h
      | no => rw [e3] at h; exact h
      | ok u st3 =>
        rw [e3, Rt.bind_ok] at h
        intro m3 s3 S3
        exact o m3 st3 v x l u Q S3 (r1.wr.to (s2.trans s3)) (Pe.pre (s12.trans s3) h)
def cutD (l : List D) (lo hi : Option Int) : List D := (l.drop (HT.sIx l.length 0 lo)).take (HT.sIx l.length l.length hi - HT.sIx l.length 0 lo)
theorem cut_rel {xs : List V} {l : List D} {lo hi : Option Int} (f : FzA cf.K cf.ct m xs l) : FzA cf.K cf.ct m (cutV xs lo hi) (cutD l lo hi) := by
  unfold cutV cutD
  rw [f.length]
  exact (f.drop _).take _
def fSlL (w : W) (lo hi : Option Int) (st : Sto) : Rt W := match seqR st w with
  | some l => .ok (.own (cutD l lo hi)) st
  | none => .no
theorem q_slL : OpSl cf E (rSlL cf.K) fSlL := fun m st v w lo hi Q S r h => by
  unfold fSlL at h
  cases e : seqR st w with
  | none => rw [e] at h; exact h.elim
  | some l =>
    rw [e] at h
    obtain ⟨a, xs, rfl, hs, f⟩ := seqR_ok S r e
    exact ⟨a, xs, rfl, hs, fun p hp => h _ _ (Rs.new Stp.refl S hp (cut_rel f))⟩
def fSlS (w : W) (lo hi : Option Int) (st : Sto) : Rt W := match strW w with
  | some z => if z.length ≤ sizeLine then .ok (.fz (.str (cutS z lo hi))) st else .no
  | none => .no
theorem q_slS : OpSl cf E rSlS fSlS := fun m st v w lo hi Q S r h => by
  unfold fSlS at h
  cases e : strW w with
  | none => rw [e] at h; exact h.elim
  | some z =>
    rw [e] at h
    dsimp only at h
    split at h
    case isTrue c => exact ⟨z, strW_ok r e, c, h.fz S (.str _)⟩
    case isFalse => exact h.elim
end
end QD
/-! QK: the hand layer's rules with the written part named, so that they serve within comprehensions. -/
namespace QD
open PySem PySem.Spec PyProof.Rows L2 MG LT
abbrev rLenQ (K : PySem.W.Frag) : List V → Hp → VK → Prop := fun xs H Q => ∃ p ys, xs = [.ref p] ∧ (SqL K H p ys ∨ SqT K H p ys) ∧ Q (.int ys.length) H
abbrev rLenV (K : PySem.W.Frag) : List V → Hp → VK → Prop := fun xs H Q => ∃ x n, xs = [x] ∧ LenV K x H n ∧ Q (.int n) H
abbrev rLstOf (K : PySem.W.Frag) : List V → Hp → VK → Prop := fun xs H Q => ∃ p ys, xs = [.ref p] ∧ (SqL K H p ys ∨ SqT K H p ys) ∧ ∀ l, H l = none → Q (.ref l) (upd H l (.lst ys))
abbrev rTupOf (K : PySem.W.Frag) : List V → Hp → VK → Prop := fun xs H Q => ∃ p ys, xs = [.ref p] ∧ ((SqL K H p ys ∧ ∀ l, H l = none → Q (.ref l) (upd H l (.tup ys))) ∨ (SqT K H p ys ∧ Q (.ref p) H))
section
variable {X : Cx} {a b c o e : Expr} {es : List Expr} {ta te to : TE} {t : TA} {tg l : Expr} {pos : Pos}
theorem op_inK (K : PySem.W.Frag) (h : X.K = K := by rfl) : OpR X (compareOp .In) (rIn K false) := by subst h; exact op_in_seq
theorem op_eqDK (K : PySem.W.Frag) (hu : X.A.units + 64 < cLine) (h : X.K = K := by rfl) : OpR X (compareOp .Eq) (rEqD K) := by subst h; exact op_eqD hu
theorem op_neDK (K : PySem.W.Frag) (hu : X.A.units + 64 < cLine) (h : X.K = K := by rfl) : OpR X (compareOp .NotEq) (rNeD K) := by subst h; exact op_neD hu
theorem op_catAK (K : PySem.W.Frag) (h : X.K = K := by rfl) : OpR X (binaryOp .Add) (rCatA K) := by subst h; exact op_catA
theorem ix_listK (K : PySem.W.Frag) (h : X.K = K := by rfl) : IxR X (rIxL K) := by subst h; exact ix_list
theorem ix_tupK (K : PySem.W.Frag) (h : X.K = K := by rfl) : IxR X (rIxT K) := by subst h; exact ix_tup
theorem sl_listK (K : PySem.W.Frag) (h : X.K = K := by rfl) : SlR X (rSlL K) := by subst h; exact sl_list
theorem call_lenQ (K : PySem.W.Frag) (h : X.K = K := by rfl) : CallR X (.builtin "len") (rLenQ K) := by subst h; exact call_len_seq
theorem call_lstOf (K : PySem.W.Frag) (h : X.K = K := by rfl) : CallR X (.type "list") (rLstOf K) := by subst h; exact call_list_of
theorem call_tupOf (K : PySem.W.Frag) (h : X.K = K := by rfl) : CallR X (.type "tuple") (rTupOf K) := by subst h; exact call_tuple_of
theorem cr_allK (K : PySem.W.Frag) (hc : X.calm = true) (h : X.K = K := by rfl) : CallR X (.builtin "all") (rAll K) := by subst h; exact cr_all hc
theorem call_isiK (K : PySem.W.Frag) (h : X.K = K := by rfl) : CallR X (.builtin "isinstance") (rIsi K) := by subst h; exact call_isi
theorem call_reprU (K : PySem.W.Frag) (hgd : X.A.guards = some []) (hu : X.A.units + 64 < cLine) (h : X.K = K := by rfl) : CallR X (.builtin "repr") (rReprX K) := by subst h; exact call_reprX hgd hu
def tTru (K : PySem.W.Frag) (t : TE) : TT := fun σ H Q => t σ H fun x H' => ∃ k, TruV K x H' k ∧ Q k H'
theorem pt_truK (K : PySem.W.Frag) (ha : PE X a ta) (he : ∀ whole, isTrue a X.env whole = (do let v ← whole; standAt a.pos; holding [v] (truthy v))) (h : X.K = K := by rfl) : PT X a (tTru K ta) := by subst h; exact pt_truth ha he
theorem pi_listK (K : PySem.W.Frag) {tl : TE} (hl : PE X l tl) (h : X.K = K := by rfl) : PI X tg l (iList K tl) := by subst h; exact pi_list hl
theorem pi_tupK (K : PySem.W.Frag) {tl : TE} (hl : PE X l tl) (h : X.K = K := by rfl) : PI X tg l (iTup K tl) := by subst h; exact pi_tup hl
theorem pg_tupK (K : PySem.W.Frag) {es : List Expr} {k : Nat} {t : TGs} {n : Nat} (hc : X.calm = true) (h : PGs X es t) (hn : (assignEach es X.env).length = n := by rfl) (hst : (assignEach es X.env).findIdx? (·.1) = none := by rfl)
    (hk : X.K = K := by rfl) : PG X (.Tuple es k pos) (gTup K n t) := by subst hk; exact pg_tup hc h hn hst
end
section
variable {cf : Cf} {E : XK}
theorem et_truK {t : TE} {a : Dn} (ha : Ev cf E t a) : Et cf E (tTru cf.K t) (bTru a) := et_tru ha
end
/-! ### methods of lists -/
section
variable {X : Cx} {T : String} {name : Str} {id : String} {r : V → List V → Hp → VK → Prop} {o e : Expr} {es : List Expr} {to : TE} {t : TA} {apos pos : Pos}
end
end QD
/-! QS: how denotations are reckoned out. -/
namespace QD
open PySem PySem.Spec PyProof.Rows L2 MG
section
variable {en en1 : En} {st st1 : Sto} {a b c : Dn} {α β : Type}
@[simp] theorem dVar_eq {i : Nat} : dVar i en st = match en[i]? with
  | some (some w) => .ok w st
  | _ => .no := (rfl)
@[simp] theorem dC_eq {d : D} : dC d en st = .ok (.fz d) st := (rfl)
@[simp] theorem dOp_eq {f : W → W → Sto → Rt W} : dOp f a b en st = (a en st).bind fun x st1 => (b en st1).bind fun y st2 => f x y st2 := (rfl)
@[simp] theorem dUn_eq {f : W → Sto → Rt W} : dUn f a en st = (a en st).bind fun x st1 => f x st1 := (rfl)
@[simp] theorem aNil_eq : aNil en st = .ok [] st := (rfl)
@[simp] theorem aCons_eq {x : DnA} : aCons a x en st = (a en st).bind fun y st1 => (x en st1).bind fun xs st2 => .ok (y :: xs) st2 := (rfl)
@[simp] theorem dN_eq {f : List W → Sto → Rt W} {x : DnA} : dN f x en st = (x en st).bind fun xs st1 => f xs st1 := (rfl)
@[simp] theorem f1_eq {f : W → Sto → Rt W} {w : W} : f1 f [w] st = f w st := (rfl)
@[simp] theorem f2_eq {f : W → W → Sto → Rt W} {w x : W} : f2 f [w, x] st = f w x st := (rfl)
@[simp] theorem dLoc_eq : dLoc a en st = (a en st).bind fun x st1 => match x with
  | .own l => .ok (.loc st1.length) (st1 ++ [.lst l])
  | _ => .no := (rfl)
@[simp] theorem bT_eq : bT a en st = (a en st).bind fun x st1 => match tst x with
  | some b => .ok b st1
  | none => .no := (rfl)
@[simp] theorem tst_b {x : Bool} : tst (.fz (.bool x)) = some x := (rfl)
@[simp] theorem bAnd_eq {x y : DnT} : bAnd x y en st = (x en st).bind fun z st1 => if z = true then y en st1 else .ok false st1 := (rfl)
@[simp] theorem bOr_eq {x y : DnT} : bOr x y en st = (x en st).bind fun z st1 => if z = true then .ok true st1 else y en st1 := (rfl)
@[simp] theorem bNot_eq {x : DnT} : bNot x en st = (x en st).bind fun z st1 => .ok (!z) st1 := (rfl)
@[simp] theorem bTru_eq : bTru a en st = (a en st).bind fun x st1 => match truW st1 x with
  | some b => .ok b st1
  | none => .no := (rfl)
@[simp] theorem dAnd_eq : dAnd a b en st = (a en st).bind fun x st1 => match tst x with
  | some true => b en st1
  | some false => .ok (.fz (.bool false)) st1
  | none => .no := (rfl)
@[simp] theorem dOr_eq : dOr a b en st = (a en st).bind fun x st1 => match tst x with
  | some true => .ok (.fz (.bool true)) st1
  | some false => b en st1
  | none => .no := (rfl)
@[simp] theorem dNot_eq : dNot a en st = (a en st).bind fun x st1 => match tst x with
  | some b => .ok (.fz (.bool (!b))) st1
  | none => .no := (rfl)
@[simp] theorem dIf_eq {x : DnT} : dIf x a b en st = (x en st).bind fun z st1 => if z = true then a en st1 else b en st1 := (rfl)
@[simp] theorem dChain_eq {f g : W → W → Sto → Rt W} : dChain f g a b c en st = (a en st).bind fun x st1 => (b en st1).bind fun y st2 => (f x y st2).bind fun z st3 => match tst z with
  | some true => (c en st3).bind fun u st4 => g y u st4
  | some false => .ok (.fz (.bool false)) st3
  | none => .no := (rfl)
@[simp] theorem sNext_eq : sNext en st = .go en st := (rfl)
@[simp] theorem sSeq_eq {x y : DnS} : sSeq x y en st = match x en st with
  | .go en1 st1 => y en1 st1
  | r => r := (rfl)
@[simp] theorem sDrop_eq : sDrop a en st = sBind (a en st) fun _ st1 => .go en st1 := (rfl)
@[simp] theorem sRet_eq : sRet a en st = sBind (a en st) fun x st1 => .rt x st1 := (rfl)
@[simp] theorem sRetN_eq : sRetN en st = .rt (.fz .none) st := (rfl)
@[simp] theorem sIf_eq {x : DnT} {y z : DnS} : sIf x y z en st = sBind (x en st) fun b st1 => if b = true then y en st1 else z en st1 := (rfl)
@[simp] theorem sSet_eq {i : Nat} : sSet i a en st = sBind (a en st) fun x st1 => .go (en.set i (some (frz x))) st1 := (rfl)
@[simp] theorem sPar_eq {i j : Nat} {x : DnA} : sPar i j x en st = sBind (x en st) fun xs st1 => match xs with
  | [x, y] => .go ((en.set i (some (frz x))).set j (some (frz y))) st1
  | _ => .no := (rfl)
@[simp] theorem sPar3_eq {i j l : Nat} {x : DnA} : sPar3 i j l x en st = sBind (x en st) fun xs st1 => match xs with
  | [x, y, z] => .go (((en.set i (some (frz x))).set j (some (frz y))).set l (some (frz z))) st1
  | _ => .no := (rfl)
@[simp] theorem sAsg_eq {g : DnG} : sAsg a g en st = sBind (a en st) fun x st1 => match g x en st1 with
  | .ok en2 st2 => .go en2 st2
  | .ex c p st2 => .ex c p st2
  | .no => .no := (rfl)
@[simp] theorem gN_eq {i : Nat} {w : W} : gN i w en st = .ok (en.set i (some (frz w))) st := (rfl)
@[simp] theorem gT_eq {n : Nat} {gs : List D → En → Sto → Rt En} {ds : List D} : gT n gs (.fz (.tuple ds)) en st = if ds.length = n then gs ds en st else .no := (rfl)
@[simp] theorem gsNil_eq : gsNil [] en st = .ok en st := (rfl)
@[simp] theorem gsCons_eq {g : DnG} {gs : List D → En → Sto → Rt En} {d : D} {ds : List D} : gsCons g gs (d :: ds) en st = (g (.fz d) en st).bind fun en1 st1 => gs ds en1 st1 := (rfl)
@[simp] theorem gSb_eq {f : W → W → W → Sto → Option Sto} {w : W} : gSb f a b w en st = (a en st).bind fun x st1 => (b en st1).bind fun y st2 => match f x y w st2 with
  | some st3 => .ok en st3
  | none => .no := (rfl)
@[simp] theorem frz_fz {d : D} : frz (.fz d) = .fz d := (rfl)
@[simp] theorem frz_own {l : List D} : frz (.own l) = .fz (.list l) := (rfl)
@[simp] theorem frz_loc {n : Nat} : frz (.loc n) = .loc n := (rfl)
@[simp] theorem intW_fz {i : Int} : intW (.fz (.int i)) = some i := (rfl)
@[simp] theorem strW_fz {i : Str} : strW (.fz (.str i)) = some i := (rfl)
@[simp] theorem tupW_fz {l : List D} : tupW (.fz (.tuple l)) = some l := (rfl)
@[simp] theorem tupW_list {l : List D} : tupW (.fz (.list l)) = none := (rfl)
@[simp] theorem tupW_own {l : List D} : tupW (.own l) = none := (rfl)
@[simp] theorem tupW_loc {n : Nat} : tupW (.loc n) = none := (rfl)
@[simp] theorem datW_fz {d : D} : datW (.fz d) = some d := (rfl)
@[simp] theorem datW_own {l : List D} : datW (.own l) = some (.list l) := (rfl)
@[simp] theorem datWs_nil : datWs [] = some [] := (rfl)
@[simp] theorem datWs_cons {w : W} {ws : List W} : datWs (w :: ws) = match datW w, datWs ws with
  | some d, some ds => some (d :: ds)
  | _, _ => none := (rfl)
@[simp] theorem fTup_eq {ws : List W} : fTup ws st = match datWs ws with
  | some ds => if ds.length ≤ sizeLine then .ok (.fz (.tuple ds)) st else .no
  | none => .no := (rfl)
@[simp] theorem fLst_eq {ws : List W} : fLst ws st = match datWs ws with
  | some ds => if ds.length ≤ sizeLine then .ok (.own ds) st else .no
  | none => .no := (rfl)
@[simp] theorem noneW_none : noneW (.fz .none) = true := (rfl)
@[simp] theorem noneW_int {i : Int} : noneW (.fz (.int i)) = false := (rfl)
@[simp] theorem noneW_tup {i : List D} : noneW (.fz (.tuple i)) = false := (rfl)
@[simp] theorem noneW_str {i : Str} : noneW (.fz (.str i)) = false := (rfl)
@[simp] theorem fIs_eq {neg : Bool} {x y : W} : fIs neg x y st = if noneW y = true then .ok (.fz (.bool (if neg = true then !noneW x else noneW x))) st else .no := (rfl)
/-! ### lists -/
@[simp] theorem seqW_fz {l : List D} : seqW st (.fz (.list l)) = some l := (rfl)
@[simp] theorem seqW_own {l : List D} : seqW st (.own l) = some l := (rfl)
theorem seqW_loc {n : Nat} {l : List D} (h : st[n]? = some (.lst l)) : seqW st (.loc n) = some l := by unfold seqW; dsimp only; rw [h]
@[simp] theorem seqR_fz {l : List D} : seqR st (.fz (.list l)) = some l := (rfl)
@[simp] theorem seqR_ro {l : List D} : seqR st (.fz (roD l)) = some l := (rfl)
@[simp] theorem seqR_own {l : List D} : seqR st (.own l) = some l := (rfl)
@[simp] theorem seqR_loc {n : Nat} : seqR st (.loc n) = seqW st (.loc n) := (rfl)
@[simp] theorem anyW_tup {l : List D} : anyW st (.fz (.tuple l)) = some l := (rfl)
@[simp] theorem anyW_list {l : List D} : anyW st (.fz (.list l)) = some l := (rfl)
@[simp] theorem anyW_own {l : List D} : anyW st (.own l) = some l := (rfl)
@[simp] theorem anyW_ro {l : List D} : anyW st (.fz (roD l)) = some l := (rfl)
@[simp] theorem anyW_loc {n : Nat} : anyW st (.loc n) = seqW st (.loc n) := (rfl)
@[simp] theorem isLst_loc {n : Nat} : isLst st (.loc n) = (seqW st (.loc n)).isSome := (rfl)
@[simp] theorem lookW_fz {d : D} : lookW st (.fz d) = some d := (rfl)
@[simp] theorem lookW_own {l : List D} : lookW st (.own l) = some (.list l) := (rfl)
@[simp] theorem exitW_fz {n : Nat} {d : D} : exitW n (.fz d) st = some (.fz d, st.take n) := (rfl)
@[simp] theorem exitW_own {n : Nat} {l : List D} : exitW n (.own l) st = some (.own l, st.take n) := (rfl)
@[simp] theorem exitD_rt {n : Nat} {w : W} : exitD n (.rt w st) = match exitW n w st with
  | some (w', st') => .ok w' st'
  | none => .no := (rfl)
@[simp] theorem exitD_go {n : Nat} : exitD n (.go en st) = .ok (.fz .none) (st.take n) := (rfl)
theorem atI_n {α : Type} {l : List α} {n : Nat} : atI l ((n : Nat) : Int) = l[n]? := by
  unfold atI ixN
  rw [if_pos (Int.natCast_nonneg n)]
  by_cases h : ((n : Nat) : Int) < (l.length : Int)
  · rw [if_pos h]; rfl
  · rw [if_neg h, List.getElem?_eq_none (by omega)]; rfl
@[simp] theorem atI_0 {α : Type} {l : List α} : atI l 0 = l[0]? := atI_n (n := 0)
@[simp] theorem atI_1 {α : Type} {l : List α} : atI l 1 = l[1]? := atI_n (n := 1)
@[simp] theorem atI_2 {α : Type} {l : List α} : atI l 2 = l[2]? := atI_n (n := 2)
@[simp] theorem atI_3 {α : Type} {l : List α} : atI l 3 = l[3]? := atI_n (n := 3)
@[simp] theorem atI_4 {α : Type} {l : List α} : atI l 4 = l[4]? := atI_n (n := 4)
@[simp] theorem atI_5 {α : Type} {l : List α} : atI l 5 = l[5]? := atI_n (n := 5)
theorem atI_i {α : Type} {l : List α} {i : Int} (h : 0 ≤ i) : atI l i = l[i.toNat]? := by
  rw [← atI_n (l := l) (n := i.toNat), Int.toNat_of_nonneg h]
theorem ixN_n {n m : Nat} : ixN n ((m : Nat) : Int) = if m < n then some m else none := by
  unfold ixN
  rw [if_pos (Int.natCast_nonneg m)]
  by_cases h : m < n
  · rw [if_pos h, if_pos (by omega)]; rfl
  · rw [if_neg h, if_neg (by omega)]
@[simp] theorem ixN_0 {n : Nat} : ixN n 0 = if 0 < n then some 0 else none := ixN_n (m := 0)
@[simp] theorem ixN_1 {n : Nat} : ixN n 1 = if 1 < n then some 1 else none := ixN_n (m := 1)
@[simp] theorem ixN_2 {n : Nat} : ixN n 2 = if 2 < n then some 2 else none := ixN_n (m := 2)
@[simp] theorem f2I_eq {C : Int → Int → Bool} {g : Int → Int → D} {i j : Int} : f2I C g (.fz (.int i)) (.fz (.int j)) st = if C i j = true then .ok (.fz (g i j)) st else .no := (rfl)
@[simp] theorem f1I_eq {g : Int → D} {i : Int} : f1I g (.fz (.int i)) st = .ok (.fz (g i)) st := (rfl)
@[simp] theorem fIxL_eq {x : W} {i : Int} : fIxL x (.fz (.int i)) st = match seqR st x with
  | some l => match atI l i with
    | some d => .ok (.fz d) st
    | none => .no
  | none => .no := by unfold fIxL; cases seqR st x <;> rfl
@[simp] theorem fIxT_eq {l : List D} {i : Int} : fIxT (.fz (.tuple l)) (.fz (.int i)) st = match atI l i with
    | some d => .ok (.fz d) st
    | none => .no := (rfl)
@[simp] theorem fIxS_eq {z : Str} {i : Int} : fIxS (.fz (.str z)) (.fz (.int i)) st = if z.length ≤ sizeLine then match atI z.cps.toList i with
    | some c => .ok (.fz (.str ⟨#[c]⟩)) st
    | none => .no
    else .no := (rfl)
@[simp] theorem fDivm_eq {i j : Int} : fDivm (.fz (.int i)) (.fz (.int j)) st = if 0 < j ∧ j.natAbs.log2 < 9000 then .ok (.fz (.tuple [.int (i / j), .int (i % j)])) st else .no := (rfl)
theorem fSetL_eq {n : Nat} {k : Int} {w : W} {l : List D} {d : D} (h : st[n]? = some (.lst l)) (e : datW w = some d) : fSetL (.loc n) (.fz (.int k)) w st = match ixN l.length k with
    | some j => some (st.set n (.lst (l.set j d)))
    | none => none := by unfold fSetL; rw [e]; simp only [intW_fz]; rw [h] <;> rfl
@[simp] theorem dCall_eq {n : Nat} {F : Fd} {ds : List W} {x : DnA} : dCall n F ds x en st = (x en st).bind fun ws st1 => if (ws.map frz ++ ds).length = n then F (ws.map frz ++ ds) st1 else .no := (rfl)
@[simp] theorem take_set_of {α : Type} {l : List α} {n k : Nat} {x : α} (h : k = l.length) : (l.set n x).take k = l.set n x := by rw [List.take_of_length_le (by rw [List.length_set]; omega)]
end
end QD
/-! QO: objects: fields, making, properties, methods; texts put together. -/
namespace QD
open PySem PySem.Spec PyProof.Rows L2 MG LT
section
variable {cf : Cf} {E : XK} {m m1 : Mo} {st : Sto} {v u : V} {w x : W}
/-! ### fields -/
/-- the field f of an object of the class c, whose frozen objects have the fields ns -/
def fldW (c : Nat) (ns : List Str) (f : Str) (st : Sto) : W → Option D
  | .fz (.dict [(.int k, .tuple ds)]) => if k = c ∧ ns.length = ds.length then (ns.zip ds).lookup f else none
  | .loc n => match st[n]? with
    | some (.ins k fs) => if k = c then fs.lookup f else none
    | _ => none
  | _ => none
theorem SvA.lookup {vs : List (Str × V)} {fs : List (Str × D)} {f : Str} {d : D} (h : SvA cf.K cf.ct m vs fs) (e : fs.lookup f = some d) : ∃ v, vs.lookup f = some v ∧ Fz cf.K cf.ct m v d := by
  have h' : Paired (fun (p : Str × V) (q : Str × D) => p.1 = q.1 ∧ Fz cf.K cf.ct m p.2 q.2) vs fs := h
  clear h
  induction h' with
  | nil => cases e
  | @cons a b as bs r t ih =>
    obtain ⟨x, y⟩ := a
    obtain ⟨x', y'⟩ := b
    obtain ⟨e1, r⟩ := r
    dsimp only at e1 r
    subst e1
    rw [List.lookup_cons] at e ⊢
    cases c : f == x with
    | true =>
      rw [c] at e
      cases e
      exact ⟨y, rfl, r⟩
    | false =>
      rw [c] at e
      exact ih e
theorem zip_lookup : ∀ {ns : List Str} {xs : List V} {ds : List D} {f : Str} {d : D}, FzA cf.K cf.ct m xs ds → (ns.zip ds).lookup f = some d → ∃ v, (ns.zip xs).lookup f = some v ∧ Fz cf.K cf.ct m v d
  | [], _, _, _, _, _, e => by cases e
  | n :: ns, _, _, _, _, .nil, e => by cases e
  | n :: ns, _, _, f, _, .cons a b, e => by
    rw [List.zip_cons_cons, List.lookup_cons] at e ⊢
    cases c : f == n with
    | true =>
      rw [c] at e
      cases e
      exact ⟨_, rfl, a⟩
    | false =>
      rw [c] at e
      exact zip_lookup b e
theorem fldW_ok {c : Nat} {C : Addr} {ns : List Str} {f : Str} {d : D} (hc : cf.ct c = some (C, ns)) (S : SR cf.K cf.ct m st) (r : WR cf.K cf.ct m v w) (e : fldW c ns f st w = some d) :
    ∃ a dx fs y, v = .ref a ∧ m.hp a = some (.ins C dx fs) ∧ fs.lookup f = some y ∧ Fz cf.K cf.ct m y d := by
  unfold fldW at e
  split at e
  case h_1 k ds =>
    split at e
    case isTrue h =>
      cases r with
      | @ob a C' dx c' ns' xs _ h1 h2 h3 h4 h5 h6 =>
        have hk : c' = c := by have := h.1; omega
        subst hk
        rw [hc] at h1
        cases h1
        obtain ⟨y, hy, fy⟩ := zip_lookup h6 e
        exact ⟨a, dx, _, y, rfl, h4, hy, fy⟩
    case isFalse => cases e
  case h_2 n =>
    obtain ⟨a, rfl, ha⟩ := r
    obtain ⟨o, ho, u, eu, hb⟩ := S.get ha
    rw [ho] at e
    cases o with
    | lst l => cases e
    | dk l => cases e
    | tab _ _ => cases e
    | ins k fs =>
      dsimp only at e
      split at e
      case isTrue h =>
        subst h
        obtain ⟨C', dx, ns', vs, rfl, h1, h2⟩ := hb.ins_of
        rw [hc] at h1
        cases h1
        obtain ⟨y, hy, fy⟩ := h2.lookup e
        exact ⟨a, dx, vs, y, rfl, eu, hy, fy⟩
      case isFalse => cases e
  case h_3 => cases e
def dFld (c : Nat) (ns : List Str) (f : Str) (a : Dn) : Dn := fun en st => (a en st).bind fun x st1 => match fldW c ns f st1 x with
  | some d => .ok (.fz d) st1
  | none => .no
theorem ev_fld {c : Nat} {C : Addr} {ns : List Str} {f : Str} {t : TE} {a : Dn} (hc : cf.ct c = some (C, ns)) (cl : Cls cf.K C) (na : NoAttr cf.K C f) (ha : Ev cf E t a) : Ev cf E (tFld cf.K t f) (dFld c ns f a) := fun m σ en st Q er S h => by
  refine ha m σ en st _ er S ?_
  unfold dFld at h
  cases e : a en st with
  | ex c p st1 => rw [e] at h; exact h
  | no => rw [e] at h; exact h
  | ok x st1 =>
    rw [e, Rt.bind_ok] at h
    intro v m1 r1
    cases e2 : fldW c ns f st1 x with
    | none => rw [e2] at h; exact h.elim
    | some d =>
      rw [e2] at h
      obtain ⟨b, dx, fs, y, rfl, hb, hy, fy⟩ := fldW_ok hc r1.sr r1.wr e2
      exact ⟨b, C, dx, fs, y, rfl, hb, cl, na, hy, h y m1 (.fz r1.stp r1.sr fy)⟩
def putD (f : Str) (d : D) : List (Str × D) → List (Str × D)
  | [] => [(f, d)]
  | (g, x) :: r => if g = f then (g, d) :: r else (g, x) :: putD f d r
theorem SvA.put {vs : List (Str × V)} {fs : List (Str × D)} {f : Str} {d : D} {y : V} (h : SvA cf.K cf.ct m vs fs) (fy : Fz cf.K cf.ct m y d) : SvA cf.K cf.ct m (putF f y vs) (putD f d fs) := by
  have h' : Paired (fun (p : Str × V) (q : Str × D) => p.1 = q.1 ∧ Fz cf.K cf.ct m p.2 q.2) vs fs := h
  clear h
  induction h' with
  | nil => exact .cons ⟨rfl, fy⟩ .nil
  | @cons a b as bs r t ih =>
    obtain ⟨x, z⟩ := a
    obtain ⟨x', z'⟩ := b
    obtain ⟨e1, r⟩ := r
    dsimp only at e1 r
    subst e1
    unfold putF putD
    by_cases c : x = f
    · rw [if_pos c, if_pos c]; exact .cons ⟨rfl, fy⟩ t
    · rw [if_neg c, if_neg c]; exact .cons ⟨rfl, r⟩ ih
theorem SvA.length {vs : List (Str × V)} {fs : List (Str × D)} (h : SvA cf.K cf.ct m vs fs) : vs.length = fs.length := Paired.len h
def sFldD (c : Nat) (f : Str) (a b : Dn) : DnS := fun en st => sBind (b en st) fun y st1 => sBind (a en st1) fun x st2 => match x, datW y with
  | .loc n, some d => match st2[n]? with
    | some (.ins k fs) => if k = c ∧ fs.length < 1000 then .go en (st2.set n (.ins k (putD f d fs))) else .no
    | _ => .no
  | _, _ => .no
theorem es_fld {c : Nat} {C : Addr} {ns : List Str} {f : Str} {ta tv : TE} {a b : Dn} (hc : cf.ct c = some (C, ns)) (cl : Cls cf.K C) (na : NoAttr cf.K C f) (ha : Ev cf E ta a) (hb : Ev cf E tv b) : Es cf E (sFld cf.K ta tv f) (sFldD c f a b) := fun m σ en st D er S h => by
  refine hb m σ en st _ er S ?_
  unfold sFldD at h
  cases e : b en st with
  | ex c p st1 => rw [e] at h; exact h
  | no => rw [e] at h; exact h
  | ok y st1 =>
    rw [e, sBind_ok] at h
    intro v m1 r1
    refine ha m1 σ en st1 _ (er.to r1.stp) r1.sr ?_
    cases e2 : a en st1 with
    | ex c p st2 => rw [e2] at h; exact Xe.pre r1.stp h
    | no => rw [e2] at h; exact h
    | ok x st2 =>
      rw [e2, sBind_ok] at h
      intro u m2 r2
      cases x with
      | fz _ => exact h.elim
      | own _ => exact h.elim
      | nst _ => exact h.elim
      | loc n =>
        cases e3 : datW y with
        | none => rw [e3] at h; exact h.elim
        | some d =>
          rw [e3] at h
          dsimp only at h
          obtain ⟨b', rfl, hb'⟩ := r2.wr
          obtain ⟨o, ho, u', eu, hr⟩ := r2.sr.get hb'
          rw [ho] at h
          cases o with
          | lst l => exact h.elim
          | dk l => exact h.elim
          | tab _ _ => exact h.elim
          | ins k fs =>
            dsimp only at h
            split at h
            case isFalse => exact h.elim
            case isTrue hk =>
              obtain ⟨rfl, hl⟩ := hk
              obtain ⟨C', dx, ns', vs, rfl, h1, h2⟩ := hr.ins_of
              have h1' := h1
              rw [hc] at h1'
              cases h1'
              refine ⟨b', C, dx, vs, rfl, eu, cl, na, by rw [h2.length]; exact hl, ?_⟩
              have fy := dat_ok (r1.wr.to r2.stp) e3
              have s3 := Stp.chg (m := m2) (u := .ins C dx (putF f v vs)) hb'
              have h3 : SvA cf.K cf.ct (m2.to (upd m2.hp b' (.ins C dx (putF f v vs)))) (putF f v vs) (putD f d fs) := Paired.mapP (h2.put fy) fun p q z => ⟨z.1, z.2.to s3⟩
              exact h σ _ ((r1.stp.trans r2.stp).trans s3) (er.to ((r1.stp.trans r2.stp).trans s3)) (r2.sr.set hb' ⟨_, upd_same, ⟨_, hc⟩, h3⟩)
/-! ### making -/
/-- an object that never changes: its fields must be ns in order -/
def frzOb (c : Nat) (ns : List Str) (n : Nat) (st : Sto) : Option (W × Sto) := match st[n]? with
  | some (.ins k fs) => if k = c ∧ fs.map (·.1) = ns then some (.fz (obD c (fs.map (·.2))), st.take n) else none
  | _ => none
/-- an object that changes -/
def locOb (n : Nat) (st : Sto) : Option (W × Sto) := some (.loc n, st)
def dMake (n c : Nat) (fin : Nat → Sto → Option (W × Sto)) (F : Fd) (ds : List W) (a : DnA) : Dn := fun en st => (a en st).bind fun ws st1 =>
  if (ws.map frz ++ ds).length + 1 = n then (F (.loc st1.length :: (ws.map frz ++ ds)) (st1 ++ [.ins c []])).bind fun r st2 => if noneW r = true ∧ st2.length = st1.length + 1 then match fin st1.length st2 with
    | some (w, st3) => .ok w st3
    | none => .no
    else .no
  else .no
def FinOk (cf : Cf) (c : Nat) (fin : Nat → Sto → Option (W × Sto)) : Prop := ∀ (m1 m' : Mo) (st' st3 : Sto) (n : Nat) (x : Addr) (w : W), Stp m1 m' → x ∉ m1.rh → m1.hp x = none → n = m1.rh.length → m'.rh = m1.rh ++ [x] → SR cf.K cf.ct m' st' → fin n st' = some (w, st3) → ∃ m2, m2.hp = m'.hp ∧ Rs cf.K cf.ct m1 m2 st3 (.ref x) w
theorem SvA.zip {ns : List Str} : ∀ {vs : List (Str × V)} {fs : List (Str × D)}, Paired (fun (p : Str × V) (q : Str × D) => p.1 = q.1 ∧ Fz cf.K cf.ct m p.2 q.2) vs fs → fs.map (·.1) = ns → vs = ns.zip (vs.map (·.2)) ∧ ns.length = (vs.map (·.2)).length ∧ FzA cf.K cf.ct m (vs.map (·.2)) (fs.map (·.2))
  | _, _, .nil, e => by cases e; exact ⟨rfl, rfl, .nil⟩
  | _, _, .cons (a := a) (b := b) r t, e => by
    cases ns with
    | nil => cases e
    | cons n ns =>
      rw [List.map_cons] at e
      injection e with e1 e2
      obtain ⟨h1, h2, h3⟩ := SvA.zip t e2
      refine ⟨?_, ?_, .cons r.2 h3⟩
      · rw [List.map_cons, List.zip_cons_cons, ← h1, ← e1, ← r.1]
      · rw [List.map_cons, List.length_cons, List.length_cons, h2]
theorem fin_frz {c : Nat} {C : Addr} {ns : List Str} (hc : cf.ct c = some (C, ns)) : FinOk cf c (frzOb c ns) := fun m1 m' st' st3 n x w s nx hx hn hr S e => by
  unfold frzOb at e
  have hx' : m'.rh[n]? = some x := by
    rw [hr, hn, List.getElem?_append_right (Nat.le_refl _), Nat.sub_self]
    rfl
  obtain ⟨o, ho, u, eu, hb⟩ := S.get hx'
  rw [ho] at e
  cases o with
  | lst l => cases e
  | dk l => cases e
  | tab _ _ => cases e
  | ins k fs =>
    dsimp only at e
    split at e
    case isFalse => cases e
    case isTrue h =>
      cases e
      obtain ⟨rfl, h2⟩ := h
      obtain ⟨C', dx, ns', vs, rfl, h3, h4⟩ := hb.ins_of
      rw [hc] at h3
      cases h3
      obtain ⟨z1, z2, z3⟩ := SvA.zip h4 h2
      refine ⟨m'.cut m1, rfl, .fz s.cut (S.cut s hn) ?_⟩
      refine .ob hc nx (fun z => S.dj x z (List.mem_of_getElem? hx')) (by rw [← z1]; exact eu) z2 (z3.avo (cut_out s) rfl)
theorem ev_make {n c : Nat} {C : Addr} {ns : List Str} {fin : Nat → Sto → Option (W × Sto)} {F : Fd} {dvs : List V} {ds : List W} {t : TA} {a : DnA} (hc : cf.ct c = some (C, ns)) (hf : FinOk cf c fin) (hd : ∀ m, WRs cf m dvs ds ∧ ∀ w ∈ ds, w.stays) (ha : Ea cf E t a) :
    Ev cf E (tMake C (spD cf n F) dvs E t) (dMake n c fin F ds a) := fun m σ en st Q er S h => by
  refine ha m σ en st _ er S ?_
  unfold dMake at h
  cases e : a en st with
  | ex c p st1 => rw [e] at h; exact h
  | no => rw [e] at h; exact h
  | ok ws st1 =>
    rw [e, Rt.bind_ok] at h
    intro vs m1 s1 S1 r1 x dx hx hdx hne
    split at h
    case isFalse => exact h.elim
    case isTrue hl =>
      obtain ⟨r, kp⟩ := r1.frz
      obtain ⟨r', kp'⟩ := hd m1
      have nx : x ∉ m1.rh := S1.out hx
      have nbx : ¬ m1.be x := fun z => S1.bl x z hx
      let H2 := upd (upd m1.hp dx (.own x)) x (.ins C dx [])
      let mB : Mo := ⟨m1.be, m1.rh ++ [x], H2⟩
      have sH : Same m1.hp H2 := (sameNew hdx).trans (sameNew ((upd_ne (Ne.symm hne)).trans hx))
      have sB : Stp m1 mB := ⟨fun _ h => h, fun _ h => .inl h, ⟨[x], rfl, fun b hb => by rw [List.mem_singleton] at hb; subst hb; exact ⟨nx, hx⟩⟩, fun b o _ e => sH b o e⟩
      have SB : SR cf.K cf.ct mB (st1 ++ [.ins c []]) := by
        refine ⟨by show (m1.rh ++ [x]).length = _; rw [List.length_append, List.length_append, S1.len]; rfl, ?_, fun b h => ?_, fun b h z => ?_, fun i b o h1 h2 => ?_⟩
        · show (m1.rh ++ [x]).Nodup
          rw [List.nodup_append]
          exact ⟨S1.nd, by simp, fun y hy z hz e => by rw [List.mem_singleton] at hz; exact nx (by rw [← hz, ← e]; exact hy)⟩
        · cases q : m1.hp b with
          | none => exact absurd q (S1.bl b h)
          | some o => exact some_ne (sH _ _ q)
        · rcases List.mem_append.mp (show b ∈ m1.rh ++ [x] from z) with z | z
          · exact S1.dj b h z
          · rw [List.mem_singleton] at z; subst z; exact nbx h
        · have h1' : (m1.rh ++ [x])[i]? = some b := h1
          by_cases q : i < m1.rh.length
          · rw [List.getElem?_append_left q] at h1'
            rw [List.getElem?_append_left (by rw [← S1.len]; exact q)] at h2
            have ro := S1.ob i b o h1' h2
            refine ro.kept sB ?_
            cases q2 : m1.hp b with
            | none => exact absurd q2 ro.live
            | some u => exact sH _ _ q2
          · rw [List.getElem?_append_right (by omega)] at h1'
            rw [List.getElem?_append_right (by rw [← S1.len]; omega)] at h2
            have e0 : i - m1.rh.length = 0 := by
              have := (List.getElem?_eq_some_iff.mp h1').1
              simp at this
              omega
            have e1 : i - st1.length = 0 := by rw [← S1.len]; exact e0
            rw [e0] at h1'
            rw [e1] at h2
            cases h1'
            cases h2
            exact ⟨_, upd_same, ⟨_, hc⟩, .nil⟩
      have hn : m1.rh.length = st1.length := S1.len
      have rx : WR cf.K cf.ct mB (.ref x) (.loc st1.length) := ⟨x, rfl, by
        show (m1.rh ++ [x])[st1.length]? = some x
        rw [← hn, List.getElem?_append_right (Nat.le_refl _), Nat.sub_self]; rfl⟩
      refine ⟨mB, st1 ++ [.ins c []], .loc st1.length :: (ws.map frz ++ ds), rfl, .cons rx ((r.append r').to sB), fun w hw => ?_, SB, hl, ?_⟩
      · rcases List.mem_cons.mp hw with rfl | hw
        · trivial
        · exact (List.mem_append.mp hw).elim (kp w) (kp' w)
      · have s2 := s1.trans sB
        cases e2 : F (.loc st1.length :: (ws.map frz ++ ds)) (st1 ++ [.ins c []]) with
        | ex c p st2 => rw [e2] at h; exact Xe.pre s2 h
        | no => rw [e2] at h; exact h
        | ok rr st2 =>
          rw [e2, Rt.bind_ok] at h
          intro v m2 r2
          split at h
          case isFalse => exact h.elim
          case isTrue hq =>
            refine ⟨of_decide_eq_true ((noneW_ok r2.wr).trans hq.1), ?_⟩
            cases e3 : fin st1.length st2 with
            | none => rw [e3] at h; exact h.elim
            | some p =>
              obtain ⟨w', st3⟩ := p
              rw [e3] at h
              have hr2 : m2.rh = m1.rh ++ [x] := by
                obtain ⟨ex, e4, _⟩ := r2.stp.ext
                have l2 := r2.sr.len
                rw [e4, List.length_append] at l2
                have : (m1.rh ++ [x]).length = st1.length + 1 := by rw [List.length_append, hn]; rfl
                have l3 : ex.length = 0 := by
                  have e5 : mB.rh.length = st1.length + 1 := this
                  omega
                rw [e4, List.length_eq_zero_iff.mp l3, List.append_nil]
              obtain ⟨m3, hm3, r3⟩ := hf m1 m2 st2 st3 st1.length x w' (sB.trans r2.stp) nx hx hn.symm hr2 r2.sr e3
              have := h (.ref x) m3 (r3.pre s1)
              rw [hm3] at this
              exact this
end
end QD
/-! QP: properties, methods, calls by keywords, texts put together. -/
namespace QD
open PySem PySem.Spec PyProof.Rows L2 MG LT
section
variable {cf : Cf} {E : XK} {m m1 : Mo} {st : Sto} {v u : V} {w x : W}
/-- the names of the fields of an object of the class c -/
def obW (c : Nat) (ns : List Str) (st : Sto) : W → Option (List Str)
  | .fz (.dict [(.int k, .tuple ds)]) => if k = c ∧ ns.length = ds.length then some ns else none
  | .loc n => match st[n]? with
    | some (.ins k fs) => if k = c then some (fs.map (·.1)) else none
    | _ => none
  | _ => none
theorem zip_names : ∀ {ns : List Str} {xs : List V}, ns.length = xs.length → (ns.zip xs).map (·.1) = ns
  | [], _, _ => rfl
  | n :: ns, [], h => by simp at h
  | n :: ns, x :: xs, h => by rw [List.zip_cons_cons, List.map_cons, zip_names (by simpa using h)]
theorem SvA.names {vs : List (Str × V)} {fs : List (Str × D)} (h : SvA cf.K cf.ct m vs fs) : vs.map (·.1) = fs.map (·.1) := by
  have h' : Paired (fun (p : Str × V) (q : Str × D) => p.1 = q.1 ∧ Fz cf.K cf.ct m p.2 q.2) vs fs := h
  clear h
  induction h' with
  | nil => rfl
  | cons r t ih => rw [List.map_cons, List.map_cons, ih, r.1]
theorem obW_ok {c : Nat} {C : Addr} {ns l : List Str} (hc : cf.ct c = some (C, ns)) (S : SR cf.K cf.ct m st) (r : WR cf.K cf.ct m v w) (e : obW c ns st w = some l) :
    ∃ a dx fs, v = .ref a ∧ m.hp a = some (.ins C dx fs) ∧ fs.map (·.1) = l := by
  unfold obW at e
  split at e
  case h_1 k ds =>
    split at e
    case isTrue h =>
      cases e
      cases r with
      | @ob a C' dx c' ns' xs _ h1 h2 h3 h4 h5 h6 =>
        have hk : c' = c := by have := h.1; omega
        subst hk
        rw [hc] at h1
        cases h1
        exact ⟨a, dx, _, rfl, h4, zip_names h5⟩
    case isFalse => cases e
  case h_2 n =>
    obtain ⟨a, rfl, ha⟩ := r
    obtain ⟨o, ho, u, eu, hb⟩ := S.get ha
    rw [ho] at e
    cases o with
    | lst l => cases e
    | dk l => cases e
    | tab _ _ => cases e
    | ins k fs =>
      dsimp only at e
      split at e
      case isTrue h =>
        cases e
        subst h
        obtain ⟨C', dx, ns', vs, rfl, h1, h2⟩ := hb.ins_of
        rw [hc] at h1
        cases h1
        exact ⟨a, dx, vs, rfl, eu, h2.names⟩
      case isFalse => cases e
  case h_3 => cases e
/-- a property -/
def dProp (c : Nat) (ns : List Str) (F : Fd) (a : Dn) : Dn := fun en st => (a en st).bind fun x st1 => match obW c ns st1 x with
  | some _ => F [x] st1
  | none => .no
theorem ob_stays {c : Nat} {ns l : List Str} (e : obW c ns st w = some l) : w.stays := by
  cases w with
  | own _ => cases e
  | _ => trivial
/-- a method -/
def dMeth (c : Nat) (ns : List Str) (f : Str) (n : Nat) (F : Fd) (ds : List W) (a : Dn) (b : DnA) : Dn := fun en st => (a en st).bind fun x st1 => match obW c ns st1 x with
  | some l => if l.contains f = false then (b en st1).bind fun ws st2 => if (ws.map frz ++ ds).length + 1 = n then F (x :: (ws.map frz ++ ds)) st2 else .no else .no
  | none => .no
/-! ### calls by keywords alone -/
def gP {α : Type} (π : List Nat) (us ws : List α) : List α := us ++ π.filterMap fun i => ws[i]?
def dCallK (n k : Nat) (π : List Nat) (F : Fd) (a : DnA) : Dn := fun en st => (a en st).bind fun ws st1 => if ws.length = k ∧ (gP π [] (ws.map frz)).length = n then F (gP π [] (ws.map frz)) st1 else .no
/-! ### texts put together -/
inductive Ejs (cf : Cf) (E : XK) : List TE → List Dn → Prop
  | nil : Ejs cf E [] []
  | cons {t ts d ds} : Ev cf E t d → Ejs cf E ts ds → Ejs cf E (t :: ts) (d :: ds)
def dFmt (a : Dn) : Dn := fun en st => (a en st).bind fun x st1 => match x with
  | .fz (.str y) => if y.length ≤ sizeLine then .ok (.fz (.str y)) st1 else .no
  | .fz (.int i) => if i.natAbs.log2 < 1920 then .ok (.fz (.str (toString i : String))) st1 else .no
  | _ => .no
theorem ev_fmt {t : TE} {a : Dn} (ha : Ev cf E t a) : Ev cf E (tFmt t) (dFmt a) := fun m σ en st Q er S h => by
  refine ha m σ en st _ er S ?_
  unfold dFmt at h
  cases e : a en st with
  | ex c p st1 => rw [e] at h; exact h
  | no => rw [e] at h; exact h
  | ok x st1 =>
    rw [e, Rt.bind_ok] at h
    intro v m1 r1
    cases x with
    | own _ => exact h.elim
    | nst _ => exact h.elim
    | loc _ => exact h.elim
    | fz d =>
      cases d with
      | str y =>
        dsimp only at h
        split at h
        case isTrue c => cases r1.wr; exact .inl ⟨y, rfl, c, h _ m1 (.fz r1.stp r1.sr (.str y))⟩
        case isFalse => exact h.elim
      | int i =>
        dsimp only at h
        split at h
        case isTrue c => cases r1.wr; exact .inr ⟨i, rfl, c, h _ m1 (.fz r1.stp r1.sr (.str _))⟩
        case isFalse => exact h.elim
      | _ => exact h.elim
def jsD : List Dn → Str → Dn
  | [], acc, _, st => .ok (.fz (.str acc)) st
  | d :: ds, acc, en, st => (d en st).bind fun x st1 => match strW x with
    | some y => if (acc ++ y).length ≤ sizeLine then jsD ds (acc ++ y) en st1 else .no
    | none => .no
theorem ejs_ok {ts : List TE} {ds : List Dn} (h : Ejs cf E ts ds) : ∀ (acc : Str) m σ en st (Q : VK), ER cf.K cf.ct m σ en → SR cf.K cf.ct m st → Pe cf E m Q (jsD ds acc en st) → tJs ts acc σ m.hp fun out H1 => Q (.str out) H1 := by
  induction h with
  | nil => exact fun acc m σ en st Q er S q => q _ m (.fz Stp.refl S (.str acc))
  | @cons t ts d ds hd _ ih =>
    intro acc m σ en st Q er S q
    refine hd m σ en st _ er S ?_
    unfold jsD at q
    cases e : d en st with
    | ex c p st1 => rw [e] at q; exact q
    | no => rw [e] at q; exact q
    | ok x st1 =>
      rw [e, Rt.bind_ok] at q
      intro v m1 r1
      cases e2 : strW x with
      | none => rw [e2] at q; exact q.elim
      | some y =>
        rw [e2] at q
        dsimp only at q
        split at q
        case isFalse => exact q.elim
        case isTrue c => exact ⟨y, strW_ok r1.wr e2, c, ih (acc ++ y) m1 σ en st1 Q (er.to r1.stp) r1.sr (Pe.pre r1.stp q)⟩
def dJs (ds : List Dn) : Dn := jsD ds Str.empty
theorem ev_joined {ts : List TE} {ds : List Dn} (h : Ejs cf E ts ds) : Ev cf E (fun σ H Q => tJs ts Str.empty σ H fun out H1 => Q (.str out) H1) (dJs ds) := fun m σ en st Q er S q => ejs_ok h Str.empty m σ en st Q er S q
/-- sep.join(xs) -/
def strL : List D → Option (List Str)
  | [] => some []
  | .str i :: l => (strL l).map fun r => i :: r
  | _ => none
theorem strL_eq : ∀ {l : List D} {ns : List Str}, strL l = some ns → l = ns.map PyData.str
  | [], ns, e => by cases e; rfl
  | d :: l, ns, e => by
    cases d with
    | str i =>
      unfold strL at e
      cases q : strL l with
      | none => rw [q] at e; cases e
      | some r => rw [q] at e; cases e; rw [strL_eq q]; rfl
    | _ => cases e
@[simp] theorem strL_map (ns : List Str) : strL (ns.map PyData.str) = some ns := by
  induction ns with
  | nil => rfl
  | cons n ns ih => show (strL (ns.map PyData.str)).map _ = _; rw [ih]; rfl
abbrev rJoin (K : PySem.W.Frag) : V → List V → Hp → VK → Prop := fun x xs H Q => ∃ a p, ∃ ys : List Str, x = .str a ∧ xs = [.ref p] ∧ (SqL K H p (ys.map V.str) ∨ SqT K H p (ys.map V.str)) ∧
      (ys.map (·.length)).sum + ys.length * a.length ≤ 16777216 ∧ Q (.str (Txt.join a ys)) H
def dJoin (a b : Dn) : Dn := fun en st => (a en st).bind fun x st1 => match strW x with
  | some z => (b en st1).bind fun y st2 => match (anyW st2 y).bind strL with
    | some ys => if (ys.map (·.length)).sum + ys.length * z.length ≤ 16777216 then .ok (.fz (.str (Txt.join z ys))) st2 else .no
    | none => .no
  | none => .no
theorem ev_join {ta tb : TE} {a b : Dn} (ha : Ev cf E ta a) (hb : Ev cf E tb b) : Ev cf E (tM1 (rJoin cf.K) ta tb) (dJoin a b) := fun m σ en st Q er S h => by
  refine ha m σ en st _ er S ?_
  unfold dJoin at h
  cases e : a en st with
  | ex c p st1 => rw [e] at h; exact h
  | no => rw [e] at h; exact h
  | ok x st1 =>
    rw [e, Rt.bind_ok] at h
    intro v m1 r1
    cases e2 : strW x with
    | none => rw [e2] at h; exact h.elim
    | some z =>
      rw [e2] at h
      refine ⟨⟨z, strW_ok r1.wr e2⟩, ?_⟩
      refine hb m1 σ en st1 _ (er.to r1.stp) r1.sr ?_
      replace h : Pe cf E m Q ((b en st1).bind fun y st2 => match (anyW st2 y).bind strL with
        | some ys => if (ys.map (·.length)).sum + ys.length * z.length ≤ 16777216 then .ok (.fz (.str (Txt.join z ys))) st2 else .no
        | none => .no) := h
      cases e3 : b en st1 with
      | ex c p st2 => rw [e3] at h; exact Xe.pre r1.stp h
      | no => rw [e3] at h; exact h
      | ok y st2 =>
        rw [e3, Rt.bind_ok] at h
        intro u m2 r2
        cases e4 : anyW st2 y with
        | none => rw [e4] at h; exact h.elim
        | some l =>
          rw [e4, Option.bind_some] at h
          cases e5 : strL l with
          | none => rw [e5] at h; exact h.elim
          | some ys =>
            rw [e5] at h
            dsimp only at h
            split at h
            case isFalse => exact h.elim
            case isTrue c =>
              rw [strL_eq e5] at e4
              obtain ⟨p, xs, rfl, hs, f⟩ := anyW_ok r2.sr r2.wr e4
              rw [f.strs] at hs
              exact ⟨z, p, ys, strW_ok r1.wr e2, rfl, hs, c, h _ m2 (.fz (r1.stp.trans r2.stp) r2.sr (.str _))⟩
end
section
variable {X : Cx} {o e : Expr} {to te : TE} {apos pos : Pos}
end
end QD
/-! zip of one to four lists and tuples -/
namespace ZM
open PySem
open PySem.Sem (wp)
abbrev IsZipF (h : Heap) (z TI TO : Addr) (f0 f1 : Value) : Prop :=
  h.get? z = some { cls := .type "zip", dict := none, data := .fields #[f0, f1, .bool false, .ref TI, .ref TO], slots := #[] }
abbrev IsTupV (h : Heap) (T : Addr) (vs : List Value) : Prop := h.get? T = some { cls := .type "tuple", data := .seq vs.toArray }
/-- by their address: tuples (true) and lists -/
def IsSq (kd : Addr → Bool) (h : Heap) (a : Addr) (items : Array Value) : Prop := if kd a = true then h.IsTuple a items else h.IsList a items
def IsIt (kd : Addr → Bool) (h : Heap) (a l : Addr) (i : Nat) : Prop := if kd l = true then h.IsTupleIter a l i else h.IsListIter a l i
theorem IsSq.at {kd : Addr → Bool} {h h' : Heap} {a : Addr} {items : Array Value} (x : IsSq kd h a items) (e : ∀ o, h.get? a = some o → h'.get? a = some o) : IsSq kd h' a items := by
  unfold IsSq at x ⊢
  split
  · rename_i c; rw [if_pos c] at x; exact Heap.IsTuple.at x e
  · rename_i c; rw [if_neg c] at x; exact Heap.IsList.at x e
theorem IsIt.at {kd : Addr → Bool} {h h' : Heap} {a l : Addr} {i : Nat} (x : IsIt kd h a l i) (e : ∀ o, h.get? a = some o → h'.get? a = some o) : IsIt kd h' a l i := by
  unfold IsIt at x ⊢
  split
  · rename_i c; rw [if_pos c] at x; exact Heap.IsTupleIter.at x e
  · rename_i c; rw [if_neg c] at x; exact Heap.IsListIter.at x e
theorem IsIt.extBut {kd : Addr → Bool} {h h' : Heap} {a b l : Addr} {i : Nat} (x : IsIt kd h a l i) (hs : Heap.ExtBut b h h') (hab : a ≠ b) : IsIt kd h' a l i := x.at fun o e => hs a o hab e
theorem IsIt.obj {kd : Addr → Bool} {h : Heap} {a l : Addr} {i : Nat} (x : IsIt kd h a l i) : ∃ o, h.get? a = some o ∧ o.data = .fields #[.ref l, .int i 0] := by
  unfold IsIt at x
  split at x
  · obtain ⟨o, e, _, d⟩ := x; exact ⟨o, e, d⟩
  · obtain ⟨o, e, _, d⟩ := x; exact ⟨o, e, d⟩
theorem IsSq.obj {kd : Addr → Bool} {h : Heap} {a : Addr} {items : Array Value} (x : IsSq kd h a items) : ∃ o, h.get? a = some o := by
  unfold IsSq at x
  split at x
  · obtain ⟨o, e, _⟩ := x; exact ⟨o, e⟩
  · obtain ⟨o, e, _⟩ := x; exact ⟨o, e⟩
theorem next_item {kd : Addr → Bool} {prog : Program} {w : World} {A : Around} {E : Value → Shared → Prop} {s : Shared} {it l : Addr} {i : Nat} {items} {x : Value} {Q : Value → Shared → Prop} (hit : IsIt kd s.heap it l i)
    (hl : IsSq kd s.heap l items) (hx : items[i]? = some x) (hQ : ∀ h', IsIt kd h' it l (i + 1) → Heap.SameBut it s.heap h' → Q x { s with heap := h' }) :
    wpAny (model prog w) A (Builtin.SmallTypes.nextOf (.ref it)) Q E s := by
  unfold IsIt at hit hQ
  unfold IsSq at hl
  by_cases c : kd l = true
  · simp only [if_pos c] at hit hl hQ; exact RZ.nextOf_tuple_item hit hl hx hQ
  · simp only [if_neg c] at hit hl hQ; exact wpAny_nextOf_list_item hit hl hx hQ
/-- the iterators (and their tuples) stand apart from the zip and its own -/
structure Apart (z TI TO : Addr) (l : List (Addr × Addr)) : Prop where
  TIz : TI ≠ z
  TOz : TO ≠ z
  TITO : TI ≠ TO
  iz : ∀ p ∈ l, p.1 ≠ z
  iTI : ∀ p ∈ l, p.1 ≠ TI
  iTO : ∀ p ∈ l, p.1 ≠ TO
  tz : ∀ p ∈ l, p.2 ≠ z
  tTO : ∀ p ∈ l, p.2 ≠ TO
  ti : ∀ p ∈ l, ∀ q ∈ l, p.2 ≠ q.1
  nd : (l.map (·.1)).Nodup
def Rows (kd : Addr → Bool) (h : Heap) (k : Nat) (l : List (Addr × Addr)) (xs : List Value) : Prop := l.length = xs.length ∧ ∀ (n : Nat) (p : Addr × Addr), l[n]? = some p → ∃ x items, xs[n]? = some x ∧ IsSq kd h p.2 items ∧ items[k]? = some x
abbrev refs (l : List (Addr × Addr)) : List Value := l.map fun p => Value.ref p.1
section
variable {kd : Addr → Bool} {prog : Program} {w : World} {A : Around} {E : Value → Shared → Prop} {s : Shared}
/-- how far a round of draws has come -/
structure St (kd : Addr → Bool) (z TI TO : Addr) (f0 f1 : Value) (l dn td : List (Addr × Addr)) (k : Nat) (ys : List Value) (h0 h : Heap) (d : Nat) : Prop where
  hz : IsZipF h z TI TO f0 f1
  hTI : IsTupV h TI (refs l)
  hTO : IsTupV h TO ys
  ly : ys.length = l.length
  hd : ∀ p ∈ dn, IsIt kd h p.1 p.2 (k + 1)
  ht : ∀ p ∈ td, IsIt kd h p.1 p.2 k
  sz : h.objs.size = h0.objs.size + d
  kp : ∀ c o, c ≠ z → c ≠ TO → (∀ p ∈ l, c ≠ p.1) → h0.get? c = some o → h.get? c = some o
/-- one draw -/
theorem St.draw {z TI TO : Addr} {f0 f1 : Value} {l dn td : List (Addr × Addr)} {p : Addr × Addr} {k : Nat} {ys : List Value} {h0 : Heap} {x : Value} {items : Array Value} {Q : Value → Shared → Prop} (D : Apart z TI TO l) (e : l = dn ++ p :: td)
    (S : St kd z TI TO f0 f1 l dn (p :: td) k ys h0 s.heap 0) (ht : IsSq kd h0 p.2 items) (hx : items[k]? = some x)
    (hQ : ∀ h', St kd z TI TO f0 f1 l (dn ++ [p]) td k ys h0 h' 0 → Q x { s with heap := h' }) : wpAny (model prog w) A (Builtin.SmallTypes.nextOf (.ref p.1)) Q E s := by
  have mp : p ∈ l := by rw [e]; simp
  have nd := D.nd
  rw [e, List.map_append, List.map_cons] at nd
  have nd2 := List.nodup_append.mp nd
  have nd3 := List.nodup_cons.mp nd2.2.1
  have ht' : IsSq kd s.heap p.2 items := ht.at fun o ho => S.kp _ _ (D.tz p mp) (D.tTO p mp) (fun q hq => D.ti p mp q hq) ho
  refine next_item (S.ht p (List.mem_cons_self ..)) ht' hx fun h' hi hs => hQ h' ?_
  refine ⟨hs.extBut _ _ (D.iz p mp).symm S.hz, hs.extBut _ _ (D.iTI p mp).symm S.hTI, hs.extBut _ _ (D.iTO p mp).symm S.hTO, S.ly, fun q hq => ?_, fun q hq => ?_, by rw [hs.1, S.sz], fun c o c1 c2 c3 hc => hs.extBut _ _ (c3 p mp) (S.kp c o c1 c2 c3 hc)⟩
  · rcases List.mem_append.mp hq with hq | hq
    · refine (S.hd q hq).extBut hs.extBut fun x => ?_
      exact nd2.2.2 q.1 (List.mem_map_of_mem hq) p.1 (List.mem_cons_self ..) x
    · have : q = p := by simpa using hq
      subst this
      exact hi
  · refine (S.ht q (List.mem_cons_of_mem _ hq)).extBut hs.extBut fun x => ?_
    exact nd3.1 (x ▸ List.mem_map_of_mem hq)
/-- the zip's own field set -/
theorem St.set {z TI TO : Addr} {f0 f1 g0 g1 : Value} {l dn td : List (Addr × Addr)} {k d : Nat} {ys : List Value} {h0 h h' : Heap} (D : Apart z TI TO l) (hl : l = dn ++ td) (S : St kd z TI TO f0 f1 l dn td k ys h0 h d)
    (hz : IsZipF h' z TI TO g0 g1) (hs : Heap.SameBut z h h') : St kd z TI TO g0 g1 l dn td k ys h0 h' d := by
  refine ⟨hz, hs.extBut _ _ D.TIz S.hTI, hs.extBut _ _ D.TOz S.hTO, S.ly, fun q hq => (S.hd q hq).extBut hs.extBut (D.iz q (by rw [hl]; simp [hq])), fun q hq => (S.ht q hq).extBut hs.extBut (D.iz q (by rw [hl]; simp [hq])), by rw [hs.1, S.sz], fun c o c1 c2 c3 hc => hs.extBut _ _ c1 (S.kp c o c1 c2 c3 hc)⟩
theorem St.tup {z TI TO : Addr} {f0 f1 : Value} {l dn td : List (Addr × Addr)} {k d : Nat} {ys zs : List Value} {h0 h h' : Heap} (D : Apart z TI TO l) (hl : l = dn ++ td) (S : St kd z TI TO f0 f1 l dn td k ys h0 h d)
    (hT : IsTupV h' TO zs) (lz : zs.length = ys.length) (hs : Heap.SameBut TO h h') : St kd z TI TO f0 f1 l dn td k zs h0 h' d := by
  refine ⟨hs.extBut _ _ D.TOz.symm S.hz, hs.extBut _ _ D.TITO S.hTI, hT, by rw [lz, S.ly], fun q hq => (S.hd q hq).extBut hs.extBut (D.iTO q (by rw [hl]; simp [hq])), fun q hq => (S.ht q hq).extBut hs.extBut (D.iTO q (by rw [hl]; simp [hq])), by rw [hs.1, S.sz], fun c o c1 c2 c3 hc => hs.extBut _ _ c2 (S.kp c o c1 c2 c3 hc)⟩
theorem St.push {z TI TO : Addr} {f0 f1 : Value} {l dn td : List (Addr × Addr)} {k : Nat} {ys : List Value} {h0 h : Heap} (o : Obj) (S : St kd z TI TO f0 f1 l dn td k ys h0 h 0) : St kd z TI TO f0 f1 l dn td k ys h0 (h.push o) 1 :=
  ⟨Heap.get?_push_of_some _ S.hz, Heap.get?_push_of_some _ S.hTI, Heap.get?_push_of_some _ S.hTO, S.ly, fun q hq => (S.hd q hq).at fun o e => Heap.get?_push_of_some _ e, fun q hq => (S.ht q hq).at fun o e => Heap.get?_push_of_some _ e,
    by rw [Heap.size_push, S.sz], fun c o c1 c2 c3 hc => Heap.get?_push_of_some _ (S.kp c o c1 c2 c3 hc)⟩
end
/-! ### the call -/
def mk : Nat → List Addr → List (Addr × Addr)
  | _, [] => []
  | n, a :: as => (n, a) :: mk (n + 1) as
/-- what stands after a call of zip -/
structure Made (kd : Addr → Bool) (n : Nat) (as : List Addr) (h0 h : Heap) : Prop where
  st : St kd (n + as.length + 2) (n + as.length) (n + as.length + 1) .none (.bool false) (mk n as) [] (mk n as) 0 ((mk n as).map fun _ => Value.none) h h 0
  kp : ∀ c o, h0.get? c = some o → h.get? c = some o
  sz : h.objs.size = n + as.length + 3
section
variable {prog : Program} {w : World} {A : Around} {E : Value → Shared → Prop} {s : Shared}
end
section
variable {prog : Program} {w : World} {A : Around} {E : Value → Shared → Prop} {s : Shared}
end
end ZM
/-! zip of lists and tuples, zip(*rows), at the hand layer -/
namespace ZMS
open PySem PySem.Spec PyProof.Rows L2 ZM
/-- a tuple (true) or a list -/
def SqK (K : PySem.W.Frag) (H : Hp) (b : Bool) (a : Addr) (xs : List V) : Prop := if b = true then SqT K H a xs else SqL K H a xs
/-- the column at i of the things at these addresses -/
def ColAt (K : PySem.W.Frag) (H : Hp) (i : Nat) : List (Bool × Addr) → List V → Prop
  | [], [] => True
  | p :: as, x :: col => (∃ xs, SqK K H p.1 p.2 xs ∧ xs[i]? = some x) ∧ ColAt K H i as col
  | _, _ => False
def ItM (K : PySem.W.Frag) (as : List (Bool × Addr)) : It :=
  ⟨fun i H => ∃ col, ColAt K H i as col, fun i H v H' => ∃ T col, v = .ref T ∧ H T = none ∧ H' = upd H T (.tup col) ∧ ∀ c, ColAt K H i as c → c = col,
    fun i H => ∃ p rest xs, as = p :: rest ∧ SqK K H p.1 p.2 xs ∧ xs.length ≤ i⟩
theorem sq_of {X : Cx} {pins : List (Addr × Obj)} {σ : L2.St} {H : Hp} {s : Shared} (I : Inv X pins σ H s) {kd : Addr → Bool} {b : Bool} {a : Addr} {xs : List V} (hk : kd a = b) (h : SqK X.K H b a xs) : ∃ its : List Value, Vals xs its ∧ IsSq kd s.heap a its.toArray := by
  unfold SqK at h
  unfold IsSq
  by_cases c : b = true
  · rw [if_pos c] at h
    obtain ⟨its, rv, p, _⟩ := I.tuple h
    exact ⟨its, rv, by rw [if_pos (by rw [hk]; exact c)]; exact p⟩
  · rw [if_neg c] at h
    obtain ⟨its, rv, p, _⟩ := I.list h
    exact ⟨its, rv, by rw [if_neg (by rw [hk]; exact c)]; exact p.isList⟩
theorem Rows.nil {kd : Addr → Bool} {h : Heap} {k : Nat} : Rows kd h k [] [] := ⟨rfl, fun n p e => by simp at e⟩
theorem Rows.cons {kd : Addr → Bool} {h : Heap} {k : Nat} {p : Addr × Addr} {x : Value} {l : List (Addr × Addr)} {xs : List Value} (h1 : ∃ items, IsSq kd h p.2 items ∧ items[k]? = some x) (r : Rows kd h k l xs) : Rows kd h k (p :: l) (x :: xs) := by
  refine ⟨congrArg Nat.succ r.1, fun n q e => ?_⟩
  cases n with
  | zero =>
    simp at e
    subst e
    obtain ⟨items, h2, h3⟩ := h1
    exact ⟨x, items, by simp, h2, h3⟩
  | succ n =>
    obtain ⟨y, items, h2, h3, h4⟩ := r.2 n q (by simpa using e)
    exact ⟨y, items, by simpa using h2, h3, h4⟩
abbrev adr (as : List (Bool × Addr)) : List Addr := as.map (·.2)
theorem rows_of {X : Cx} {pins : List (Addr × Obj)} {σ : L2.St} {H : Hp} {s : Shared} (I : Inv X pins σ H s) {kd : Addr → Bool} {i : Nat} : ∀ {n : Nat} {as : List (Bool × Addr)} {col : List V}, (∀ p ∈ as, kd p.2 = p.1) → ColAt X.K H i as col → ∃ us, Rows kd s.heap i (mk n (adr as)) us ∧ Vals col us
  | _, [], [], _, _ => ⟨[], Rows.nil, .nil⟩
  | n, a :: as, x :: col, hk, h => by
    obtain ⟨⟨xs, hq, hx⟩, h2⟩ := h
    obtain ⟨us, r, v⟩ := rows_of (n := n + 1) I (fun p hp => hk p (List.mem_cons_of_mem _ hp)) h2
    obtain ⟨its, rv, p⟩ := sq_of I (hk a (List.mem_cons_self ..)) hq
    obtain ⟨u, hu, ru⟩ := rv.get hx
    exact ⟨u :: us, Rows.cons ⟨its.toArray, p, by simpa using hu⟩ r, .cons ru v⟩
  | _, [], _ :: _, _, h => h.elim
  | _, _ :: _, [], _, h => h.elim
abbrev fpN (n : Nat) (as : List Addr) : List Addr := (n + as.length + 2) :: (n + as.length) :: (n + as.length + 1) :: (mk n as).map (·.1)
def tnN (kd : Addr → Bool) (n : Nat) (as : List Addr) (i : Nat) (h : Heap) : Prop := ∃ (f0 : Value) (b : Bool) (ys : List Value), (f0 = .none ∨ ∃ a : Nat, f0 = rawInt a) ∧ St kd (n + as.length + 2) (n + as.length) (n + as.length + 1) f0 (.bool b) (mk n as) [] (mk n as) i ys h h 0
/-- a name or a tuple of targets -/
def Tgt : Expr → Prop
  | .Name _ _ => True
  | .Tuple _ _ _ => True
  | _ => False
abbrev refV (as : List (Bool × Addr)) : List V := as.map fun p => V.ref p.2
def AllSq (K : PySem.W.Frag) (H : Hp) (as : List (Bool × Addr)) : Prop := as ≠ [] ∧ as.length ≤ 4 ∧ ∀ p ∈ as, ∃ xs, SqK K H p.1 p.2 xs
/-- zip(e, …) -/
def iZipM (K : PySem.W.Frag) (ta : TA) : TI := fun σ H R => ta σ H fun vs H1 => ∃ as, vs = refV as ∧ AllSq K H1 as ∧ R (ItM K as) H1
/-- zip(*e) -/
def iZipSM (K : PySem.W.Frag) (te : TE) : TI := fun σ H R => te σ H fun x H1 => ∃ (a : Addr) (as : List (Bool × Addr)), x = .ref a ∧ (SqT K H1 a (refV as) ∨ SqL K H1 a (refV as)) ∧ AllSq K H1 as ∧ R (ItM K as) H1
end ZMS
/-! QZ: zip of lists and tuples, enumerate. -/
namespace ET
open PySem
open Sem (wp)
open AutoSeq1 (wpAny_loadPart')
theorem meets_new (l : Addr) (items : Array Value) (n : Nat) (dct : Option Addr) (sl : Array (Option Value)) :
    Meets (Builtin.«enumerate.__new__» ⟨[.type "enumerate", .ref l], []⟩) (fun _ R s =>
      s.heap.get? l = some { cls := .type "tuple", dict := dct, data := .seq items n, slots := sl } ∧
      R (.ok (.ret (.ref (s.heap.push { cls := .type "tuple_iterator", data := .fields #[.ref l, .int 0 0] }).objs.size)))
        { s with heap := (s.heap.push { cls := .type "tuple_iterator", data := .fields #[.ref l, .int 0 0] }).push { cls := .type "enumerate", data := .fields #[.none, .bool false, .ref s.heap.objs.size, rawInt 0, .none, .none] } }) := by
  refine .of_wp fun prog w A R s h => ?_
  obtain ⟨hp, g, d, tk, os⟩ := s
  obtain ⟨hl, h⟩ := h
  have hsub := sub_enumerate
  have hT : Heap.IsTuple (Shared.heap ⟨hp, g, d, tk, os⟩) l items := ⟨_, hl, rfl, n, rfl⟩
  wp_walk using wpAny_loadPart' hl
  refine wpAny_stack_any (fun st => wpAny_pure ?_)
  split
  · rename_i c _ _ _ _ _
    cases (c == Value.type "enumerate") <;> (wp_walk using wpAny_loadPart' hl, wpAny_pyIter_tuple hT; exact ⟨_, rfl, h⟩)
  · wp_walk using wpAny_loadPart' hl, wpAny_pyIter_tuple hT
    exact ⟨_, rfl, h⟩
theorem call_new {prog : Program} {w : World} {A : Around} {E : Value → Shared → Prop} {s : Shared} {l : Addr} {items : Array Value} {Q : Value → Shared → Prop} (hL : s.heap.IsTuple l items)
    (h : ∀ h', IsEnum h' (s.heap.objs.size + 1) s.heap.objs.size 0 .none → h'.IsTupleIter s.heap.objs.size l 0 →
      (∀ b o, s.heap.get? b = some o → h'.get? b = some o) → Q (.ref (s.heap.objs.size + 1)) { s with heap := h' }) :
    wpAny (model prog w) A (call (.type "enumerate") [.ref l]) Q E s := by
  obtain ⟨⟨c, dct, dt, sl⟩, hl, hc, n, hd⟩ := hL
  obtain rfl : c = .type "tuple" := hc
  obtain rfl : dt = .seq items n := hd
  refine callType_new F.called_enumerate (by decide) (F.typeCall_enumerate_1 _) (F.newCall_enumerate_1 _)
    (fun obj => F.args_object_init_2 obj _) F.entry_enumerate_new (meets_new l items n dct sl) ⟨hl, ?_⟩
  have hz : (s.heap.push { cls := .type "tuple_iterator", data := .fields #[.ref l, .int 0 0] }).objs.size = s.heap.objs.size + 1 := Heap.size_push ..
  show _ ∧ _
  rw [hz]
  have he := Heap.get?_push_size (s.heap.push { cls := .type "tuple_iterator", data := .fields #[.ref l, .int 0 0] })
    (o := { cls := .type "enumerate", data := .fields #[.none, .bool false, .ref s.heap.objs.size, rawInt 0, .none, .none] }) rfl
  rw [hz] at he
  exact ⟨⟨_, he, rfl⟩, h _ he ⟨_, Heap.get?_push_of_some _ (Heap.get?_push_size _ rfl), rfl, rfl⟩ (fun b o x => Heap.get?_push_of_some _ (Heap.get?_push_of_some _ x))⟩
end ET
namespace QD
open PySem PySem.Spec PyProof.Rows L2 MG ZMS

/-- the tuple at a as it stands at each turn, each item in a new pair -/
def IteT (K : PySem.W.Frag) (a : Addr) : It :=
  ⟨fun i H => ∃ (xs : List V) (x : V), SqT K H a xs ∧ xs[i]? = some x,
   fun i H v H' => ∃ T x, v = .ref T ∧ H T = none ∧ H' = upd H T (.tup [.int (i : Nat), x]) ∧ ∀ xs, SqT K H a xs → xs[i]? = some x,
   fun i H => ∃ xs : List V, SqT K H a xs ∧ xs.length = i⟩
theorem turn_enumT {P : Program} {w : World} {K : PySem.W.Frag} {elts : List Expr} {kk : Nat} {tpos : Pos} (a e it : Addr) :
    Turn P w K (.Tuple elts kk tpos) (IteT K a) [e, it] e (fun i h => (∃ old, IsEnum h e it ((i : Nat) : Int) old) ∧ h.IsTupleIter it a i ∧ e ≠ it) where
  mem := by simp
  obj := fun i h st b hb => by
    obtain ⟨⟨old, he⟩, ⟨o, ho, hc, hd⟩, _⟩ := st
    rcases (show b = e ∨ b = it by simpa using hb) with rfl | rfl
    · exact ⟨_, he, fun v q => nomatch q⟩
    · exact ⟨o, ho, fun v q => by rw [hd] at q; cases q⟩
  keep := fun i h h' st k => by
    obtain ⟨⟨old, he⟩, hi, hne⟩ := st
    exact ⟨⟨old, k e (by simp) _ he⟩, hi.at fun o q => k it (by simp) o q, hne⟩
  item := by
    intro X hP hw hK hc i pins s σ H E I hf st hg
    subst hP hw hK
    obtain ⟨⟨old, he⟩, hit, hne⟩ := st
    obtain ⟨xs, x, hq, hx⟩ := hg
    obtain ⟨its, rv, p, hz⟩ := I.tuple hq
    obtain ⟨u, hu, ru⟩ := rv.get hx
    have hel := Heap.lt_size he
    have hil : it < s.heap.objs.size := by obtain ⟨_, q, _⟩ := hit; exact Heap.lt_size q
    have pT : s.heap.IsTuple a its.toArray := p
    have nai : a ≠ it := fun z => by
      obtain ⟨o1, h1, c1, _⟩ := pT
      obtain ⟨o2, h2, c2, _⟩ := hit
      rw [z, h2] at h1
      cases h1
      rw [c1] at c2
      exact absurd c2 (by decide)
    have nae : e ≠ a := fun z => by
      obtain ⟨o1, h1, c1, _⟩ := pT
      rw [← z, he] at h1
      cases h1
      exact absurd (show Value.type "enumerate" = Value.type "tuple" from c1) (by decide)
    have hlt : i < its.toArray.size := by
      have := (List.getElem?_eq_some_iff.mp hu).1
      simpa using this
    refine wpAny_pyNext_enum_itemD (Draws.tuple (A := X.A.in1) (I.ok.hd hc) it a nai its.toArray) he ⟨hit, pT⟩ hlt hne (by simp [hne, nae]) (fun y h' tk hy ho st' hT hsz hk => ?_)
    have ey : y = u := by
      have h1 : its.toArray[i]? = some y := hy
      have h2 : its.toArray[i]? = some u := by simpa using hu
      rw [h1] at h2
      exact Option.some.inj h2
    subst ey
    refine ⟨_, rfl, wpAny_letOwnedTupleGo_enum (s := { s with heap := h', toks := tk + 1 }) ho (fun h'' he' sb => ?_)⟩
    have hT2 := (sb.2 _ (Nat.ne_of_gt hel)).trans hT
    have new : ObjOk X.prog X.w (upd H s.heap.objs.size (.tup [.int (i : Nat), x])) h'' s.heap.objs.size (.tup [.int (i : Nat), x]) :=
      ⟨by show 2 ≤ sizeLine; decide, [.int i tk, y], .cons ⟨_, rfl⟩ (.cons ru .nil), ⟨_, hT2, rfl, _, rfl⟩⟩
    have I1 : Inv X pins σ (upd H s.heap.objs.size (.tup [.int (i : Nat), x])) { s with heap := h'', toks := tk + 1 } :=
      I.turnedNew (ch := [e, it]) (fun b ob hb q => (sb.2 b (fun z => hb (by simp [z]))).trans (hk b ob (fun z => hb (by simp [z])) (fun z => hb (by simp [z])) q)) hf (Nat.le_refl _) new
    refine ⟨.ref s.heap.objs.size, _, I1, rfl, ⟨_, x, rfl, I.hok.fresh (Nat.le_refl _), rfl, fun ys hy => by rw [I.tuple_inj hy hq]; exact hx⟩, ⟨⟨y, ?_⟩, st'.1.at fun o q => (sb.2 it (Ne.symm hne)).trans q, hne⟩, fun b hb => ?_⟩
    · rw [show ((i + 1 : Nat) : Int) = (i : Int) + 1 by omega]
      exact he'
    · have hb' : b < s.heap.objs.size := by
        rcases (show b = e ∨ b = it by simpa using hb) with z | z
        · rw [z]; exact hel
        · rw [z]; exact hil
      rw [upd_ne (Nat.ne_of_lt hb')]
      exact (hf b hb).1
  done := by
    intro X hP hw hK hc i pins s σ H E I hf st hg
    subst hP hw hK
    obtain ⟨⟨old, he⟩, hit, hne⟩ := st
    obtain ⟨xs, hq, hx⟩ := hg
    obtain ⟨its, rv, p, hz⟩ := I.tuple hq
    obtain ⟨f0, f1, f2, f3, f4, f5⟩ := hf it (by simp)
    have hl := rv.length
    have pT : s.heap.IsTuple a its.toArray := p
    have nai : a ≠ it := fun z => by
      obtain ⟨o1, h1, c1, _⟩ := pT
      obtain ⟨o2, h2, c2, _⟩ := hit
      rw [z, h2] at h1
      cases h1
      rw [c1] at c2
      exact absurd c2 (by decide)
    have ei : i = its.toArray.size := by
      rw [← hx, hl]
      simp
    subst ei
    exact wpAny_pyNext_enum_endD (Draws.tuple (A := X.A.in1) (I.ok.hd hc) it a nai its.toArray) he ⟨hit, pT⟩ (fun h' eb => ⟨rfl, I.turned (t' := s.toks) (fun b o hb q => eb b o hb q) f0 f1 f3 f4 f5⟩)
  self := fun A i s Q E st h => by
    obtain ⟨⟨_, he⟩, _⟩ := st
    exact wpAny_pyIter_enum he h

def iEnumT (K : PySem.W.Frag) (ta : TA) : TI := fun σ H R => ta σ H fun vs H1 => ∃ a xs, vs = [.ref a] ∧ SqT K H1 a xs ∧ R (IteT K a) H1
theorem pi_enumT {X : Cx} {e : Expr} {ta : TA} {p pos tpos : Pos} {elts : List Expr} {kk : Nat} (hg : Gl X "enumerate") (hm : X.mg "enumerate" = none) (ha : PA X [e] ta)
    (hs : starEach [e] X.env = [(false, eval e X.env)] := by rfl) : PI X (.Tuple elts kk tpos) (.Call (.Name "enumerate" p) [e] [] pos) (iEnumT X.K ta) := by
  constructor
  intro pins s σ H R I h
  refine Call_ (ld_blt I hg hm boot_enumerate (PyProof.Rows.callWith_type1 (thn (ha.run pos pins s σ H _ I h) (fun us s1 hh => ?_)) hs rfl))
  obtain ⟨vs, H1, I1, r1, a, xs, ex, hq, q⟩ := hh
  subst ex
  cases r1 with
  | cons r rr =>
    cases rr
    cases r
    obtain ⟨its, rv, p', hz⟩ := I1.tuple hq
    refine ET.call_new (show s1.heap.IsTuple a its.toArray from p') (fun h' he hit hk => wpAny_pyIter_enum he ?_)
    have I2 : Inv X pins σ H1 { s1 with heap := h' } := I1.kept (t' := s1.toks) hk
    refine ⟨s1.heap.objs.size + 1, [s1.heap.objs.size + 1, s1.heap.objs.size], _, _, H1, rfl, I2, turn_enumT a (s1.heap.objs.size + 1) s1.heap.objs.size, ⟨⟨.none, he⟩, hit, Nat.succ_ne_self _⟩, (fun b hb => ?_), q⟩
    have hle : s1.heap.objs.size ≤ b := by
      rcases (show b = s1.heap.objs.size + 1 ∨ b = s1.heap.objs.size by simpa using hb) with z | z
      · rw [z]; exact Nat.le_add_right _ _
      · exact Nat.le_of_eq z.symm
    exact I1.fpOk hle (I1.hok.fresh hle)

section
variable {cf : Cf} {E : XK} {m m1 : Mo} {st : Sto}
/-- a list (false) or a tuple (true) -/
def kndD : D → Option (Bool × List D)
  | .list l => some (false, l)
  | .tuple l => some (true, l)
  | .dict [(.none, .list l)] => some (false, l)
  | _ => none
def kndW : W → Option (Bool × List D)
  | .fz d => kndD d
  | .own l => some (false, l)
  | .loc _ => none
  | .nst _ => none
/-- from the moment m on these data stand at p -/
def At (cf : Cf) (m : Mo) (p : Bool × Addr) (k : Bool × List D) : Prop := p.1 = k.1 ∧ ∀ m', Stb m m' → ∃ xs, SqK cf.K m'.hp p.1 p.2 xs ∧ FzA cf.K cf.ct m' xs k.2
theorem knd_fz {v : V} {d : D} {k : Bool × List D} (r : Fz cf.K cf.ct m v d) (e : kndD d = some k) : ∃ p : Bool × Addr, v = .ref p.2 ∧ At cf m p k := by
  unfold kndD at e
  split at e
  case h_1 l =>
    cases e
    cases r with
    | @lst a xs _ h1 h2 h3 h4 => exact ⟨(false, a), rfl, rfl, fun m' s => ⟨xs, SqL.of (s.keep _ _ h1 h2 h3), h4.tob s⟩⟩
  case h_2 l =>
    cases e
    cases r with
    | @tup a xs _ h1 h2 => exact ⟨(true, a), rfl, rfl, fun m' s => ⟨xs, (h1.tob s).sq, h2.tob s⟩⟩
  case h_3 l =>
    cases e
    cases r with
    | @ro a xs _ h1 h2 => exact ⟨(false, a), rfl, rfl, fun m' s => ⟨xs, (h1.tob s).sq, h2.tob s⟩⟩
  case h_4 => cases e
theorem knd_at {v : V} {w : W} {k : Bool × List D} (r : WR cf.K cf.ct m v w) (e : kndW w = some k) : ∃ p : Bool × Addr, v = .ref p.2 ∧ At cf m p k := by
  cases w with
  | fz d => exact knd_fz r e
  | own l => exact knd_fz (d := .list l) r.fz_of e
  | nst _ => cases e
  | loc n => cases e
def kndWs : List W → Option (List (Bool × List D))
  | [] => some []
  | w :: ws => match kndW w, kndWs ws with
    | some k, some ks => some (k :: ks)
    | _, _ => none
def kndDs : List D → Option (List (Bool × List D))
  | [] => some []
  | w :: ws => match kndD w, kndDs ws with
    | some k, some ks => some (k :: ks)
    | _, _ => none
/-- the rows of a zip -/
def zipD (ks : List (Bool × List D)) : List D := match ks with
  | [] => []
  | k :: _ => (List.range k.2.length).map fun i => .tuple (ks.map fun p => p.2.getD i .none)
def okZ (ks : List (Bool × List D)) : Bool := match ks with
  | [] => false
  | k :: r => decide (r.length ≤ 3) && r.all fun p => decide (p.2.length = k.2.length)
def iZip (a : DnA) : En → Sto → Rt Src := fun en st => (a en st).bind fun ws st1 => match kndWs ws with
  | some ks => if okZ ks = true then .ok ⟨zipD ks, none⟩ st1 else .no
  | none => .no
def iZipS (a : Dn) : En → Sto → Rt Src := fun en st => (a en st).bind fun x st1 => match (kndW x).bind fun k => kndDs k.2 with
  | some ks => if okZ ks = true then .ok ⟨zipD ks, none⟩ st1 else .no
  | none => .no
/-! ### enumerate -/
def enuD (l : List D) : List D := (List.range l.length).map fun i => .tuple [.int (i : Nat), l.getD i .none]
def iEnu (b : Bool) (a : Dn) : En → Sto → Rt Src := fun en st => (a en st).bind fun x st1 => match kndW x with
  | some k => if k.1 = b then .ok ⟨enuD k.2, none⟩ st1 else .no
  | none => .no
theorem enu_get {l : List D} {i : Nat} {d : D} (h : (enuD l)[i]? = some d) : i < l.length ∧ d = .tuple [.int (i : Nat), l.getD i .none] ∧ l[i]? = some (l.getD i .none) := by
  have hl : i < l.length := by
    have := (List.getElem?_eq_some_iff.mp h).1
    unfold enuD at this
    simpa using this
  unfold enuD at h
  rw [List.getElem?_map, List.getElem?_range hl] at h
  cases h
  exact ⟨hl, rfl, by rw [List.getD_eq_getElem?_getD, List.getElem?_eq_getElem hl]; rfl⟩
theorem ei_enT {t : TE} {a : Dn} (ha : Ev cf E t a) : Ei cf E (iEnumT cf.K (tCons t tNil)) (iEnu true a) := fun m σ en st R er S h => by
  refine ha m σ en st _ er S ?_
  unfold iEnu at h
  cases e : a en st with
  | ex c p st1 => rw [e] at h; exact h
  | no => rw [e] at h; exact h
  | ok x st1 =>
    rw [e, Rt.bind_ok] at h
    intro v m1 r1
    cases e2 : kndW x with
    | none => rw [e2] at h; exact h.elim
    | some k =>
      rw [e2] at h
      dsimp only at h
      split at h
      case isFalse => exact h.elim
      case isTrue o =>
        obtain ⟨⟨b, q⟩, rfl, hk, hp⟩ := knd_at r1.wr e2
        obtain rfl : b = true := hk.trans o
        obtain ⟨xs, h1, h2⟩ := hp m1 Stp.refl.stb
        refine ⟨q, xs, rfl, h1, h _ m1 r1.stp r1.sr fun m' st' i s S' ok => ?_⟩
        obtain ⟨ys, h3, h4⟩ := hp m' s
        have h3 : SqT cf.K m'.hp q ys := h3
        have el : (enuD k.2).length = k.2.length := by unfold enuD; simp
        refine ⟨fun g1 g2 => ⟨ys, h3, ?_⟩, fun d hd => ?_⟩
        · have g1' : (enuD k.2).length ≤ i := g1
          have g2' : i ≤ (enuD k.2).length := g2
          rw [h4.length]; omega
        · obtain ⟨hl, rfl, hg⟩ := enu_get hd
          obtain ⟨v, hv, fv⟩ := h4.get hg
          refine ⟨⟨ys, v, h3, hv⟩, fun x H' y => ?_⟩
          obtain ⟨T, x, rfl, hT, rfl, u⟩ := y
          have := u ys h3
          rw [hv] at this
          cases this
          exact ⟨sameNew hT, .tup (.inl ⟨S'.out hT, fun z => S'.bl T z hT, .inl upd_same⟩) (FzA.to (Stp.one hT) (.cons (.int _) (.cons fv .nil)))⟩
end
section
variable {X : Cx}
/-! with the part named -/
theorem pi_enTK (K : PySem.W.Frag) {e : Expr} {te : TE} {p pos tpos : Pos} {elts : List Expr} {kk : Nat} (hg : Gl X "enumerate") (hm : X.mg "enumerate" = none) (ha : PE X e te) (h : X.K = K := by rfl)
    (na : starEach [e] X.env = [(false, eval e X.env)] := by rfl) : PI X (.Tuple elts kk tpos) (.Call (.Name "enumerate" p) [e] [] pos) (iEnumT K (tCons te tNil)) := by subst h; exact pi_enumT hg hm (pa_cons ha pa_nil (hs := na)) na
end
end QD
/-! QF2: comprehensions of two clauses. -/
namespace QD
open PySem PySem.Spec PyProof.Rows L2 MG
open Classical in
/-- the inner turns -/
noncomputable def lcI (s : Src) (g : DnG) (t : DnT) (e : Dn) (en0 : En) : List D → List D → Sto → Rt (List D)
  | [], acc, st => if s.ok st then .ok acc st else .no
  | d :: ds, acc, st => if s.ok st then (nox (g (.fz d) en0 st)).bind fun en2 st2 => (nox (t en2 st2)).bind fun b st3 =>
      if b = true then (nox (e en2 st3)).bind fun w st4 => match datW w with
        | some y => if acc.length < sizeLine then lcI s g t e en0 ds (acc ++ [y]) st4 else .no
        | none => .no
      else lcI s g t e en0 ds acc st3
    else .no
open Classical in
noncomputable def lc2L (s : Src) (g : DnG) (t : DnT) (i1 : En → Sto → Rt Src) (g1 : DnG) (t1 : DnT) (e : Dn) (vs1 : List Nat) (en0 : En) : List D → List D → Sto → Rt W
  | [], acc, st => if s.ok st then .ok (.own acc) st else .no
  | d :: ds, acc, st => if s.ok st then (nox (g (.fz d) en0 st)).bind fun en2 st2 => (nox (t en2 st2)).bind fun b st3 =>
      if b = true then (nox (i1 en2 st3)).bind fun s1 st4 => (lcI s1 g1 t1 e (wipeE en2 vs1) s1.l acc st4).bind fun acc2 st5 => lc2L s g t i1 g1 t1 e vs1 en0 ds acc2 st5
      else lc2L s g t i1 g1 t1 e vs1 en0 ds acc st3
    else .no
noncomputable def dLc2 (i : En → Sto → Rt Src) (g : DnG) (t : DnT) (i1 : En → Sto → Rt Src) (g1 : DnG) (t1 : DnT) (e : Dn) (vs vs1 : List Nat) : Dn := fun en st => (i en st).bind fun s st1 => lc2L s g t i1 g1 t1 e vs1 (wipeE en vs) s.l [] st1
section
variable {cf : Cf} {E : XK} {m m1 : Mo} {st : Sto} {q : Addr}
theorem Stb.stp {m' m2 : Mo} (hb : ∀ a, m'.be a → m'.hp a ≠ none) (s : Stb m m') (t : Stp m' m2) : Stb m m2 := by
  obtain ⟨e1, z1, f1⟩ := s.ext
  obtain ⟨e2, z2, f2⟩ := t.ext
  have sub : ∀ a, a ∈ m.rh → a ∈ m'.rh := fun a z => by rw [z1]; exact List.mem_append_left _ z
  have old : ∀ a, a ∉ m'.rh → m'.hp a = none → a ∉ m.rh ∧ m.hp a = none := fun a n e => by
    refine ⟨fun z => n (sub a z), ?_⟩
    cases q : m.hp a with
    | none => rfl
    | some o =>
      by_cases c : m.be a
      · exact absurd e (hb a (s.bl a c))
      · have := s.keep a o (fun z => n (sub a z)) c q
        rw [e] at this
        cases this
  refine ⟨fun a h => t.bl a (s.bl a h), fun a h => ?_, ⟨e1 ++ e2, by rw [z2, z1, List.append_assoc], fun b h => ?_⟩, fun b o n nb e => ?_⟩
  · rcases t.be a h with h | h
    · exact s.be a h
    · exact .inr (old a h.1 h.2)
  · rcases List.mem_append.mp h with h | h
    · exact f1 b h
    · exact old b (f2 b h).1 (f2 b h).2
  · refine t.keep b o (fun z => ?_) (s.keep b o n nb e)
    rw [z1] at z
    rcases List.mem_append.mp z with z | z
    · exact n z
    · rw [(f1 b z).2] at e; cases e
end
end QD
/-! list(zip(…)) -/
namespace ZL
open PySem PySem.Spec PyProof.Rows L2 ZM ZMS
/-- what list(zip(…)) goes through: i turns are done, acc stands in the list at q -/
def ZRun (K : PySem.W.Frag) (as : List (Bool × Addr)) (q : Addr) (R : Hp → Prop) (P : Nat → Nat → List V → Hp → Prop) : Prop :=
  ∀ n i acc H, P n i acc H → H q = some (.lst acc) ∧ ((∃ p rest xs, as = p :: rest ∧ SqK K H p.1 p.2 xs ∧ xs.length ≤ i ∧ R H) ∨
    ∃ col, ColAt K H i as col ∧ acc.length < sizeLine ∧ ∃ n', n' < n ∧ ∀ T, H T = none → P n' (i + 1) (acc ++ [.ref T]) (upd (upd H T (.tup col)) q (.lst (acc ++ [.ref T]))))
section
variable {X : Cx} {pins : List (Addr × Obj)} {σ : L2.St} {as : List (Bool × Addr)} {kd : Addr → Bool} {n0 : Nat} {q : Addr}
end
/-- list(zip(e, …)) -/
def tListZip (K : PySem.W.Frag) (ta : TA) : TE := fun σ H Q => ta σ H fun vs H1 => ∃ as, vs = refV as ∧ AllSq K H1 as ∧ ∀ q, H1 q = none → ∃ (P : Nat → Nat → List V → Hp → Prop) (m : Nat), P m 0 [] (upd H1 q (.lst [])) ∧ ZRun K as q (fun H' => Q (.ref q) H') P
end ZL
/-! QX: promises for anywhere, defaults, isinstance, op=, list(zip), own special methods. -/
namespace QD
open PySem PySem.Spec PyProof.Rows L2 MG ZMS ZL
section
variable {P : Program} {w : World} {K : PySem.W.Frag} {mg : Str → Option Value} {base : Heap}
/-- a def that lets nothing out and needs no guards -/
theorem fnK {cf : Cf} {x qual : Str} {st : Stmt} {f : Addr} {fd : FuncData} {N ps : List Str} {k n : Nat} {b : DnS} (F : Fun K x qual st f fd) (S : FnScope N ps (defScope st)) (hp : ps.length = n)
    (hbody : ∀ (cdv : Value) (A : Around) (outer : List Env) (s : Shared) (H : Hp) (E : XK), Room k (A.deeper (envOfC qual (defScope st) s.heap.objs.size f cdv)) →
      ∃ t, PSs (cxOf CX0 P w K mg base N qual (defScope st) f cdv A outer s H E).nox (defBody st) t ∧ Es cf noE t b) :
    FnOk P w K mg base CX0 (k + 1) f fd ps (spD cf n fun ws st => nox (fnD N.length b ws st)) := by
  refine F.ok S (fun vs H Q E h => (spD_len h).trans hp.symm) fun cdv A outer s H vs Q E hr h => ?_
  obtain ⟨t, ht, he⟩ := hbody cdv A outer s H E hr
  obtain ⟨m, st', ws, rfl, r, kp, S', hl, q⟩ := h
  exact ⟨t, ht, he m _ _ st' _ (ER.start r kp rfl) S' (Px_exit S' (Pe_noxE q))⟩
/-- .. with defaults -/
theorem fnKD {cf : Cf} {x qual : Str} {params : Arguments} {body : List Stmt} {scope : Scope} {dvs : List V} {kws : List (Str × V)} {f : Addr} {fd : FuncData} {N ps : List Str} {k n : Nat} {b : DnS} (F : FunD K x qual params body scope dvs kws f fd) (S : FnScope N ps scope) (hp : ps.length = n)
    (hbody : ∀ (cdv : Value) (A : Around) (outer : List Env) (s : Shared) (H : Hp) (E : XK), Room k (A.deeper (envOfC qual scope s.heap.objs.size f cdv)) →
      ∃ t, PSs (cxOf CX0 P w K mg base N qual scope f cdv A outer s H E).nox body t ∧ Es cf noE t b) :
    FnOk P w K mg base CX0 (k + 1) f fd ps (spD cf n fun ws st => nox (fnD N.length b ws st)) := by
  refine F.ok S (fun vs H Q E h => (spD_len h).trans hp.symm) fun cdv A outer s H vs Q E hr h => ?_
  obtain ⟨t, ht, he⟩ := hbody cdv A outer s H E hr
  obtain ⟨m, st', ws, rfl, r, kp, S', hl, q⟩ := h
  exact ⟨t, ht.nox, he m _ _ st' _ (ER.start r kp rfl) S' (Px_exit S' (Pe_noxE q))⟩
end
section
variable {cf : Cf} {E : XK} {m m1 : Mo} {st : Sto} {v u : V} {w x : W}
theorem non_ds : ∀ m : Mo, WRs cf m [.non] [.fz .none] ∧ ∀ w ∈ ([.fz .none] : List W), w.stays := fun _ => ⟨.cons .non .nil, fun w h => by rw [List.mem_singleton] at h; subst h; trivial⟩
/-! ### op= -/
def sAug (i : Nat) (f : W → W → Sto → Rt W) (a : Dn) : DnS := fun en st => match en[i]? with
  | some (some x) => sBind (a en st) fun y st1 => sBind (f x y st1) fun z st2 => .go (en.set i (some (frz z))) st2
  | _ => .no
/-! ### gcd -/
def fGcd (a b : W) (st : Sto) : Rt W := match intW a, intW b with
  | some i, some j => .ok (.fz (.int ((Nat.gcd i.natAbs j.natAbs : Nat) : Int))) st
  | _, _ => .no
/-! ### list(zip(…)) -/
def dListZip (a : DnA) : Dn := fun en st => (a en st).bind fun ws st1 => match kndWs ws with
  | some ks => if okZ ks = true ∧ (zipD ks).length < sizeLine then .ok (.own (zipD ks)) st1 else .no
  | none => .no
/-! ### isinstance -/
/-- an own class as a type -/
structure ClsT (K : PySem.W.Frag) (C : Addr) : Prop where
  cl : Cls K C
  ha : PySem.W.findIn K (.ref C) "__class__" = some (some (.builtin "object.__class__"))
  hn : PySem.W.specialIn K (.builtin "object.__class__") "__get__" = some (some (.builtin "getset_descriptor.__get__"))
  htk : PySem.W.takesIn K (.builtin "object.__class__") = some true
  hm : PySem.W.mroIn K C (.type "object") = some true
def bts : List String := ["NoneType", "bool", "int", "str", "list", "tuple", "dict"]
structure KitT (K : PySem.W.Frag) (ct : CTab) : Prop where
  own : ∀ (k : Nat) (C : Addr) (ns : List Str), ct k = some (C, ns) → ClsT K C
  self : ∀ (k k' : Nat) (C C' : Addr) (ns ns' : List Str), ct k = some (C, ns) → ct k' = some (C', ns') → PySem.W.kitOne K (.ref C) (.ref C') = some (decide (k = k'))
  bo : ∀ b ∈ bts, ∀ (k : Nat) (C : Addr) (ns : List Str), ct k = some (C, ns) → PySem.W.kitOne K (.type b) (.ref C) = some false
  ob : ∀ b ∈ bts, ∀ (k : Nat) (C : Addr) (ns : List Str), ct k = some (C, ns) → PySem.W.kitOne K (.ref C) (.type b) = some false
/-- the type of a value: a built-in one, an own one -/
inductive Tyk where
  | b (n : String)
  | o (k : Nat)
def tykD : D → Option Tyk
  | .none => some (.b "NoneType")
  | .bool _ => some (.b "bool")
  | .int _ => some (.b "int")
  | .str _ => some (.b "str")
  | .list _ => some (.b "list")
  | .tuple _ => some (.b "tuple")
  | .dict [] => some (.b "dict")
  | .dict [(.none, .list _)] => some (.b "list")
  | .dict [(.int k, .tuple _)] => if 0 ≤ k then some (.o k.toNat) else none
  | _ => none
def tykW (st : Sto) : W → Option Tyk
  | .fz d => tykD d
  | .own _ => some (.b "list")
  | .loc n => match st[n]? with
    | some (.lst _) => some (.b "list")
    | some (.dk _) => some (.b "dict")
    | some (.ins k _) => some (.o k)
    | some (.tab _ _) => none
    | none => none
  | .nst _ => none
def clsW : W → Option Tyk
  | .fz (.dict [(.bool true, .str n)]) => (bts.find? fun b => decide (Str.ofString b = n)).map .b
  | .fz (.dict [(.bool false, .int k)]) => if 0 ≤ k then some (.o k.toNat) else none
  | _ => none
def isB (a b : String) : Bool := a == b || (a == "bool" && b == "int")
def isT : Tyk → Tyk → Bool
  | .b x, .b y => isB x y
  | .o x, .o y => decide (x = y)
  | _, _ => false
def fIsi (w x : W) (st : Sto) : Rt W := match tykW st w, clsW x with
  | some a, some b => .ok (.fz (.bool (isT a b))) st
  | _, _ => .no
theorem ofStr_inj {a b : String} (h : Str.ofString a = Str.ofString b) : a = b := by
  rw [Str.ofString_eq_toList, Str.ofString_eq_toList] at h
  have h1 : (a.toList.map Char.toNat).toArray = (b.toList.map Char.toNat).toArray := congrArg Str.cps h
  have h2 : a.toList.map Char.toNat = b.toList.map Char.toNat := by simpa using h1
  have h3 : ∀ (l k : List Char), l.map Char.toNat = k.map Char.toNat → l = k := fun l => by
    induction l with
    | nil => intro k e; cases k with
      | nil => rfl
      | cons _ _ => cases e
    | cons c l ih => intro k e; cases k with
      | nil => cases e
      | cons d k =>
        rw [List.map_cons, List.map_cons] at e
        injection e with e1 e2
        rw [ih k e2, show c = d from Char.ext (UInt32.toNat_inj.mp e1)]
  have h4 := h3 _ _ h2
  exact String.toList_inj.mp h4
theorem kitB_all : ∀ a ∈ bts, ∀ b ∈ bts, kitB a b = some (isB a b) := by decide +kernel
def TykV (ct : CTab) (t : Tyk) (u : Value) : Prop := match t with
  | .b n => u = .type n ∧ n ∈ bts
  | .o k => ∃ C ns, ct k = some (C, ns) ∧ u = .ref C
theorem tykD_ok (KT : KitT cf.K cf.ct) {d : D} {t : Tyk} (r : Fz cf.K cf.ct m v d) (e : tykD d = some t) : ∃ u, TyX cf.K m.hp v u ∧ TykV cf.ct t u := by
  cases r with
  | non => cases e; exact ⟨_, .base .non, rfl, by decide⟩
  | bl b => cases e; exact ⟨_, .base (.bl b), rfl, by decide⟩
  | int b => cases e; exact ⟨_, .base (.int b), rfl, by decide⟩
  | str b => cases e; exact ⟨_, .base (.str b), rfl, by decide⟩
  | tup h1 h2 =>
    cases e
    refine ⟨.type "tuple", ?_, rfl, by decide⟩
    rcases h1 with ⟨_, _, h | ⟨o, h⟩⟩ | (h | ⟨_, h⟩) | ⟨o, its, n, l, c, _⟩
    · exact .base (.tup h)
    · exact .fTuple h
    · cases h
    · cases h
    · exact .kTuple l c
  | lst h1 h2 h3 h4 => cases e; exact ⟨_, .base (.lst h3), rfl, by decide⟩
  | ro h1 h2 =>
    cases e
    refine ⟨.type "list", ?_, rfl, by decide⟩
    rcases h1 with ⟨_, _, h | ⟨o, h⟩⟩ | (h | ⟨_, h⟩) | ⟨o, its, n, l, c, _⟩
    · exact .base (.lst h)
    · exact .base (.frz h)
    · cases h
    · cases h
    · exact .kList l c
  | ty n => cases e
  | cls h => cases e
  | code _ _ _ => cases e
  | fn _ _ _ => cases e
  | exc _ _ _ _ => cases e
  | exc0 => cases e
  | emp h =>
    cases e
    refine ⟨.type "dict", ?_, rfl, by decide⟩
    rcases h with ⟨_, _, h | ⟨o, h⟩⟩
    · exact .base (.dK h)
    · exact .fDict h
  | @ob a C dx c ns xs ds h1 h2 h3 h4 h5 h6 =>
    unfold tykD at e
    dsimp only at e
    split at e
    case isTrue z =>
      cases e
      have T := KT.own c C ns h1
      have hk : ((c : Int)).toNat = c := by omega
      exact ⟨.ref C, .base (.ins h4 T.cl T.ha T.hn T.htk T.hm), C, ns, by rw [hk]; exact h1, rfl⟩
    case isFalse => cases e
theorem tykW_ok (KT : KitT cf.K cf.ct) {t : Tyk} (S : SR cf.K cf.ct m st) (r : WR cf.K cf.ct m v w) (e : tykW st w = some t) : ∃ u, TyX cf.K m.hp v u ∧ TykV cf.ct t u := by
  cases w with
  | fz d => exact tykD_ok KT r e
  | own l => exact tykD_ok KT (d := .list l) r.fz_of e
  | nst _ => cases e
  | loc n =>
    obtain ⟨a, rfl, ha⟩ := r
    obtain ⟨o, ho, u, eu, hr⟩ := S.get ha
    unfold tykW at e
    dsimp only at e
    rw [ho] at e
    cases o with
    | lst l =>
      cases e
      obtain ⟨xs, rfl, _⟩ := hr.lst_of
      exact ⟨_, .base (.lst eu), rfl, by decide⟩
    | tab _ _ => cases e
    | dk l =>
      cases e
      obtain ⟨xs, rfl, _⟩ := hr.dk_of
      exact ⟨_, .base (.dK eu), rfl, by decide⟩
    | ins k fs =>
      cases e
      obtain ⟨C, dx, ns, vs, rfl, h1, h2⟩ := hr.ins_of
      have T := KT.own k C ns h1
      exact ⟨.ref C, .base (.ins eu T.cl T.ha T.hn T.htk T.hm), C, ns, h1, rfl⟩
theorem clsW_ok {t : Tyk} (r : WR cf.K cf.ct m v w) (e : clsW w = some t) : ∃ u, ClsV v u ∧ TykV cf.ct t u := by
  unfold clsW at e
  split at e
  case h_1 n =>
    cases r with
    | ty n' =>
      cases q : bts.find? fun b => decide (Str.ofString b = (n' : Str)) with
      | none => rw [q] at e; cases e
      | some b =>
        rw [q] at e
        cases e
        have h1 := of_decide_eq_true (List.find?_some (p := fun b => decide (Str.ofString b = (n' : Str))) q)
        have hb : b = n' := ofStr_inj h1
        subst hb
        exact ⟨_, .ty _, rfl, List.mem_of_find?_eq_some q⟩
  case h_2 k =>
    cases r with
    | @cls C c ns h =>
      split at e
      case isTrue z =>
        cases e
        have hk : ((c : Int)).toNat = c := by omega
        exact ⟨_, .own C, C, ns, by rw [hk]; exact h, rfl⟩
      case isFalse => cases e
  case h_3 => cases e
theorem q_isi (KT : KitT cf.K cf.ct) : OpN cf E (rIsi cf.K) (f2 fIsi) := opN2 fun m st v u w x Q S r1 r2 h => by
  unfold fIsi at h
  cases e1 : tykW st w with
  | none => rw [e1] at h; exact h.elim
  | some a =>
    cases e2 : clsW x with
    | none => rw [e1, e2] at h; exact h.elim
    | some b =>
      rw [e1, e2] at h
      obtain ⟨z1, t1, k1⟩ := tykW_ok KT S r1 e1
      obtain ⟨z2, t2, k2⟩ := clsW_ok r2 e2
      refine ⟨v, u, z1, z2, isT a b, rfl, t2, t1, ?_, h.fz S (.bl _)⟩
      cases a with
      | b p =>
        obtain ⟨rfl, hp⟩ := k1
        cases b with
        | b q =>
          obtain ⟨rfl, hq⟩ := k2
          exact kit_ty (kitB_all p hp q hq)
        | o q =>
          obtain ⟨C, ns, hC, rfl⟩ := k2
          exact KT.bo p hp q C ns hC
      | o p =>
        obtain ⟨C, ns, hC, rfl⟩ := k1
        cases b with
        | b q =>
          obtain ⟨rfl, hq⟩ := k2
          exact KT.ob q hq p C ns hC
        | o q =>
          obtain ⟨C', ns', hC', rfl⟩ := k2
          exact KT.self p q C C' ns ns' hC hC'
/-! ### slices of tuples -/
def fSlT (w : W) (lo hi : Option Int) (st : Sto) : Rt W := match tupW w with
  | some l => if HT.sIx l.length 0 lo = 0 ∧ HT.sIx l.length l.length hi = l.length then .ok (.fz (.tuple l)) st else .ok (.fz (.tuple (cutD l lo hi))) st
  | none => .no
/-! ### repetition -/
noncomputable def fRep (w x : W) (st : Sto) : Rt W := match seqW st w, intW x with
  | some l, some k => @ite _ (-(2 ^ 63) ≤ k ∧ k < 2 ^ 63 ∧ l.length * k.toNat ≤ sizeLine) (Classical.propDecidable _) (.ok (.own (List.replicate k.toNat l).flatten) st) .no
  | _, _ => .no
theorem rep_rel {xs : List V} {l : List D} (f : FzA cf.K cf.ct m xs l) : ∀ n : Nat, FzA cf.K cf.ct m (List.replicate n xs).flatten (List.replicate n l).flatten
  | 0 => .nil
  | n + 1 => by
    rw [List.replicate_succ, List.replicate_succ, List.flatten_cons, List.flatten_cons]
    exact f.append (rep_rel f n)
theorem q_rep : Op2 cf E rRep fRep := fun m st v1 v2 w1 w2 Q S r1 r2 h => by
  unfold fRep at h
  cases e1 : seqW st w1 with
  | none => rw [e1] at h; exact h.elim
  | some l =>
    cases e2 : intW w2 with
    | none => rw [e1, e2] at h; exact h.elim
    | some k =>
      rw [e1, e2] at h
      dsimp only at h
      split at h
      case isFalse => exact h.elim
      case isTrue c =>
        obtain ⟨a, xs, rfl, hq, f⟩ := seq_ok S r1 e1
        obtain rfl := intW_ok r2 e2
        exact ⟨a, k, xs, rfl, rfl, hq, c.1, c.2.1, by rw [f.length]; exact c.2.2, fun p hp => h _ _ (Rs.new Stp.refl S hp (rep_rel f _))⟩
def fRepT (w x : W) (st : Sto) : Rt W := match tupW w, intW x with
  | some l, some k => if l ≠ [] ∧ 2 ≤ k ∧ k ≤ 1000 ∧ l.length ≤ 1000 then .ok (.fz (.tuple (List.replicate k.toNat l).flatten)) st else .no
  | _, _ => .no
end
section
variable {X : Cx} {o e : Expr} {es : List Expr} {to : TE} {t : TA} {name : Str} {apos cpos : Pos} {T id : String} {r : V → List V → Hp → VK → Prop}
theorem pe_bmN (K : PySem.W.Frag) (pa : PlainAttrs T) (slot : Slot T name id) (hty : typeOf (.builtin id) = pure (.type "method_descriptor")) (hm : MtR X id r) (ho : PE X o to) (ha : PA X (e :: es) t) (h : X.K = K := by rfl)
    (hbase : attributeBase o name X.env (eval o X.env) = eval o X.env := by rfl)
    (hfew : ((backTo cpos (starEach (e :: es) X.env)).all (fun x => !x.1) && (backToKw cpos (keywordEach [] X.env)).all (fun x => x.1.isSome)
      && decide ((e :: es).length + ([] : List Keyword).length + (if ([] : List Keyword).isEmpty then 0 else 1) < 30)) = true := by rfl)
    (hline : (apos.endLine == cpos.line) = true := by rfl) (hs : starEach (e :: es) X.env = (false, eval e X.env) :: starEach es X.env := by rfl) (hplain : (backTo cpos (starEach es X.env)).any (·.1) = false := by rfl) :
    PE X (.Call (.Attribute o name apos) (e :: es) [] cpos) (tBM K T r to t) := by subst h; exact pe_bm pa slot hty hm ho ha hbase hfew hline hs hplain
end
end QD
/-! LKq: a def called by keywords alone; fields with the part named. -/
namespace KW
open PySem PySem.Spec PyProof.Rows L2
section
variable {X : Cx} {CX : CXT} {k : Nat} {f : Addr} {fd : FuncData} {ps ks : List Str} {sp : Sp} {E : XK} {x : Str} {p pos : Pos} {kws : List Keyword} {tk : TA} {g : List Value → List Value → List Value} {gV : List V → List V → List V}
end
end KW
namespace QD
open PySem PySem.Spec PyProof.Rows L2 MG
section
variable {X : Cx} {e : Expr} {f : Str} {ta : TE} {pos : Pos}
theorem pe_fldK (K : PySem.W.Frag) (he : PE X e ta) (hb : attributeBase e f X.env (eval e X.env) = eval e X.env) (h : X.K = K := by rfl) : PE X (.Attribute e f pos) (tFld K ta f) := by subst h; exact pe_fld he hb
end
end QD
/-! QM: loops and comprehensions of denotations, reckoned. -/
namespace QD
open PySem PySem.Spec PyProof.Rows L2 MG
section
variable {en : En} {st : Sto} {a : Dn} {s : Src} {g : DnG} {b : DnS} {e : Dn} {t : DnT}
@[simp] theorem ok_none {l : List D} : Src.ok ⟨l, none⟩ st = True := (rfl)
@[simp] theorem iSeq_eq {f : Sto → W → Option Src} : iSeq f a en st = (a en st).bind fun x st1 => match f st1 x with
  | some s => .ok s st1
  | none => .no := (rfl)
@[simp] theorem srcW_fz {l : List D} : srcW st (.fz (.list l)) = some ⟨l, none⟩ := (rfl)
@[simp] theorem srcW_own {l : List D} : srcW st (.own l) = some ⟨l, none⟩ := (rfl)
@[simp] theorem srcT_fz {l : List D} : srcT st (.fz (.tuple l)) = some ⟨l, none⟩ := (rfl)
@[simp] theorem srcS_fz {x : Str} : srcS st (.fz (.str x)) = some ⟨x.cps.toList.map fun c => .str ⟨#[c]⟩, none⟩ := (rfl)
@[simp] theorem sFor_eq {i : En → Sto → Rt Src} : sFor i g b en st = sBind (i en st) fun s st1 => forL s g b s.l en st1 := (rfl)
@[simp] theorem dLc_eq {i : En → Sto → Rt Src} {vs : List Nat} : dLc i g t e vs en st = (i en st).bind fun s st1 => lcL s g t e (wipeE en vs) s.l [] st1 := (rfl)
theorem iR_ok {f : List Int → Option Src} {x : DnA} {ws : List W} {st1 : Sto} {l : List Int} {sr : Src} (h1 : x en st = .ok ws st1) (h2 : intsW ws = some l) (h3 : f l = some sr) : iR f x en st = .ok sr st1 := by
  unfold iR
  rw [h1, Rt.bind_ok, h2, Option.bind_some, h3]
theorem iR_eq {f : List Int → Option Src} {x : DnA} : iR f x en st = (x en st).bind fun ws st1 => match (intsW ws).bind f with
  | some s => .ok s st1
  | none => .no := (rfl)
@[simp] theorem intsW_nil : intsW [] = some [] := (rfl)
@[simp] theorem intsW_cons {i : Int} {ws : List W} : intsW (.fz (.int i) :: ws) = (intsW ws).map fun l => i :: l := (rfl)
theorem r1S_j (j : Int) : r1S [j] = @ite _ (-(2 ^ 62) ≤ j ∧ j < 2 ^ 62) (Classical.propDecidable _) (some (rngS 0 j.toNat)) none := rfl
theorem r1S_k {n : Nat} (h : n ≤ 1000000) : r1S [(n : Int)] = some (rngS 0 n) := by
  rw [r1S_j, if_pos ⟨Int.le_trans (by decide) (Int.natCast_nonneg n), Int.lt_of_le_of_lt (Int.ofNat_le.mpr h) (by decide)⟩, Int.toNat_natCast]
@[simp] theorem iEnu_eq {x : Bool} : iEnu x a en st = (a en st).bind fun y st1 => match kndW y with
  | some k => if k.1 = x then .ok ⟨enuD k.2, none⟩ st1 else .no
  | none => .no := (rfl)
@[simp] theorem kndW_fz {d : D} : kndW (.fz d) = kndD d := (rfl)
@[simp] theorem kndW_own {l : List D} : kndW (.own l) = some (false, l) := (rfl)
@[simp] theorem kndD_list {l : List D} : kndD (.list l) = some (false, l) := (rfl)
@[simp] theorem kndD_tup {l : List D} : kndD (.tuple l) = some (true, l) := (rfl)
@[simp] theorem kndD_ro {l : List D} : kndD (roD l) = some (false, l) := (rfl)
@[simp] theorem iZip_eq {x : DnA} : iZip x en st = (x en st).bind fun ws st1 => match kndWs ws with
  | some ks => if okZ ks = true then .ok ⟨zipD ks, none⟩ st1 else .no
  | none => .no := (rfl)
@[simp] theorem iZipS_eq : iZipS a en st = (a en st).bind fun x st1 => match (kndW x).bind fun k => kndDs k.2 with
  | some ks => if okZ ks = true then .ok ⟨zipD ks, none⟩ st1 else .no
  | none => .no := (rfl)
@[simp] theorem dListZip_eq {x : DnA} : dListZip x en st = (x en st).bind fun ws st1 => match kndWs ws with
  | some ks => if okZ ks = true ∧ (zipD ks).length < sizeLine then .ok (.own (zipD ks)) st1 else .no
  | none => .no := (rfl)
@[simp] theorem kndWs_nil : kndWs [] = some [] := (rfl)
@[simp] theorem kndWs_cons {w : W} {ws : List W} : kndWs (w :: ws) = match kndW w, kndWs ws with
  | some k, some ks => some (k :: ks)
  | _, _ => none := (rfl)
@[simp] theorem dFld_eq {c : Nat} {ns : List Str} {f : Str} : dFld c ns f a en st = (a en st).bind fun x st1 => match fldW c ns f st1 x with
  | some d => .ok (.fz d) st1
  | none => .no := (rfl)
@[simp] theorem dProp_eq {c : Nat} {ns : List Str} {F : Fd} : dProp c ns F a en st = (a en st).bind fun x st1 => match obW c ns st1 x with
  | some _ => F [x] st1
  | none => .no := (rfl)
@[simp] theorem sNo_eq : sNo en st = .no := (rfl)
@[simp] theorem dMeth_eq {c : Nat} {ns : List Str} {f : Str} {n : Nat} {F : Fd} {ds : List W} {x : DnA} : dMeth c ns f n F ds a x en st = (a en st).bind fun x' st1 => match obW c ns st1 x' with
  | some l => if l.contains f = false then (x en st1).bind fun ws st2 => if (ws.map frz ++ ds).length + 1 = n then F (x' :: (ws.map frz ++ ds)) st2 else .no else .no
  | none => .no := (rfl)
@[simp] theorem dM_eq {ty : Sto → W → Bool} {f : W → List W → Sto → Rt W} {x : DnA} : dM ty f a x en st = (a en st).bind fun o st1 => if ty st1 o = true then (x en st1).bind fun ws st2 => f o ws st2 else .no := (rfl)
@[simp] theorem f2I_def : (f2 fIsi) = f2 fIsi := (rfl)
/-! ### turns -/
theorem forL_inv (I : Nat → En → Sto → Prop) : ∀ (l : List D) (k : Nat) (en : En) (st : Sto), I k en st →
    (∀ i en st d, l[i]? = some d → I (k + i) en st → s.ok st ∧ ∃ en1 st1, g (.fz d) en st = .ok en1 st1 ∧ ∃ en2 st2, (b en1 st1 = .go en2 st2 ∨ b en1 st1 = .ct en2 st2) ∧ I (k + i + 1) en2 st2) →
    (∀ en st, I (k + l.length) en st → s.ok st) → ∃ en2 st2, forL s g b l en st = .go en2 st2 ∧ I (k + l.length) en2 st2
  | [], k, en, st, h0, _, he => by
    unfold forL
    rw [if_pos (he en st h0)]
    exact ⟨en, st, rfl, h0⟩
  | d :: l, k, en, st, h0, hs, he => by
    obtain ⟨ok, en1, st1, e1, en2, st2, e2, h2⟩ := hs 0 en st d rfl h0
    unfold forL
    rw [if_pos ok, e1]
    have ih := forL_inv I l (k + 1) en2 st2 h2 (fun i en st d hd hi => by
      have hi' : I (k + (i + 1)) en st := by rw [show k + (i + 1) = k + 1 + i by omega]; exact hi
      have := hs (i + 1) en st d (by simpa using hd) hi'
      rw [show k + (i + 1) + 1 = k + 1 + i + 1 by omega] at this
      exact this) (fun en st hi => he en st (by rw [List.length_cons, show k + (l.length + 1) = k + 1 + l.length by omega]; exact hi))
    rw [show k + (d :: l).length = k + 1 + l.length by rw [List.length_cons]; omega]
    rcases e2 with e2 | e2 <;> (dsimp only; rw [e2]; exact ih)
/-- where the walked list is not watched it matters not -/
theorem lcL_src {l1 l2 : List D} {en0 : En} : ∀ (l : List D), lcL ⟨l1, none⟩ g t e en0 l = lcL ⟨l2, none⟩ g t e en0 l
  | [] => by funext acc st; unfold lcL; rfl
  | d :: l => by
    funext acc st
    unfold lcL
    rw [lcL_src l]
    rfl
abbrev yesT : DnT := fun _ st => .ok true st
/-- items each by itself, the store as it was -/
theorem lcL_map {en0 : En} {f : D → D} : ∀ (l acc : List D), s.g = none →
    (∀ d ∈ l, ∃ en2 w, g (.fz d) en0 st = .ok en2 st ∧ e en2 st = .ok w st ∧ datW w = some (f d)) → acc.length + l.length ≤ sizeLine → lcL s g (fun _ st => .ok true st) e en0 l acc st = .ok (.own (acc ++ l.map f)) st
  | [], acc, hg, _, _ => by
    unfold lcL
    rw [if_pos (by unfold Src.ok; rw [hg]; trivial), List.map_nil, List.append_nil]
  | d :: l, acc, hg, h, hl => by
    obtain ⟨en2, w, e1, e2, e3⟩ := h d (List.mem_cons_self ..)
    unfold lcL
    rw [List.length_cons] at hl
    rw [if_pos (by unfold Src.ok; rw [hg]; trivial), e1, nox_ok, Rt.bind_ok, nox_ok, Rt.bind_ok, if_pos rfl, e2, nox_ok, Rt.bind_ok, e3]
    dsimp only
    rw [if_pos (by omega), lcL_map l _ hg (fun d' hd' => h d' (List.mem_cons_of_mem _ hd')) (by rw [List.length_append, List.length_singleton]; omega), List.append_assoc]
    rfl
def natF (i : Nat) : En → Sto → Nat := fun en _ => match en[i]? with
  | some (some (.fz (.int k))) => k.toNat + 1
  | _ => 0
end
end QD
/-! QY: several names at once where some are shared with inner scopes (a real tuple, taken apart again). -/
namespace QD
open PySem PySem.Spec PyProof.Rows L2 MG
def gNs : List Nat → TGs
  | [] => gNil
  | i :: is => gCons (gName i) (gNs is)
def setW : En → List Nat → List W → Option En
  | en, [], [] => some en
  | en, i :: is, w :: ws => setW (en.set i (some (frz w))) is ws
  | _, _, _ => none
section
variable {cf : Cf} {E : XK} {m : Mo}
theorem gNs_ok : ∀ {is : List Nat} {vs : List V} {ws : List W} {en en' : En} {σ : L2.St} {Q : L2.St → Hp → Prop}, WRs cf m vs ws → ER cf.K cf.ct m σ en → setW en is ws = some en' → (∀ σ', ER cf.K cf.ct m σ' en' → Q σ' m.hp) → gNs is vs σ m.hp Q
  | [], _, _, _, _, _, _, .nil, er, h, k => by
    cases h
    exact ⟨rfl, k _ er⟩
  | i :: is, _, _, _, _, _, _, .cons r rs, er, h, k => by
    obtain ⟨r', q⟩ := frz_ok r
    exact ⟨_, _, rfl, gNs_ok rs (er.set i r' q) h k⟩
  | [], _, _, _, _, _, _, .cons _ _, _, h, _ => by cases h
  | _ :: _, _, _, _, _, _, _, .nil, _, h, _ => by cases h
theorem setW_len : ∀ {is : List Nat} {ws : List W} {en en' : En}, setW en is ws = some en' → ws.length = is.length
  | [], [], _, _, _ => rfl
  | _ :: _, _ :: _, _, _, h => congrArg Nat.succ (setW_len h)
  | [], _ :: _, _, _, h => by cases h
  | _ :: _, [], _, _, h => by cases h
def sParL (is : List Nat) (a : DnA) : DnS := fun en st => sBind (a en st) fun xs st1 => match setW en is xs with
  | some en' => .go en' st1
  | none => .no
theorem es_parT {t : TA} {a : DnA} {is : List Nat} (hl : is.length ≤ 100) (ha : Ea cf E t a) : Es cf E (tAsg (tTup t) (gTup cf.K is.length (gNs is))) (sParL is a) := fun m σ en st D er S h => by
  refine ha m σ en st _ er S ?_
  unfold sParL at h
  cases e : a en st with
  | ex c p st1 => rw [e] at h; exact h
  | no => rw [e] at h; exact h
  | ok xs st1 =>
    rw [e, sBind_ok] at h
    intro vs m1 s1 S1 r1
    split at h
    case h_2 => exact h.elim
    case h_1 en' e2 =>
      have hv : vs.length = is.length := r1.length.trans (setW_len e2)
      refine ⟨by rw [hv]; exact Nat.le_trans hl (by decide), fun p hp => ?_⟩
      have sp : Stp m1 (m1.to (upd m1.hp p (.tup vs))) := Stp.one hp
      have S2 : SR cf.K cf.ct (m1.to (upd m1.hp p (.tup vs))) st1 := S1.new hp
      have rd : FT cf.K (m1.to (upd m1.hp p (.tup vs))) p vs := .inl ⟨S1.out hp, fun z => S1.bl p z hp, .inl upd_same⟩
      refine ⟨p, vs, rfl, rd.sq, hv, ?_⟩
      exact gNs_ok (m := m1.to (upd m1.hp p (.tup vs))) (r1.to sp) ((er.to s1).to sp) e2 fun σ' er' => h σ' _ (s1.trans sp) er' S2
@[simp] theorem sParL_eq {is : List Nat} {a : DnA} {en : En} {st : Sto} : sParL is a en st = sBind (a en st) fun xs st1 => match setW en is xs with
  | some en' => .go en' st1
  | none => .no := (rfl)
@[simp] theorem setW_nil {en : En} : setW en [] [] = some en := (rfl)
@[simp] theorem setW_cons {en : En} {i : Nat} {is : List Nat} {w : W} {ws : List W} : setW en (i :: is) (w :: ws) = setW (en.set i (some (frz w))) is ws := (rfl)
end
end QD
/-! QV: a tuple some times, once too. -/
namespace QD
open PySem PySem.Spec PyProof.Rows L2 MG
def rRep2 (K : PySem.W.Frag) : R2 := fun x y H Q => ∃ l k xs, x = .ref l ∧ y = .int k ∧ SqT K H l xs ∧ xs ≠ [] ∧ 1 ≤ k ∧ k ≤ 1000 ∧ xs.length ≤ 1000 ∧ (k = 1 → Q (.ref l) H) ∧ (2 ≤ k → ∀ p, H p = none → Q (.ref p) (upd H p (.tup (List.replicate k.toNat xs).flatten)))
section
variable {X : Cx}
end
def fRepU (w x : W) (st : Sto) : Rt W := match tupW w, intW x with
  | some l, some k => if l ≠ [] ∧ 1 ≤ k ∧ k ≤ 1000 ∧ l.length ≤ 1000 then .ok (.fz (.tuple (List.replicate k.toNat l).flatten)) st else .no
  | _, _ => .no
section
variable {cf : Cf} {E : XK}
end
/-! a list taken apart -/
section
variable {X : Cx} {pos : Pos}
end
def gL (n : Nat) (gs : List D → En → Sto → Rt En) : DnG := fun w en st => match seqW st w with
  | some ds => if ds.length = n then gs ds en st else .no
  | none => .no
section
variable {cf : Cf} {E : XK}
@[simp] theorem gL_own {n : Nat} {gs : List D → En → Sto → Rt En} {ds : List D} {en : En} {st : Sto} : gL n gs (.own ds) en st = if ds.length = n then gs ds en st else .no := (rfl)
@[simp] theorem gL_fz {n : Nat} {gs : List D → En → Sto → Rt En} {ds : List D} {en : En} {st : Sto} : gL n gs (.fz (.list ds)) en st = if ds.length = n then gs ds en st else .no := (rfl)
end
end QD
/-! QN: methods called by keywords alone, defaults that are ints, several classes. -/
namespace QD
open PySem PySem.Spec PyProof.Rows L2 MG
def tMethK (C : Addr) (m : Str) (nk : Nat) (sp : Sp) (gV : List V → List V → List V) (E : XK) (ta : TE) (tk : TA) : TE := fun σ H Q => ta σ H fun x H1 => ∃ (a dx : Addr) (fs : List (Str × V)), x = .ref a ∧ H1 a = some (.ins C dx fs) ∧ fs.lookup m = none ∧ tk σ H1 fun zs H2 => zs.length = nk ∧ sp (gV [.ref a] zs) H2 Q E
section
variable {X : Cx} {CX : CXT} {k : Nat} {f C : Addr} {fd : FuncData} {ps ks : List Str} {sp : Sp} {E : XK} {m : Str} {pos apos : Pos} {o : Expr} {kws : List Keyword} {ta : TE} {tk : TA} {g : List Value → List Value → List Value} {gV : List V → List V → List V}
end
/-- o.m(k = ..): places by π of the values written, then defaults -/
def dMethK (c : Nat) (ns : List Str) (f : Str) (n k : Nat) (π : List Nat) (F : Fd) (ds : List W) (a : Dn) (b : DnA) : Dn := fun en st => (a en st).bind fun x st1 => match obW c ns st1 x with
  | some l => if l.contains f = false then (b en st1).bind fun ws st2 => if ws.length = k ∧ (gP π [] (ws.map frz) ++ ds).length + 1 = n then F (x :: (gP π [] (ws.map frz) ++ ds)) st2 else .no else .no
  | none => .no
section
variable {cf : Cf} {E : XK}
@[simp] theorem dMethK_eq {c n k : Nat} {ns : List Str} {f : Str} {π : List Nat} {F : Fd} {ds : List W} {a : Dn} {b : DnA} {en : En} {st : Sto} : dMethK c ns f n k π F ds a b en st = (a en st).bind fun x st1 => match obW c ns st1 x with
  | some l => if l.contains f = false then (b en st1).bind fun ws st2 => if ws.length = k ∧ (gP π [] (ws.map frz) ++ ds).length + 1 = n then F (x :: (gP π [] (ws.map frz) ++ ds)) st2 else .no else .no
  | none => .no := (rfl)
end
/-! a list, a tuple or a text -/
def fIxA (a b : W) (st : Sto) : Rt W := match strW a with
  | some _ => fIxS a b st
  | none => match tupW a with
    | some _ => fIxT a b st
    | none => fIxL a b st
def rIxA (K : PySem.W.Frag) : R2 := fun x y H Q => rIxS x y H Q ∨ rIxT K x y H Q ∨ rIxL K x y H Q
section
variable {X : Cx}
def rLenA (K : PySem.W.Frag) : List V → Hp → VK → Prop := fun xs H Q => rLenV K xs H Q ∨ rLenQ K xs H Q
end
def fLenA (w : W) (st : Sto) : Rt W := match strW w with
  | some _ => fLenS w st
  | none => fLen w st
section
variable {cf : Cf} {E : XK}
@[simp] theorem fIxA_str {x : Str} {b : W} {st : Sto} : fIxA (.fz (.str x)) b st = fIxS (.fz (.str x)) b st := (rfl)
@[simp] theorem fIxA_tup {l : List D} {b : W} {st : Sto} : fIxA (.fz (.tuple l)) b st = fIxT (.fz (.tuple l)) b st := (rfl)
@[simp] theorem fIxA_lst {l : List D} {b : W} {st : Sto} : fIxA (.fz (.list l)) b st = fIxL (.fz (.list l)) b st := (rfl)
@[simp] theorem fLenA_str {x : Str} {st : Sto} : fLenA (.fz (.str x)) st = fLenS (.fz (.str x)) st := (rfl)
@[simp] theorem fLenA_tup {l : List D} {st : Sto} : fLenA (.fz (.tuple l)) st = fLen (.fz (.tuple l)) st := (rfl)
@[simp] theorem fLenA_lst {l : List D} {st : Sto} : fLenA (.fz (.list l)) st = fLen (.fz (.list l)) st := (rfl)
end
end QD
/-! QJ: lists of lists that change: made by a comprehension, an item, walked in a comprehension. -/
namespace QD
open PySem PySem.Spec PyProof.Rows L2 MG
section
variable {cf : Cf} {E : XK} {m m1 : Mo} {st : Sto} {q : Addr}
open Classical in
noncomputable def lcN (s : Src) (g : DnG) (e : Dn) (en0 : En) : List D → List Nat → Sto → Rt W
  | [], acc, st => if s.ok st then .ok (.nst acc) st else .no
  | d :: ds, acc, st => if s.ok st then (nox (g (.fz d) en0 st)).bind fun en2 st2 => (nox (e en2 st2)).bind fun w st4 => match w with
        | .own l => if acc.length < sizeLine then lcN s g e en0 ds (acc ++ [st4.length]) (st4 ++ [.lst l]) else .no
        | _ => .no
    else .no
/-- a list of new lists -/
noncomputable def dLcN (i : En → Sto → Rt Src) (g : DnG) (e : Dn) (vs : List Nat) : Dn := fun en st => (i en st).bind fun s st1 => lcN s g e (wipeE en vs) s.l [] st1
theorem KsR.len {m : Mo} {xs : List V} {ks : List Nat} (h : KsR m xs ks) : xs.length = ks.length := by
  induction h with
  | nil => rfl
  | cons _ _ ih => rw [List.length_cons, List.length_cons, ih]
theorem KsR.app {m : Mo} {xs : List V} {ks : List Nat} (h : KsR m xs ks) {v : V} {k : Nat} (hv : ∃ a, v = .ref a ∧ m.rh[k]? = some a) : KsR m (xs ++ [v]) (ks ++ [k]) := by
  induction h with
  | nil => exact .cons hv .nil
  | cons a _ ih => exact .cons a ih
theorem KsR.at_ {m : Mo} : ∀ {xs : List V} {ks : List Nat}, KsR m xs ks → ∀ {i k : Nat}, ks[i]? = some k → ∃ a, xs[i]? = some (.ref a) ∧ m.rh[k]? = some a
  | _, _, .nil, _, _, e => by cases e
  | _, _, .cons ⟨a, ea, ha⟩ t, i, k, e => by
    cases i with
    | zero => cases e; exact ⟨a, by rw [ea]; rfl, ha⟩
    | succ i => exact KsR.at_ t e
/-- int(x) of an integer or a truth value -/
def fIntB (w : W) (st : Sto) : Rt W := match w with
  | .fz (.bool k) => .ok (.fz (.int (if k = true then 1 else 0))) st
  | w => f1I (fun i => .int i) w st
@[simp] theorem fIntB_bool {k : Bool} {st : Sto} : fIntB (.fz (.bool k)) st = .ok (.fz (.int (if k = true then 1 else 0))) st := (rfl)
@[simp] theorem fIntB_int {k : Int} {st : Sto} : fIntB (.fz (.int k)) st = .ok (.fz (.int k)) st := (rfl)
/-! min, max of three -/
def f3I (g : Int → Int → Int → Int) (ws : List W) (st : Sto) : Rt W := match ws with
  | [a, b, c] => match intW a, intW b, intW c with
    | some i, some j, some k => .ok (.fz (.int (g i j k))) st
    | _, _, _ => .no
  | _ => .no
def min3I (i j k : Int) : Int := if k < (if j < i then j else i) then k else (if j < i then j else i)
def max3I (i j k : Int) : Int := if (if i < j then j else i) < k then k else (if i < j then j else i)
@[simp] theorem f3I_eq {g : Int → Int → Int → Int} {i j k : Int} {st : Sto} : f3I g [.fz (.int i), .fz (.int j), .fz (.int k)] st = .ok (.fz (.int (g i j k))) st := (rfl)
/-- an item -/
def fIxN (a b : W) (st : Sto) : Rt W := match a, intW b with
  | .nst ks, some i => match atI ks i with
    | some k => .ok (.loc k) st
    | none => .no
  | _, _ => .no
noncomputable def lcG (g : DnG) (t : DnT) (e : Dn) (en0 : En) : List Nat → List D → Sto → Rt W
  | [], acc, st => .ok (.own acc) st
  | k :: ks, acc, st => (nox (g (.loc k) en0 st)).bind fun en2 st2 => (nox (t en2 st2)).bind fun b st3 =>
      if b = true then (nox (e en2 st3)).bind fun w st4 => match datW w with
        | some y => if acc.length < sizeLine then lcG g t e en0 ks (acc ++ [y]) st4 else .no
        | none => .no
      else lcG g t e en0 ks acc st3
noncomputable def dLcG (a : Dn) (g : DnG) (t : DnT) (e : Dn) (vs : List Nat) : Dn := fun en st => (a en st).bind fun x st1 => match x with
  | .nst ks => lcG g t e (wipeE en vs) ks [] st1
  | _ => .no
end
section
variable {en : En} {st : Sto}
@[simp] theorem frz_nst {ks : List Nat} : frz (.nst ks) = .nst ks := (rfl)
@[simp] theorem dLcN_eq {i : En → Sto → Rt Src} {g : DnG} {e : Dn} {vs : List Nat} : dLcN i g e vs en st = (i en st).bind fun s st1 => lcN s g e (wipeE en vs) s.l [] st1 := (rfl)
@[simp] theorem dLcG_eq {a : Dn} {g : DnG} {t : DnT} {e : Dn} {vs : List Nat} : dLcG a g t e vs en st = (a en st).bind fun x st1 => match x with
  | .nst ks => lcG g t e (wipeE en vs) ks [] st1
  | _ => .no := (rfl)
@[simp] theorem fIxN_eq {ks : List Nat} {i : Int} : fIxN (.nst ks) (.fz (.int i)) st = match atI ks i with
  | some k => .ok (.loc k) st
  | none => .no := (rfl)
end
end QD
namespace DC
open PySem PySem.Spec PyProof.Rows L2
section
variable {X : Cx} {i : Nat} {y : Str} {py : Pos} {kx vx tg iter : Expr} {ifs : List Expr}
variable {scope : Scope} {own : List (Str × Nat)} {pos spos : Pos} {wi : TI} {g : TG}
variable {tt : TT} {tk tv : TE}
theorem sw_dict {gs : List Comprehension} {l : Nat} {env : Env} (hk : env.scope.kind = .function)
    (hy : env.scope.names.lookup y = some .local) (hl : (py.line == pos.line) = true)
    (ha : (scope.names.any fun (n, k) => n == y && (k == .local || k == .cell)) = false) :
    swapsWith (.DictComp kx vx gs scope pos) (some (.Name y py)) l env = pure true := by
  have k1 : env.kindOf y = some .local := hy
  have k2 : env.blockKind = .function := by
    unfold Env.blockKind
    rw [hk] <;> rfl
  unfold swapsWith
  simp only [k2, k1, ha, Expr.pos, hl] <;> rfl
/-- y = {k: v for tg in iter if ..}, y a local -/
theorem ps_setDc (hc : X.calm = true) (hN : X.N.Nodup) (hy : X.N[i]? = some y)
    (hyl : X.env.scope.names.lookup y = some .local)
    (hsw : swapsWith (.DictComp kx vx [⟨tg, iter, ifs, 0⟩] scope pos) (some (.Name y py))
      spos.line X.env = pure true)
    (hi : PI X tg iter wi) (ok : BlkOk X.N X.env.scope scope own)
    (hg : ∀ (s : Shared) (H : Hp) (C : Addr) (cl : List (Str × Addr)) (fp : List Addr),
      PG (X.blk s H scope (compEnvC scope cl C X.env) fp) tg g)
    (ht : ∀ (s : Shared) (H : Hp) (C : Addr) (cl : List (Str × Addr)) (fp : List Addr),
      PTs (X.blk s H scope (compEnvC scope cl C X.env) fp) ifs tt)
    (hk : ∀ (s : Shared) (H : Hp) (C : Addr) (cl : List (Str × Addr)) (fp : List Addr),
      PE (X.blk s H scope (compEnvC scope cl C X.env) fp) kx tk)
    (he : ∀ (s : Shared) (H : Hp) (C : Addr) (cl : List (Str × Addr)) (fp : List Addr),
      PE (X.blk s H scope (compEnvC scope cl C X.env) fp) vx tv)
    (hs : ∀ x, foldedSetIterable iter X.env x = pure x := by intro _; rfl) :
    PS X (.Assign [.Name y py] (.DictComp kx vx [⟨tg, iter, ifs, 0⟩] scope pos) spos)
      (tAsg (tDc wi g tt tk tv (own.map (·.2))) (gName i)) := by
  constructor
  intro pins s σ H D I h
  rw [exec_Assign_Name_used _ _ _ _ hsw]
  refine wpAny_bind (wpAny_standAt (wpAny_bind ?_))
  have h' : tDc wi g tt tk tv (own.map (·.2)) σ H (fun x H1 => gName i x σ H1 D.nx) := h
  show wpAny _ X.A (do
    let _ ← comprehension (.DictComp kx vx [⟨tg, iter, ifs, 0⟩] scope pos) scope X.env _ newDict
      false (eval iter X.env) (some (assign (.Name y py) X.env))) _ _ s
  refine wpAny_bind (thn (dc_core (Qf := fun _ s' => SP X pins D .next s')
    hc hN I hi ok hg ht hk he hs h' ?_) fun _ s' hq => wpAny_pure (wpAny_pure hq))
  intro L C s' m H' I' q hn ⟨f0, f1, f2, f3, f4, f5⟩
  show wpAny _ _ (assign (.Name y py) X.env (.ref L)) _ _ _
  refine wpAny_assign_Name (store_ok2 (v := V.ref L) I' hN hy (.inl hyl) rfl ?_ (.inr hyl))
  intro s2 I2 ⟨a, sb, ha⟩
  have haC : C ≠ a := by
    rcases ha with z | z
    · exact fun e => f1 (e.trans z)
    · exact fun e => f4 y a z e.symm
  refine ⟨m, hn.sameBut sb haC, fun h3 sb3 => ⟨_, H', ?_, q⟩⟩
  exact I2.turned (t' := s2.toks) (fun b o hb e => (sb3.2 b hb).trans e) f0 f1 f3 f4 f5
end
end DC
/-! QE: dicts whose keys are ints or texts. -/
namespace QD
open PySem PySem.Spec PyProof.Rows L2 MG
theorem un1 {k : Nat} {A : Around} (r : Room k A) : A.units + 1 < cLine := by have := r.un; omega
section
variable {α : Type}
def valG (l : List (Key × α)) (k : Key) : Option α := (l.find? fun kv => decide (kv.1 = k)).map (·.2)
def putG (l : List (Key × α)) (k : Key) (x : α) : List (Key × α) := if (l.any fun kv => decide (kv.1 = k)) = true then l.map (fun kv => if kv.1 = k then (kv.1, x) else kv) else l ++ [(k, x)]
end
def keyD : Key → D
  | .inl i => .int i
  | .inr x => .str x
def keyW : W → Option Key
  | .fz (.int i) => some (.inl i)
  | .fz (.str x) => some (.inr x)
  | _ => none
section
variable {cf : Cf} {E : XK} {m m1 : Mo} {st : Sto} {q : Addr} {v : V} {w : W}
theorem keyW_ok {k : Key} (r : WR cf.K cf.ct m v w) (e : keyW w = some k) : v = kV k := by
  cases w with
  | fz d =>
    cases d with
    | int i => cases e; cases r; rfl
    | str x => cases e; cases r; rfl
    | _ => cases e
  | _ => cases e
theorem KvA.val {kvs : List (Key × V)} {l : List (Key × D)} (h : KvA cf.K cf.ct m kvs l) (k : Key) : (∀ d, valG l k = some d → ∃ v, valV kvs k = some v ∧ Fz cf.K cf.ct m v d) ∧ (valG l k = none → valV kvs k = none) := by
  unfold KvA at h
  induction h with
  | nil => exact ⟨(fun d e => nomatch e), fun _ => rfl⟩
  | @cons p q ps qs a t ih =>
    by_cases c : q.1 = k
    · have c' : p.1 = k := a.1.trans c
      have e : valG (q :: qs) k = some q.2 := by simp [valG, List.find?_cons, c]
      refine ⟨fun d hd => ?_, fun hn => ?_⟩
      · rw [e] at hd; cases hd; exact ⟨p.2, valV_pos c', a.2⟩
      · rw [e] at hn; cases hn
    · have c' : ¬ p.1 = k := fun z => c (a.1.symm.trans z)
      have e : valG (q :: qs) k = valG qs k := by simp [valG, List.find?_cons, c]
      rw [e, valV_neg c']
      exact ih
theorem KvA.any {kvs : List (Key × V)} {l : List (Key × D)} (h : KvA cf.K cf.ct m kvs l) (k : Key) : (kvs.any fun kv => decide (kv.1 = k)) = l.any fun kv => decide (kv.1 = k) := by
  unfold KvA at h
  induction h with
  | nil => rfl
  | @cons p q ps qs a t ih => rw [List.any_cons, List.any_cons, ih, a.1]
theorem KvA.len {kvs : List (Key × V)} {l : List (Key × D)} (h : KvA cf.K cf.ct m kvs l) : kvs.length = l.length := by
  unfold KvA at h
  induction h with
  | nil => rfl
  | cons _ _ ih => rw [List.length_cons, List.length_cons, ih]
theorem KvA.mapK {k : Key} {d : D} (f : Fz cf.K cf.ct m v d) : ∀ {kvs : List (Key × V)} {l : List (Key × D)}, KvA cf.K cf.ct m kvs l → KvA cf.K cf.ct m (kvs.map fun kv => if kv.1 = k then (kv.1, v) else kv) (l.map fun kv => if kv.1 = k then (kv.1, d) else kv)
  | _, _, .nil => .nil
  | p :: ps, q :: qs, .cons a t => by
    rw [List.map_cons, List.map_cons]
    refine .cons ?_ (KvA.mapK f t)
    by_cases c : q.1 = k
    · have c' : p.1 = k := a.1.trans c
      rw [if_pos c, if_pos c']
      exact ⟨a.1, f⟩
    · have c' : ¬ p.1 = k := fun z => c (a.1.symm.trans z)
      rw [if_neg c, if_neg c']
      exact a
theorem KvA.snoc {k : Key} {d : D} (f : Fz cf.K cf.ct m v d) : ∀ {kvs : List (Key × V)} {l : List (Key × D)}, KvA cf.K cf.ct m kvs l → KvA cf.K cf.ct m (kvs ++ [(k, v)]) (l ++ [(k, d)])
  | _, _, .nil => .cons ⟨rfl, f⟩ .nil
  | _, _, .cons a t => .cons a (KvA.snoc f t)
theorem KvA.put {kvs : List (Key × V)} {l : List (Key × D)} {k : Key} {d : D} (h : KvA cf.K cf.ct m kvs l) (f : Fz cf.K cf.ct m v d) : KvA cf.K cf.ct m (putK kvs k v) (putG l k d) := by
  unfold putK putG
  rw [h.any k]
  split
  · exact h.mapK f
  · exact h.snoc f
theorem KvA.avo {m' : Mo} {kvs : List (Key × V)} {l : List (Key × D)} (h : KvA cf.K cf.ct m kvs l) (hq : ∀ a u, Rdy m a u → ¬ m'.be a ∧ a ∉ m'.rh) (he : m'.hp = m.hp) : KvA cf.K cf.ct m' kvs l := Paired.mapP h fun p q z => ⟨z.1, Fz.avo hq he z.2⟩
theorem KvA.mvq {kvs : List (Key × V)} {l : List (Key × D)} {o : HO} (h : KvA cf.K cf.ct m kvs l) (hb : m.be q) : KvA cf.K cf.ct (m.to (upd m.hp q o)) kvs l := Paired.mapP h fun p q z => ⟨z.1, Fz.mv (mv_q hb) z.2⟩
theorem KvA.keys : ∀ {kvs : List (Key × V)} {l : List (Key × D)}, KvA cf.K cf.ct m kvs l → FzA cf.K cf.ct m (kvs.map fun kv => kV kv.1) (l.map fun kv => keyD kv.1)
  | _, _, .nil => .nil
  | p :: ps, q :: qs, .cons a t => by
    rw [List.map_cons, List.map_cons]
    refine .cons ?_ (KvA.keys t)
    rw [a.1]
    cases q.1 with
    | inl i => exact .int i
    | inr x => exact .str x
/-- a new object, shunned -/
theorem SR.shNew {o : HO} (S : SR cf.K cf.ct m st) (h : m.hp q = none) : SR cf.K cf.ct ((m.to (upd m.hp q o)).sh q) st := by
  have nr := S.out h
  have e : (m.to (upd m.hp q o)).hp q = some o := upd_same
  have st1 : Stp m (m.to (upd m.hp q o)) := Stp.one h
  have st2 : Stp (m.sh q) ((m.to (upd m.hp q o)).sh q) := ⟨fun _ h => h, fun _ h => .inl h, ⟨[], (List.append_nil _).symm, fun _ h => nomatch h⟩, st1.keep⟩
  refine ⟨S.len, S.nd, fun a z => ?_, fun a z => z.elim (S.dj a) fun z => by rw [z]; exact nr, fun n a o h1 h2 => ?_⟩
  · rcases z with z | rfl
    · show upd m.hp q _ a ≠ none
      by_cases c : a = q
      · subst c; exact some_ne e
      · rw [upd_ne c]; exact S.bl a z
    · exact some_ne e
  · have r := S.ob n a o h1 h2
    have r1 : ObR cf.K cf.ct (m.sh q) a o := r.avo (shun_new h) rfl
    exact r1.kept st2 (upd_ne fun c => r.live (by rw [c]; exact h))
theorem SR.lastAt (S : SR cf.K cf.ct m st) : (m.add q).rh[st.length]? = some q := by
  show (m.rh ++ [q])[st.length]? = some q
  rw [← S.len, List.getElem?_append_right (Nat.le_refl _), Nat.sub_self]
  rfl
/-! ### {} -/
def dDNew : Dn := fun _ st => .ok (.loc st.length) (st ++ [.dk []])
/-! ### d[k], k in d, list(d) -/
def fDGet (a b : W) (st : Sto) : Rt W := match a, keyW b with
  | .loc n, some k => match st[n]? with
    | some (.dk l) => match valG l k with
      | some d => .ok (.fz d) st
      | none => .no
    | _ => .no
  | _, _ => .no
theorem dk_at {n : Nat} {a : Addr} {l : List (Key × D)} (S : SR cf.K cf.ct m st) (h : m.rh[n]? = some a) (e : st[n]? = some (.dk l)) : ∃ kvs, m.hp a = some (.dK kvs) ∧ KvA cf.K cf.ct m kvs l := by
  obtain ⟨u, eu, hu⟩ := S.ob n a _ h e
  obtain ⟨kvs, rfl, kv⟩ := hu.dk_of
  exact ⟨kvs, eu, kv⟩
def fDIn (neg : Bool) (b a : W) (st : Sto) : Rt W := match a, keyW b with
  | .loc n, some k => match st[n]? with
    | some (.dk l) => .ok (.fz (.bool (if neg = true then !(valG l k).isSome else (valG l k).isSome))) st
    | _ => .no
  | _, _ => .no
def fLstD (w : W) (st : Sto) : Rt W := match w with
  | .loc n => match st[n]? with
    | some (.dk l) => .ok (.own (l.map fun kv => keyD kv.1)) st
    | _ => .no
  | _ => .no
/-! ### d[k] = v -/
def sDPutD (d y v : Dn) : DnS := fun en st => sBind (v en st) fun wv st1 => sBind (d en st1) fun wd st2 => sBind (y en st2) fun wy st3 => match wd, keyW wy, datW wv with
  | .loc n, some k, some x => match st3[n]? with
    | some (.dk l) => if l.length < 100000 then .go en (st3.set n (.dk (putG l k x))) else .no
    | _ => .no
  | _, _, _ => .no
/-! ### {k: v for .. in .. if ..} -/
open Classical in
noncomputable def lcD (s : Src) (g : DnG) (t : DnT) (ek ev : Dn) (en0 : En) : List D → List (Key × D) → Sto → Rt W
  | [], acc, st => if s.ok st then .ok (.loc st.length) (st ++ [.dk acc]) else .no
  | d :: ds, acc, st => if s.ok st then (nox (g (.fz d) en0 st)).bind fun en2 st2 => (nox (t en2 st2)).bind fun b st3 =>
      if b = true then (nox (ek en2 st3)).bind fun w st4 => match keyW w with
        | some k => (nox (ev en2 st4)).bind fun w2 st5 => match datW w2 with
          | some y => if acc.length < 100000 then lcD s g t ek ev en0 ds (putG acc k y) st5 else .no
          | none => .no
        | none => .no
      else lcD s g t ek ev en0 ds acc st3
    else .no
noncomputable def dDc (i : En → Sto → Rt Src) (g : DnG) (t : DnT) (ek ev : Dn) (vs : List Nat) : Dn := fun en st => (i en st).bind fun s st1 => lcD s g t ek ev (wipeE en vs) s.l [] st1
theorem ev_dc {wi : TI} {g : TG} {tt : TT} {tk te : TE} {vs : List Nat} {i : En → Sto → Rt Src} {d : DnG} {t : DnT} {ek e : Dn} (hi : Ei cf E wi i) (hg : Eg cf noE vs g d) (ht : Et cf noE tt t) (hk : Ev cf noE tk ek) (he : Ev cf noE te e) : Ev cf E (tDc wi g tt tk te vs) (dDc i d t ek e vs) := fun m σ en st Q er S h => by
  refine hi m σ en st _ er S ?_
  unfold dDc at h
  cases e0 : i en st with
  | ex c p st1 => rw [e0] at h; exact h
  | no => rw [e0] at h; exact h
  | ok s st1 =>
    rw [e0, Rt.bind_ok] at h
    intro J m1 s1 S1 it q hq
    have nq : q ∉ m1.rh := S1.out hq
    have nb : ¬ m1.be q := fun z => S1.bl q z hq
    have S2 := S1.shNew (o := .dK []) hq
    have sM : Stp m1 ((m1.to (upd m1.hp q (.dK []))).sh q) := ⟨fun a h => .inl h, fun a h => h.imp id fun z => by subst z; exact ⟨nq, hq⟩, ⟨[], (List.append_nil _).symm, fun _ h => nomatch h⟩, (Stp.one hq).keep⟩
    refine ⟨fun k n H => ∃ (M : Mo) (xs : List (Key × V)) (acc : List (Key × D)) (st' : Sto), n = s.l.length - k ∧ k ≤ s.l.length ∧ H = M.hp ∧ Stp m1 M ∧ M.be q ∧ q ∉ M.rh ∧ M.hp q = some (.dK xs) ∧ KvA cf.K cf.ct M xs acc ∧ SR cf.K cf.ct M st' ∧
      Pe cf E m Q (lcD s d t ek e (wipeE en vs) (s.l.drop k) acc st'), ⟨s.l.length, _, [], [], st1, by simp, Nat.zero_le _, rfl, sM, .inr rfl, nq, upd_same, .nil, S2, h⟩, ?_⟩
    rintro k n _ ⟨M, xs, acc, st', rfl, hk', rfl, sm, bq, nqM, hqM, fa, S', hp⟩
    have er' : ER cf.K cf.ct M (wipe σ vs) (wipeE en vs) := ((er.to s1).to sm).wipe vs
    by_cases c : k < s.l.length
    · have hd : s.l.drop k = s.l[k] :: s.l.drop (k + 1) := List.drop_eq_getElem_cons c
      rw [hd] at hp
      unfold lcD at hp
      split at hp
      case isFalse => exact hp.elim
      case isTrue ok =>
        obtain ⟨_, go⟩ := it M st' k sm.stb S' ok
        obtain ⟨g1, g2⟩ := go s.l[k] (List.getElem?_eq_getElem c)
        refine .inr ⟨g1, fun H2 => ∃ (M2 : Mo) (xs2 : List (Key × V)) (acc2 : List (Key × D)) (st2 : Sto), H2 = M2.hp ∧ Stp m1 M2 ∧ M2.be q ∧ q ∉ M2.rh ∧ M2.hp q = some (.dK xs2) ∧ KvA cf.K cf.ct M2 xs2 acc2 ∧ SR cf.K cf.ct M2 st2 ∧
            Pe cf E m Q (lcD s d t ek e (wipeE en vs) (s.l.drop (k + 1)) acc2 st2),
          fun H2 ⟨M2, xs2, acc2, st2, q1, q2, q3, q4, q5, q6, q7, q8⟩ => ⟨s.l.length - (k + 1), by omega, M2, xs2, acc2, st2, rfl, c, q1, q2, q3, q4, q5, q6, q7, q8⟩, fun x H' y => ?_⟩
        obtain ⟨sH, fx⟩ := g2 x H' y
        have sx : Stp M (M.to H') := .same sH
        refine hg (M.to H') (wipe σ vs) (wipeE en vs) st' x (.fz s.l[k]) _ (er'.to sx) (S'.same sH) fx ?_
        cases e2 : nox (d (.fz s.l[k]) (wipeE en vs) st') with
        | ex c p st2 => rw [e2] at hp; cases hr : d (.fz s.l[k]) (wipeE en vs) st' <;> rw [hr] at e2 <;> cases e2
        | no => rw [e2] at hp; exact hp.elim
        | ok en2 st2 =>
          rw [e2, Rt.bind_ok] at hp
          rw [Pe_nox e2]
          intro σ2 M2 s2 er2 S2' k2 l2
          refine ⟨wipe_eq (by rw [l2, wipe_length]) k2, ?_⟩
          refine ht M2 σ2 en2 st2 _ er2 S2' ?_
          have sx2 := sx.trans s2
          cases e3 : nox (t en2 st2) with
          | ex c p st3 => rw [e3] at hp; cases hr : t en2 st2 <;> rw [hr] at e3 <;> cases e3
          | no => rw [e3] at hp; exact hp.elim
          | ok b st3 =>
            rw [e3, Rt.bind_ok] at hp
            rw [Pe_nox e3]
            intro M3 s3 S3
            have sx3 := sx2.trans s3
            have live : M.hp q ≠ none := some_ne hqM
            cases b with
            | false =>
              rw [if_neg Bool.false_ne_true] at hp ⊢
              exact ⟨M3, xs, acc, st3, rfl, sm.trans sx3, sx3.bl q bq, sx3.out nqM live, sx3.keep q _ nqM hqM, fa.to sx3, S3, hp⟩
            | true =>
              rw [if_pos rfl] at hp ⊢
              refine hk M3 σ2 en2 st3 _ (er2.to s3) S3 ?_
              cases e4 : nox (ek en2 st3) with
              | ex c p st4 => rw [e4] at hp; cases hr : ek en2 st3 <;> rw [hr] at e4 <;> cases e4
              | no => rw [e4] at hp; exact hp.elim
              | ok w st4 =>
                rw [e4, Rt.bind_ok] at hp
                rw [Pe_nox e4]
                intro v M4 r4
                cases e5 : keyW w with
                | none => rw [e5] at hp; exact hp.elim
                | some kk =>
                  rw [e5] at hp
                  dsimp only at hp
                  obtain rfl := keyW_ok r4.wr e5
                  refine he M4 σ2 en2 st4 _ ((er2.to s3).to r4.stp) r4.sr ?_
                  cases e6 : nox (e en2 st4) with
                  | ex c p st5 => rw [e6] at hp; cases hr : e en2 st4 <;> rw [hr] at e6 <;> cases e6
                  | no => rw [e6] at hp; exact hp.elim
                  | ok w2 st5 =>
                    rw [e6, Rt.bind_ok] at hp
                    rw [Pe_nox e6]
                    intro v2 M5 r5
                    have sx5 := (sx3.trans r4.stp).trans r5.stp
                    cases e7 : datW w2 with
                    | none => rw [e7] at hp; exact hp.elim
                    | some y =>
                      rw [e7] at hp
                      dsimp only at hp
                      split at hp
                      case isFalse => exact hp.elim
                      case isTrue hl =>
                        have hq5 : M5.hp q = some (.dK xs) := sx5.keep q _ nqM hqM
                        have bq5 : M5.be q := sx5.bl q bq
                        have nq5 : q ∉ M5.rh := sx5.out nqM live
                        have fa5 : KvA cf.K cf.ct M5 (putK xs kk v2) (putG acc kk y) := (fa.to sx5).put (dat_ok r5.wr e7)
                        exact ⟨xs, kk, rfl, hq5, by rw [fa.len]; exact Nat.lt_of_lt_of_le hl (by decide), M5.to (upd M5.hp q (.dK (putK xs kk v2))), putK xs kk v2, putG acc kk y, st5, rfl, (sm.trans sx5).chq hq nq, bq5, nq5, upd_same, fa5.mvq bq5, r5.sr.chq bq5 nq5, hp⟩
    · have ek' : k = s.l.length := by omega
      subst ek'
      rw [List.drop_length] at hp
      unfold lcD at hp
      split at hp
      case isFalse => exact hp.elim
      case isTrue ok =>
        refine .inl ⟨(it M st' _ sm.stb S' ok).1 (Nat.le_refl _) (Nat.le_refl _), ?_⟩
        have hA : ∀ a u, Rdy M a u → ¬ ((⟨m1.be, M.rh, M.hp⟩ : Mo).sh q).be a ∧ a ∉ ((⟨m1.be, M.rh, M.hp⟩ : Mo).sh q).rh := fun a u h => ⟨fun z => h.2.1 (Or.elim z (sm.bl a) fun e => by rw [e]; exact bq), h.1⟩
        have SQ : SR cf.K cf.ct ((⟨m1.be, M.rh, M.hp⟩ : Mo).sh q) st' := SR.avo (m' := (⟨m1.be, M.rh, M.hp⟩ : Mo).sh q) S' rfl hA rfl (fun a h => S'.bl a (Or.elim h (sm.bl a) fun e => by rw [e]; exact bq)) fun a h => S'.dj a (Or.elim h (sm.bl a) fun e => by rw [e]; exact bq)
        have ob : ObR cf.K cf.ct ((⟨m1.be, M.rh, M.hp⟩ : Mo).sh q) q (.dk acc) := ⟨.dK xs, hqM, fa.avo hA rfl⟩
        have SA := SR.add (m := ⟨m1.be, M.rh, M.hp⟩) SQ nqM nb ob
        have sA : Stp m (⟨m1.be, M.rh, M.hp⟩ : Mo) := s1.trans ⟨fun _ h => h, fun _ h => .inl h, sm.ext, sm.keep⟩
        refine hp (.ref q) ((⟨m1.be, M.rh, M.hp⟩ : Mo).add q) (.loc (Stp.add sA nqM (s1.new nq hq)) SA ?_)
        exact SR.lastAt (m := ⟨m1.be, M.rh, M.hp⟩) (st := st') SQ.off
end
section
variable {en : En} {st : Sto}
@[simp] theorem dDNew_eq : dDNew en st = .ok (.loc st.length) (st ++ [.dk []]) := (rfl)
@[simp] theorem keyW_int {i : Int} : keyW (.fz (.int i)) = some (.inl i) := (rfl)
@[simp] theorem keyW_str {i : Str} : keyW (.fz (.str i)) = some (.inr i) := (rfl)
@[simp] theorem dDc_eq {i : En → Sto → Rt Src} {g : DnG} {t : DnT} {ek ev : Dn} {vs : List Nat} : dDc i g t ek ev vs en st = (i en st).bind fun s st1 => lcD s g t ek ev (wipeE en vs) s.l [] st1 := (rfl)
end
end QD
/-! QL: list(range(..)), o[i] op= e, any of ints. -/
namespace QD
open PySem PySem.Spec PyProof.Rows L2 MG
/-! ### any, all of ints -/
section
variable {X : Cx}
def rAnyI (K : PySem.W.Frag) : List V → Hp → VK → Prop := fun vs H Q => ∃ (a : Addr) (ns : List Int), vs = [V.ref a] ∧ SqL K H a (ns.map V.int) ∧ Q (.bl (ns.any fun n => n != 0)) H
end
section
variable {cf : Cf} {E : XK} {m m1 : Mo} {st : Sto} {q : Addr} {v : V} {w : W}
def fAnyI (w : W) (st : Sto) : Rt W := match (seqR st w).bind intL with
  | some ns => .ok (.fz (.bool (ns.any fun n => n != 0))) st
  | none => .no
/-! ### list(range(a, b)) -/
def dLstRg (a b : Dn) : Dn := fun en st => (a en st).bind fun x st1 => (b en st1).bind fun y st2 => match intW x, intW y with
  | some i, some j => if 0 ≤ i ∧ i ≤ 100000 ∧ 0 ≤ j ∧ j ≤ 100000 then .ok (.own ((List.range (j - i).toNat).map fun k => .int (i + (k : Nat)))) st2 else .no
  | _, _ => .no
@[simp] theorem dLstRg_eq {a b : Dn} {en : En} {st : Sto} : dLstRg a b en st = (a en st).bind fun x st1 => (b en st1).bind fun y st2 => match intW x, intW y with
  | some i, some j => if 0 ≤ i ∧ i ≤ 100000 ∧ 0 ≤ j ∧ j ≤ 100000 then .ok (.own ((List.range (j - i).toNat).map fun k => .int (i + (k : Nat)))) st2 else .no
  | _, _ => .no := (rfl)
end
/-! ### o[i] op= e -/
section
variable {X : Cx}
def rGetP (K : PySem.W.Frag) : V → V → Hp → VK → Prop := fun o i H Q => ∃ (p : Addr) (xs : List V) (k : Nat) (z : V), o = .ref p ∧ i = .int (k : Int) ∧ k < 100000 ∧ SqL K H p xs ∧ xs[k]? = some z ∧ Q z H
end
section
variable {cf : Cf} {E : XK} {m m1 : Mo} {st : Sto}
def sAugSD (g : Int → Int → Int) (o i e : Dn) : DnS := fun en st => sBind (o en st) fun wo st1 => sBind (i en st1) fun wi st2 => match wo, wi with
  | .loc n, .fz (.int k) => match st2[n]? with
    | some (.lst l) => match l[k.toNat]? with
      | some (.int x) => if 0 ≤ k ∧ k < 100000 then sBind (e en st2) fun we st3 => match we, st3[n]? with
          | .fz (.int y), some (.lst l') => if k.toNat < l'.length ∧ l'.length < 100000 then .go en (st3.set n (.lst (l'.set k.toNat (.int (g x y))))) else .no
          | _, _ => .no
        else .no
      | _ => .no
    | _ => .no
  | _, _ => .no
end
end QD
/-! XA: own errors with one field (over ValueError, LookupError, ArithmeticError): made, raised. -/
namespace XE
open PySem PySem.W PySem.Calls PyProof.Rows PySem.HandSPX Builtin Builtin.ObjectAttr
/-- the text of such an __init__ -/
def ixA (f : Str) (p1 p2 : Pos) : Arguments := { posonlyargs := [], args := [{ arg := "self", annotation := none, pos := p1 }, { arg := f, annotation := none, pos := p2 }], vararg := none, kwonlyargs := [], kw_defaults := [], kwarg := none, defaults := [] }
def ixB (f : Str) (q1 q2 q3 q4 : Pos) : List Stmt := [.Assign [.Attribute (.Name "self" q1) f q2] (.Name f q3) q4]
def ixS (f : Str) : Scope := { kind := .function, names := [(PySem.Str.ofString "self", .local), (f, .local)], isGenerator := false, isCoroutine := false, more := [] }
/-- a built-in class over which own errors stand -/
structure Bas where
  nm : String
  nw : String
  ini : String
  ro : List Value
structure Bas.Ok (b : Bas) : Prop where
  fb : ExcBaseFacts b.nm b.nw b.ini b.ro
  sf : StoreFacts b.nm b.ro "object.__setattr__" "object"
def bVE : Bas := ⟨"ValueError", "ValueError.__new__", "ValueError.__init__", [.type "ValueError", .type "Exception", .type "BaseException", .type "object"]⟩
def bLE : Bas := ⟨"LookupError", "LookupError.__new__", "LookupError.__init__", [.type "LookupError", .type "Exception", .type "BaseException", .type "object"]⟩
def bAE : Bas := ⟨"ArithmeticError", "ArithmeticError.__new__", "ArithmeticError.__init__", [.type "ArithmeticError", .type "Exception", .type "BaseException", .type "object"]⟩
theorem okVE : bVE.Ok := ⟨F.excBase_ValueError, F.store_ValueError⟩
/-- what the written part says of an own error's class nm (at C), of its __init__ (at fI) that keeps the field f -/
structure ErT (K : Frag) (mg : Str → Option Value) (C fI : Addr) (nm f : Str) (b : Bas) : Prop where
  gC : mg nm = some (.ref C)
  cls : excInitIn K C b.ro b.nw = true
  ov : excOver K C b.ro = true
  sa : findIn K (.ref C) "__setattr__" = some (some (.builtin "object.__setattr__"))
  noN : findIn K (.ref C) f = some none
  iC : findIn K (.ref C) "__init__" = some (some (.ref fI))
  tC : typeIn K (.ref fI) = some (.type "function")
  kC : keepIn K (.ref C) = true
  exC : subIn K (.ref C) (.type "BaseException") = some true
  tyC : typeIn K (.ref C) = some (.type "type")
  hdC : hasDictIn K C = true
  fn : ∃ (oc : Value) (od : Option Addr) (doc pm : Value) (an : Option Addr) (cdv ct : Value) (osl : Array (Option Value)) (p1 p2 q1 q2 q3 q4 : Pos) (qn : Str),
    K.lookup fI = some ⟨oc, od, .func (fnOf "__init__" qn (ixA f p1 p2) (ixB f q1 q2 q3 q4) (ixS f) .none .none doc pm an cdv ct), osl⟩ ∧ codeIn K cdv qn = true
theorem line1 (v : Value) : [v].length ≤ sizeLine := by
  rw [sizeLine_eq, List.length_singleton]
  decide
section
variable {prog : Program} {w : World} {A : Around} {E : Value → Shared → Prop} {R : Result → Shared → Prop}
/-- a first field is stored -/
theorem er_store {b : Bas} {K : Frag} {hp : Heap} {g : Array GenState} {d : Drawn} {t : Nat} {os : OsState} {x C t0 : Addr} {name : Str} {tk : Tok} {v : Value}
    (ok : b.Ok) (X : K.In hp) (hx : hp.get? x = some (excO C t0)) (hov : excOver K C b.ro = true) (hd : hasDictIn K C = true) (hno : findIn K (.ref C) name = some none)
    (hq : ∀ h' tk' dx, (∀ c o, c ≠ x → hp.get? c = some o → h'.get? c = some o) → hp.objs.size ≤ dx → dx ≠ x →
      h'.get? x = some { cls := .ref C, dict := some dx, data := .fields #[.ref t0, .none, .none, .none, .bool false, .none] } →
      h'.Ns1 dx (fun y => if y = name then some v else none) → R (.ok (.ret .none)) ⟨h', g, d, tk', os⟩) :
    codeAny (model prog w) A (.call (.builtin "object.__setattr__") ⟨[.ref x, .str name tk, v], []⟩) R ⟨hp, g, d, t, os⟩ := by
  have I : InstAt hp x (excO C t0) C none := ⟨hx, rfl, rfl, trivial⟩
  obtain ⟨cd, hcd, hhd⟩ := any_some hd
  have hcls : Looks (model prog w) hp (classData C) cd := looks_clsIn X hcd
  have hxs : x ≠ hp.objs.size := Nat.ne_of_lt (Heap.lt_size hx)
  refine osa_openX (r := none) ok.sf X I hov (L2.NoAttr.taker hno) fun b' => ?_
  show wpAny _ _ (storeInOwnDict (.ref x) (.ref C) (.str name tk) name v b') _ _ _
  obtain ⟨nm, bs, mro, ns, qn, hd', sn, sb, ab, col, del⟩ := cd
  dsimp only at hhd
  subst hhd
  unfold storeInOwnDict ownDictForStores
  repeat (first | with_reducible refine store_in_new ?_ ?_ | with_reducible refine wpAny_loadPart_at hx ?_ | with_reducible refine hcls.at ?_ | wp_step)
  · exact ⟨_, #[], _, (Heap.get?_update_ne _ _ _ _ hxs.symm).trans (Heap.get?_push_at rfl rfl), rfl, fun e he => absurd he (by simp), fun _ => rfl⟩
  · intro h' tk' hn' hs
    have hx1 : (hp.push { cls := .type "dict", data := .dict #[] }).get? x = some (excO C t0) := Heap.get?_push_of_some _ hx
    refine hq h' tk' hp.objs.size (fun c o hc ho => ?_) (Nat.le_refl _) hxs.symm ?_ hn'
    · have z1 := Heap.get?_push_of_some (h := hp) { cls := .type "dict", data := .dict #[] } ho
      exact (hs.2 c (Nat.ne_of_lt (Heap.lt_size ho))).trans ((Heap.get?_update_ne _ _ _ _ hc).trans z1)
    · exact (hs.2 x hxs).trans (Heap.get?_update_self _ hx1 rfl)
end
theorem ldE {M : Model} {s : Shared} {name : Str} {scope : Scope} {L a : Addr} {cd : Value} {m : Str → Option Value} {x : Str} {pos : Pos} {v : Value} {Q : Value → Shared → Prop} {A : Around} {E : Value → Shared → Prop} (hn : s.heap.Ns L m) (hv : m x = some v) (h : Q v s)
    (hk : scope.kind = .function) (hl : (envOfC name scope L a cd).kindOf x = some .local) (hd : (x == ("__debug__" : Str)) = false) :
    wpAny M A (eval (.Name x pos) (envOfC name scope L a cd)) Q E s := wpAny_Name (wpAny_loadName_local hk hl hn hv h) hd
/-- what __init__ leaves of a fresh error at x -/
structure IniE (f : Str) (h h' : Heap) (x C dx t1 : Addr) (v : Value) : Prop where
  keep : ∀ b o, b ≠ x → h.get? b = some o → h'.get? b = some o
  obj : h'.get? x = some { cls := .ref C, dict := some dx, data := .fields #[.ref t1, .none, .none, .none, .bool false, .none] }
  big : h.objs.size ≤ dx
  ne : dx ≠ x
  ns : h'.Ns1 dx (fun y => if y = f then some v else none)
structure MadE (f : Str) (h h' : Heap) (e C d : Addr) (v : Value) : Prop where
  keep : ∀ b o, h.get? b = some o → h'.get? b = some o
  new : h.objs.size ≤ e
  obj : ∃ oe vs, h'.get? e = some oe ∧ oe.cls = .ref C ∧ oe.dict = some d ∧ oe.data = .fields vs ∧ vs[1]? = some .none
  big : h.objs.size ≤ d
  ne : d ≠ e
  ns : h'.Ns1 d (fun y => if y = f then some v else none)
section
variable {prog : Program} {w : World} {A : Around} {E : Value → Shared → Prop} {R : Result → Shared → Prop} {s : Shared} {K : Frag} {mg : Str → Option Value} {C fI : Addr} {nm f : Str} {b : Bas}
/-- a field's name that such a text can have -/
structure FldN (f : Str) : Prop where
  bd : ∀ (qn : Str) (doc pm : Value) (an : Option Addr) (cdv ct : Value) (p1 p2 q1 q2 q3 q4 : Pos) (s : Shared) (x : Addr) (v : Value), BindsTo s (fnOf "__init__" qn (ixA f p1 p2) (ixB f q1 q2 q3 q4) (ixS f) .none .none doc pm an cdv ct) ⟨[.ref x, v], []⟩ [(PySem.Str.ofString "self", .ref x), (f, v)]
  ks : (ixS f).names.lookup f = some .local
  ne : (f == PySem.Str.ofString "self") = false
  db : (f == ("__debug__" : Str)) = false
theorem fldN_given : FldN "given" := ⟨fun _ _ _ _ _ _ _ _ _ _ _ _ _ _ _ => BindsTo.of_eq (by first | rfl | with_unfolding_all rfl), rfl, by decide, by decide⟩
theorem fldN_index : FldN "index" := ⟨fun _ _ _ _ _ _ _ _ _ _ _ _ _ _ _ => BindsTo.of_eq (by first | rfl | with_unfolding_all rfl), rfl, by decide, by decide⟩
theorem er_init (ok : b.Ok) (fn : FldN f) (T : ErT K mg C fI nm f b) {x t0 : Addr} {v : Value} (X : K.In s.heap) (hlim : s.heap.NoLimit) (hx : s.heap.get? x = some (excO C t0)) (hroom : A.depth < recursionLimit)
    (hq : ∀ h' tk dx, IniE f s.heap h' x C dx t0 v → R (.ok (.ret .none)) { s with heap := h', toks := tk }) :
    codeAny (model prog w) A (.call (.ref fI) ⟨[.ref x, v], []⟩) R s := by
  obtain ⟨oc, od, doc, pm, an, cdv, ct, osl, p1, p2, q1, q2, q3, q4, qn, ho, hcd⟩ := T.fn
  have ks : (ixS f).names.lookup (PySem.Str.ofString "self") = some NameKind.local := rfl
  refine Att.call_fn (binds := [(PySem.Str.ofString "self", .ref x), (f, v)]) X hlim ho hcd hroom (fn.bd _ _ _ _ _ _ _ _ _ _ _ _ _ _ _) ?_ (fun s1 IC => ?_) rfl rfl rfl
  · rw [List.all_cons, List.all_cons, List.all_nil, ks, fn.ks]
    rfl
  obtain ⟨h1, tk1, rfl⟩ := IC.toInCall.same
  have k : ∀ b o, s.heap.get? b = some o → h1.get? b = some o := IC.toInCall.keep
  have hn := IC.toInCall.ns
  have hxL : s.heap.objs.size ≠ x := Nat.ne_of_gt (Heap.lt_size hx)
  have X1 : K.In h1 := X.keeps k
  have hx1 := k _ _ hx
  have nd : [PySem.Str.ofString "self", f].Nodup := by
    rw [List.nodup_cons, List.mem_singleton]
    exact ⟨fun z => by have := fn.ne; rw [← z] at this; simp at this, by simp⟩
  have g0 := L2.bindL_get (kindOf := (envOfC qn (ixS f) s.heap.objs.size fI cdv).kindOf) (vs := [Value.ref x, v]) (m := fun _ => none) nd (i := 0) (x := PySem.Str.ofString "self") rfl rfl ks
  have g1 := L2.bindL_get (kindOf := (envOfC qn (ixS f) s.heap.objs.size fI cdv).kindOf) (vs := [Value.ref x, v]) (m := fun _ => none) nd (i := 1) (x := f) rfl rfl fn.ks
  show wpAny _ _ (execs _ _) _ _ _
  refine wpAny_execs_cons (plainObj_wpAny_Assign_Attribute ?_)
  refine ldE (v := v) hn g1 (ldE (v := .ref x) hn g0 ?_ rfl ks (by decide)) rfl fn.ks fn.db
  refine set_plain X1 (ox := excO C t0) (od := none) ⟨hx1, rfl, rfl, trivial⟩ T.sa ?_
  refine er_store ok X1 hx1 T.ov T.hdC T.noN fun h3 tk3 dx k3 dn dne hx3 hn3 => ?_
  show wpAny _ _ (execs _ _) _ _ _
  have z : s.heap.objs.size < h1.objs.size := hn.lt
  exact wpAny_execs_nil (hq h3 tk3 dx ⟨fun c o hb e => k3 c o hb (k c o e), hx3, Nat.le_of_lt (Nat.lt_of_lt_of_le z dn), dne, hn3⟩)
theorem er_made (ok : b.Ok) (fn : FldN f) (T : ErT K mg C fI nm f b) {v : Value} (X : K.In s.heap) (hlim : s.heap.NoLimit) (hroom : A.depth + 1 < recursionLimit)
    (hq : ∀ h' tk e d, MadE f s.heap h' e C d v → R (.ok (.ret (.ref e))) { s with heap := h', toks := tk }) :
    codeAny (model prog w) A (.call (.ref C) ⟨[v], []⟩) R s := by
  obtain ⟨nm', N, qn, bs, bm, hdct, sn, sub, ab, col, dd, k0, k1, k2, k3, k5, hC, hT⟩ := excInit_of X T.cls
  obtain ⟨hp, g, dr, tk, os⟩ := s
  have kk : ∀ c o, hp.get? c = some o → ((hp.push (kdv_tup [v])).push (excO C hp.objs.size)).get? c = some o := fun c o e => Heap.get?_push_of_some _ (Heap.get?_push_of_some _ e)
  have hget : ((hp.push (kdv_tup [v])).push (excO C hp.objs.size)).get? (hp.objs.size + 1) = some (excO C hp.objs.size) := by heap_get
  refine call_own ok.fb hT hC (looks_findIn X T.iC) (fun self => bind_fn X self T.tC) (line1 v) ?_
  refine er_init (s := ⟨(hp.push (kdv_tup [v])).push (excO C hp.objs.size), g, dr, tk, os⟩) ok fn T (X.keeps kk) (hlim.keeps kk) hget ?_ fun h' tk' dx ⟨k', hx, dn, dne, hns⟩ => ?_
  · show A.depth + 1 < recursionLimit
    exact hroom
  · have old : ∀ c o, hp.get? c = some o → h'.get? c = some o := fun c o e => k' c o (Nat.ne_of_lt (Nat.lt_succ_of_lt (Heap.lt_size e))) (kk c o e)
    have z : hp.objs.size + 1 + 1 ≤ dx := by
      have q := dn
      rw [Heap.size_push, Heap.size_push] at q
      exact q
    exact ⟨rfl, hq h' tk' (hp.objs.size + 1) dx ⟨old, Nat.le_succ _, ⟨_, _, hx, rfl, rfl, rfl, rfl⟩, Nat.le_trans (Nat.le_trans (Nat.le_succ _) (Nat.le_succ _)) z, dne, hns⟩⟩
end
end XE
/-! XB: an own error raised; defs that let errors out. -/
namespace QD
open PySem PySem.Spec PyProof.Rows L2 MG XE
theorem relO_one {v : V} {v' : Value} (r : RelV v v') (f g : Str) : RelO (List.lookup g [(f, v)]) (if g = f then some v' else none) := by
  by_cases c : g = f
  · subst c
    rw [if_pos rfl, List.lookup_cons_self]
    exact r
  · rw [if_neg c]
    have q : (g == f) = false := by simpa using c
    simp [List.lookup, q]
    trivial
section
variable {X : Cx} {C fI : Addr} {nm f : Str} {b : Bas}
/-- nm(e): an error that keeps e under f -/
def tMkE (C : Addr) (f : Str) (ta : TA) : L2.St → Hp → XK → Prop := fun σ H Q => ta σ H fun vs H1 => ∃ v, vs = [v] ∧ ∀ d, H1 d = none → Q (.ref C) (some d) (upd H1 d (.xd [(f, v)]))
theorem pmk_er {a : Expr} {ta : TA} {p pos : Pos} {k : Nat} (ok : b.Ok) (fn : FldN f) (T : ErT X.K X.mg C fI nm f b) (hr : Room k X.A) (ha : PA X [a] ta) (hg : Gl X nm) (hdb : (nm == ("__debug__" : Str)) = false := by decide)
    (he : starEach (a :: []) X.env = (false, eval a X.env) :: starEach [] X.env := by rfl) (hpl : (backTo pos (starEach [] X.env)).any (·.1) = false := by rfl) :
    PMk X (.Call (.Name nm p) [a] [] pos) (tMkE C f ta) := by
  intro pins s σ H Q I h
  refine wpAny_Call_Name_kw (ld_glob I hg T.gC ?_ hdb)
  refine PySem.W.callWith_K (h₀ := X.base) I.ok.mod.kin T.kC (thn (ha.run pos pins s σ H _ I h) fun us s1 hh => ?_) he hpl
  obtain ⟨vs, H1, I1, r1, v, ev, q1⟩ := hh
  subst ev
  refine ⟨I1.kIn, ?_⟩
  cases r1 with
  | cons rv rn =>
    rename_i v' us'
    cases rn
    show wpAny _ _ (call (.ref C) [v']) _ _ _
    have hlim := I1.nolimit
    obtain ⟨hp, g, dr, tk, os⟩ := s1
    refine wpAny_call (er_made ok fn T I1.kIn hlim (by have := hr.dp; omega) fun h' tk' e d M => ?_)
    show MkP X pins σ Q (.ref e) ⟨h', g, dr, tk', os⟩
    obtain ⟨oe, fv, hoe, hc, hd, hdat, h1⟩ := M.obj
    have hns := M.ns
    obtain ⟨G, g1, g2⟩ := restrict h' fun b => decide (b ≠ e)
    have gk : ∀ b, b ≠ e → G.get? b = h'.get? b := fun b hb => g1 b (decide_eq_true hb)
    have ge : G.get? e = none := g2 e (by simp)
    have old : ∀ b o, hp.get? b = some o → G.get? b = some o := fun b o q => (gk b (Nat.ne_of_lt (Nat.lt_of_lt_of_le (Heap.lt_size q) M.new))).trans (M.keep b o q)
    have ob : ObjOk X.prog X.w (upd H1 d (.xd [(f, v)])) G d (.xd [(f, v)]) := ⟨_, hns.at (fun o q => (gk d M.ne).trans q), fun y => relO_one rv f y⟩
    have J : Inv X pins σ (upd H1 d (.xd [(f, v)])) ⟨G, g, dr, tk', os⟩ := I1.laid (t' := tk') old M.big ob
    refine ⟨e, oe, fv, ⟨G, g, dr, tk', os⟩, _, .ref C, some d, rfl, J, fun b o q => ?_, ge, hoe, ⟨hc, hd⟩, hdat, h1, ?_, rfl, I1.bare, raises_own T.exC T.tyC, q1 d (I1.hok.fresh M.big)⟩
    · by_cases hb : b = e
      · have q' : G.get? b = some o := q
        rw [hb, ge] at q'; cases q'
      · exact (gk b hb).symm.trans q
    · rw [upd_ne (Ne.symm M.ne)]
      exact I1.hok.fresh M.new
/-- raise nm(e) -/
def tRs (C : Addr) (f : Str) (E : XK) (ta : TA) : TS := fun _ σ H => tMkE C f ta σ H fun cls d H' => E cls d H'
theorem ps_rs {E : XK} {a : Expr} {ta : TA} {p pos pos2 : Pos} {k : Nat} (hc : X.calm = true) (tk : Takes X fun cls d _ H => E cls d H) (ok : b.Ok) (fn : FldN f) (T : ErT X.K X.mg C fI nm f b) (hr : Room k X.A) (ha : PA X [a] ta) (hg : Gl X nm)
    (hdb : (nm == ("__debug__" : Str)) = false := by decide) (he : starEach (a :: []) X.env = (false, eval a X.env) :: starEach [] X.env := by rfl) (hpl : (backTo pos (starEach [] X.env)).any (·.1) = false := by rfl) :
    PS X (.Raise (some (.Call (.Name nm p) [a] [] pos)) none pos2) (tRs C f E ta) := ps_raise hc tk (pmk_er ok fn T hr ha hg hdb he hpl)
end
section
variable {cf : Cf} {E : XK} {m m1 : Mo} {st : Sto}
/-- raise: the error's class by its name c, its field f -/
def sRs (c f : Str) (a : DnA) : DnS := fun en st => sBind (a en st) fun ws st1 => match datWs ws with
  | some [d] => .ex c (some (f, d)) st1
  | _ => .no
theorem es_rs {c f : Str} {C : Addr} {t : TA} {a : DnA} (hc : cf.ce c = C) (ha : Ea cf E t a) : Es cf E (tRs C f E t) (sRs c f a) := fun m σ en st D er S h => by
  subst hc
  refine ha m σ en st _ er S ?_
  unfold sRs at h
  cases e : a en st with
  | ex c' p st1 => rw [e] at h; exact h
  | no => rw [e] at h; exact h
  | ok ws st1 =>
    rw [e, sBind_ok] at h
    intro vs m1 s1 S1 r1
    cases e2 : datWs ws with
    | none => rw [e2] at h; exact h.elim
    | some ds =>
      rw [e2] at h
      match ds, e2, h with
      | [d], e2, h =>
        have fz := dats_ok r1 e2
        cases fz with
        | cons f1 f2 =>
          cases f2
          rename_i v
          refine ⟨v, rfl, fun x hx => ?_⟩
          have one := Stp.one (m := m1) (o := .xd [(f, v)]) hx
          exact h (m1.to (upd m1.hp x (.xd [(f, v)]))) (some x) (s1.trans one) (S1.new hx) ⟨x, v, rfl, S1.out hx, fun z => S1.bl x z hx, upd_same, f1.to one⟩
/-- what a callee lets out reaches what is wished here -/
theorem pass_of {P : Program} {w : World} {X : Cx} (hP : X.prog = P) (hw : X.w = w) (tk : Takes X fun cls d _ H => E cls d H) : Passes (L2.CX P w) X E := by
  subst hP hw
  exact passes_call tk fun _ _ _ _ h => h
end
section
variable {P : Program} {w : World} {K : PySem.W.Frag} {mg : Str → Option Value} {base : Heap}
/-- a def that may let errors out -/
theorem fnX {cf : Cf} {x qual : Str} {st : Stmt} {f : Addr} {fd : FuncData} {N ps : List Str} {k n : Nat} {b : DnS} (F : Fun K x qual st f fd) (S : FnScope N ps (defScope st)) (hp : ps.length = n)
    (hbody : ∀ (cdv : Value) (A : Around) (outer : List Env) (s : Shared) (H : Hp) (E : XK), Room k (A.deeper (envOfC qual (defScope st) s.heap.objs.size f cdv)) →
      ∃ t, PSs (cxOf (L2.CX P w) P w K mg base N qual (defScope st) f cdv A outer s H E) (defBody st) t ∧ Es cf E t b) :
    FnOk P w K mg base (L2.CX P w) (k + 1) f fd ps (spD cf n (fnD N.length b)) := by
  refine F.okX S (fun vs H Q E h => (spD_len h).trans hp.symm) fun cdv A outer s H vs Q E hr h => ?_
  obtain ⟨t, ht, he⟩ := hbody cdv A outer s H E hr
  obtain ⟨m, st', ws, rfl, r, kp, S', hl, q⟩ := h
  exact ⟨t, ht, he m _ _ st' _ (ER.start r kp rfl) S' (Px_exit S' q)⟩
/-- .. with defaults -/
theorem fnXD {cf : Cf} {x qual : Str} {params : Arguments} {body : List Stmt} {scope : Scope} {dvs : List V} {kws : List (Str × V)} {f : Addr} {fd : FuncData} {N ps : List Str} {k n : Nat} {b : DnS} (F : FunD K x qual params body scope dvs kws f fd) (S : FnScope N ps scope) (hp : ps.length = n)
    (hbody : ∀ (cdv : Value) (A : Around) (outer : List Env) (s : Shared) (H : Hp) (E : XK), Room k (A.deeper (envOfC qual scope s.heap.objs.size f cdv)) →
      ∃ t, PSs (cxOf (L2.CX P w) P w K mg base N qual scope f cdv A outer s H E) body t ∧ Es cf E t b) :
    FnOk P w K mg base (L2.CX P w) (k + 1) f fd ps (spD cf n (fnD N.length b)) := by
  refine F.ok S (fun vs H Q E h => (spD_len h).trans hp.symm) fun cdv A outer s H vs Q E hr h => ?_
  obtain ⟨t, ht, he⟩ := hbody cdv A outer s H E hr
  obtain ⟨m, st', ws, rfl, r, kp, S', hl, q⟩ := h
  exact ⟨t, ht, he m _ _ st' _ (ER.start r kp rfl) S' (Px_exit S' q)⟩
end
end QD
/-! XC: what runs while an error is handled: isinstance of it, its field, defs that get it; count, index of Booleans; repr with dicts. -/
namespace QD
open PySem PySem.Spec PyProof.Rows L2 MG XE
/-- the error that is handled: where it lies, its class by its name, its own dict -/
structure XI where
  a : Addr
  c : Str
  d : Option Addr
/-- X runs while the error at a (class C, dict d) is handled -/
structure HX (X : Cx) (p : Addr × Obj) (a C : Addr) (d : Option Addr) : Prop where
  hh : X.A.handled = some (.ref p.1)
  mem : p ∈ X.pn
  at_ : p.1 = a
  zc : Zc (.ref C) d p.2
  fd : ∃ fv : Array Value, p.2.data = .fields fv
  gd : X.A.guards = some []
def XdOk (d : Option Addr) (H : Hp) : Prop := ∀ x, d = some x → ∃ fs, H x = some (.xd fs)
/-- what isinstance, field reading ask of the class -/
structure ErQ (K : PySem.W.Frag) (C : Addr) : Prop where
  ga : PySem.W.findIn K (.ref C) "__getattribute__" = some (some (.builtin "BaseException.__getattribute__"))
  gg : PySem.W.findIn K (.ref C) "__getattr__" = some none
  sb : PySem.W.subIn K (.ref C) (.type "BaseException") = some true
  hd : PySem.W.hasDictIn K C = true
  ha : PySem.W.findIn K (.ref C) "__class__" = some (some (.builtin "object.__class__"))
  hn : PySem.W.specialIn K (.builtin "object.__class__") "__get__" = some (some (.builtin "getset_descriptor.__get__"))
  ht : PySem.W.takesIn K (.builtin "object.__class__") = some true
  hm : PySem.W.mroIn K C (.type "object") = some true
theorem ErQ.cl {K : PySem.W.Frag} {C : Addr} (q : ErQ K C) : (PySem.W.clsIn K C).isSome = true := by
  obtain ⟨cd, h, _⟩ := PySem.W.any_some q.hd
  rw [h]; rfl
section
variable {X : Cx} {p : Addr × Obj} {a C : Addr} {d : Option Addr} {pins : List (Addr × Obj)} {σ : L2.St} {H : Hp} {s : Shared}
theorem HX.inst0 (x : HX X p a C none) (I : Inv X pins σ H s) : PySem.W.InstAt s.heap a p.2 C none := by
  obtain ⟨hget, _⟩ := I.pin p (List.mem_append_left _ x.mem)
  obtain ⟨fv, hv⟩ := x.fd
  have hz := x.zc
  rw [x.at_] at hget
  exact ⟨hget, hz.1, by unfold PySem.W.notCls; rw [hv] <;> rfl, by rw [hz.2]; trivial⟩
theorem HX.inst1 {dd : Addr} {fs : List (Str × V)} (x : HX X p a C (some dd)) (I : Inv X pins σ H s) (hfs : H dd = some (.xd fs)) :
    ∃ (od : Obj) (mA : Str → Option Value), PySem.W.InstAt s.heap a p.2 C (some od) ∧ (∀ name, PySem.W.lookIn name od = some (mA name)) ∧ ∀ f, RelO (fs.lookup f) (mA f) := by
  obtain ⟨hget, _⟩ := I.pin p (List.mem_append_left _ x.mem)
  obtain ⟨fv, hv⟩ := x.fd
  have hz := x.zc
  rw [x.at_] at hget
  have hx : ObjOk X.prog X.w H s.heap dd (.xd fs) := I.hok dd _ hfs
  obtain ⟨mA, hns, hr⟩ := hx
  obtain ⟨od, ho, hl⟩ := lookIn_ns hns
  exact ⟨od, mA, ⟨hget, hz.1, by unfold PySem.W.notCls; rw [hv] <;> rfl, by rw [hz.2]; exact ho⟩, hl, hr⟩
theorem HX.inst (x : HX X p a C d) (I : Inv X pins σ H s) (o : XdOk d H) : ∃ od, PySem.W.InstAt s.heap a p.2 C od := by
  cases d with
  | none => exact ⟨none, x.inst0 I⟩
  | some dd =>
    obtain ⟨fs, hfs⟩ := o dd rfl
    obtain ⟨od, _, h, _⟩ := x.inst1 I hfs
    exact ⟨some od, h⟩
/-- isinstance(e, c) -/
def rIsX (K : PySem.W.Frag) (a C : Addr) (d : Option Addr) : List V → Hp → VK → Prop := fun xs H Q => ∃ (c : V) (cv : Value) (b : Bool), xs = [.ref a, c] ∧ XdOk d H ∧ ErQ K C ∧ (∀ u, RelV c u → u = cv) ∧ PySem.W.kitOne K (.ref C) cv = some b ∧ Q (.bl b) H
theorem call_isX (x : HX X p a C d) : CallR X (.builtin "isinstance") (rIsX X.K a C d) := by
  intro pins s σ H xs us Q I r h
  obtain ⟨c, cv, b, rfl, o, q, hcv, e, k⟩ := h
  cases r with
  | cons rx rr =>
    cases rr with
    | cons rt rr =>
      cases rr
      cases rx
      have ec := hcv _ rt
      subst ec
      obtain ⟨od, J⟩ := x.inst I o
      exact PySem.W.kia_one (PySem.W.kitx_exc (od := od) (ox := p.2) (gt := none) q.cl q.ga q.gg q.sb q.ha q.hn q.ht q.hm) I.kIn J e (fun z => nomatch z) fun tk => ⟨.bl b, H, I.kept (t' := tk) fun _ _ z => z, rfl, k⟩
/-- e.f -/
def tXfX (K : PySem.W.Frag) (a C : Addr) (d : Option Addr) (f : Str) (te : TE) : TE := fun σ H Q => te σ H fun v H1 => v = .ref a ∧ ErQ K C ∧ PySem.W.findIn K (.ref C) f = some none ∧ ∃ (dd : Addr) (fs : List (Str × V)) (y : V), d = some dd ∧ H1 dd = some (.xd fs) ∧ fs.lookup f = some y ∧ Q y H1
theorem pe_xfX (x : HX X p a C d) {e : Expr} {te : TE} {pos : Pos} {n : Str} (he : PE X e te) (hb : attributeBase e n X.env (eval e X.env) = eval e X.env := by rfl) : PE X (.Attribute e n pos) (tXfX X.K a C d n te) := by
  refine ⟨fun pins s σ H Q I h => ?_⟩
  refine attr_of hb (thn (he.run pins s σ H _ I h) fun u s1 hh => ?_)
  obtain ⟨v, H1, I1, rv, ev, q, hno, dd, fs, y, ed, hd, hl, k⟩ := hh
  subst ev
  obtain rfl : u = Value.ref a := rv
  subst ed
  obtain ⟨od, mA, J, h1, h2⟩ := x.inst1 I1 hd
  obtain ⟨u, hu, ru⟩ := RelO.some_of (v := y) (o := mA n) (by rw [← hl]; exact h2 n)
  exact PySem.HandSPX.exc_get I1.kIn J q.ga q.gg q.sb (PySem.W.findObj_own q.hd hno rfl ((h1 n).trans (by rw [hu]))) (handed_of ru) ⟨y, H1, I1.tok _, ru, k⟩
end
/-! ### Booleans counted, found -/
section
variable {X : Cx}
def rCntB (K : PySem.W.Frag) : V → List V → Hp → VK → Prop := fun x xs H Q => ∃ (q : Addr) (bs : List Bool) (k : Bool), x = .ref q ∧ xs = [.bl k] ∧ SqL K H q (bs.map V.bl) ∧ Q (.int (bs.count k : Nat)) H
theorem vals_bls {vs : List Value} : ∀ {bs : List Bool}, Vals (bs.map V.bl) vs → vs = bs.map Value.bool := fun {bs} h => by
  induction bs generalizing vs with
  | nil => cases h; rfl
  | cons b bs ih =>
    cases h with
    | cons r t => cases r; rw [ih t]; rfl
theorem reads_bls {h : Heap} : ∀ bs : List Bool, ReadsAll h (bs.map Value.bool) (bs.map PyData.bool) []
  | [] => .nil
  | b :: bs => .cons (as := []) (.bool b) (reads_bls bs)
theorem count_bls (k : Bool) : ∀ bs : List Bool, PySem.Spec.countIn (.bool k) (bs.map PyData.bool) = ((bs.count k : Nat) : Int)
  | [] => rfl
  | b :: bs => by
    rw [List.map_cons, PySem.Spec.countIn, count_bls k bs, List.count_cons]
    cases b <;> cases k <;> simp [PySem.Spec.same] <;> omega
theorem shape_bls : ∀ bs : List Bool, (bs.map PyData.bool).all PySem.Spec.Shape.bool.has = true
  | [] => rfl
  | b :: bs => by rw [List.map_cons, List.all_cons, shape_bls bs]; rfl
theorem mt_cntB : MtR X "list.count" (rCntB X.K) := by
  intro pins s σ H x xs v us Q I rx rxs h
  obtain ⟨q, bs, k, rfl, rfl, hs, z⟩ := h
  cases rx
  obtain ⟨u, rfl, ru⟩ := rxs.one
  cases ru
  obtain ⟨its, rv, hl, _⟩ := I.list hs
  have e := vals_bls rv
  subst e
  refine PyProof.Rows.count_list_bools (hp := s.heap) hl.isList (reads_bls bs) (shape_bls bs) ⟨.int (bs.count k : Nat), H, I.tok _, ?_, z⟩
  rw [count_bls]
  exact ⟨_, rfl⟩
end
end QD
/-! XD: readings of what runs while an error is handled; defs that are called there. -/
namespace QD
open PySem PySem.Spec PyProof.Rows L2 MG XE
/-- error classes by number -/
def eS (k : Nat) : Str := ⟨#[k]⟩
def kOf (c : Str) : Nat := c.cps.getD 0 0
def ceL (l : List Addr) : Str → Addr := fun c => l.getD (kOf c) 0
/-- whether a value is the handled error -/
def isX (x : XI) : W → Bool
  | .fz (.dict [(.bool false, .tuple [.int a])]) => decide (a = (x.a : Int)) && x.d.isNone
  | .fz (.dict [(.bool false, .tuple [.int a, .int y, .str _, _])]) => decide (a = (x.a : Int)) && decide (x.d.map (fun n : Nat => (n : Int)) = some y)
  | _ => false
section
variable {cf : Cf} {E : XK} {m m1 : Mo} {st : Sto} {v : V} {w : W} {x : XI}
theorem isX_ok (r : WR cf.K cf.ct m v w) (h : isX x w = true) : v = .ref x.a ∧ XdOk x.d m.hp := by
  unfold isX at h
  split at h
  · rw [Bool.and_eq_true] at h
    cases r with
    | exc0 =>
      have e := of_decide_eq_true h.1
      have e' := Int.ofNat_inj.mp e
      subst e'
      refine ⟨rfl, fun y z => ?_⟩
      rw [z] at h
      exact absurd h.2 (by simp)
  · rw [Bool.and_eq_true] at h
    cases r with
    | exc h1 h2 h3 h4 =>
      have e := of_decide_eq_true h.1
      have e' := Int.ofNat_inj.mp e
      subst e'
      refine ⟨rfl, fun y z => ?_⟩
      have e2 := of_decide_eq_true h.2
      rw [z] at e2
      have e3 := Int.ofNat_inj.mp (Option.some.inj e2)
      subst e3
      exact ⟨_, h3⟩
  · cases h
def dIsX (x : XI) (col : List Bool) (a : Dn) : Dn := fun en st => (a en st).bind fun w st1 => if isX x w = true ∧ kOf x.c < col.length then .ok (.fz (.bool (col.getD (kOf x.c) false))) st1 else .no
theorem ev_isX {l : List Addr} {col : List Bool} {cv : Value} {c : V} {a C : Addr} {d : Option Addr} {te : TE} {dn : Dn} (hce : cf.ce = ceL l) (hq : ∀ k, k < col.length → ErQ cf.K (l.getD k 0))
    (hk : ∀ k, k < col.length → PySem.W.kitOne cf.K (.ref (l.getD k 0)) cv = some (col.getD k false)) (hcv : ∀ u, RelV c u → u = cv) (ea : x.a = a) (ec : cf.ce x.c = C) (ed : x.d = d) (he : Ev cf E te dn) :
    Ev cf E (tCB (rIsX cf.K a C d) (tCons te (tCons (tC c) tNil))) (dIsX x col dn) := fun m σ en st Q er S h => by
  subst ea ec ed
  refine he m σ en st _ er S ?_
  unfold dIsX at h
  cases e : dn en st with
  | ex c p st1 => rw [e] at h; exact h
  | no => rw [e] at h; exact h
  | ok w st1 =>
    rw [e, Rt.bind_ok] at h
    intro v m1 r1
    split at h
    case isFalse => exact h.elim
    case isTrue hh =>
      obtain ⟨rfl, o⟩ := isX_ok r1.wr hh.1
      refine ⟨c, cv, _, rfl, o, ?_, hcv, ?_, h _ m1 (.fz r1.stp r1.sr (.bl _))⟩
      · rw [hce]; exact hq _ hh.2
      · rw [hce]; exact hk _ hh.2
/-- e.f -/
def fldX (x : XI) (f : Str) (n : Nat) : W → Option D
  | .fz (.dict [(.bool false, .tuple [.int a, .int y, .str g, d])]) => if isX x (.fz (.dict [(.bool false, .tuple [.int a, .int y, .str g, d])])) = true ∧ g = f ∧ kOf x.c < n then some d else none
  | _ => none
def dXf (x : XI) (f : Str) (n : Nat) (a : Dn) : Dn := fun en st => (a en st).bind fun w st1 => match fldX x f n w with
  | some d => .ok (.fz d) st1
  | none => .no
theorem ev_xf {l : List Addr} {n : Nat} {f : Str} {a C : Addr} {d : Option Addr} {te : TE} {dn : Dn} (hce : cf.ce = ceL l) (hq : ∀ k, k < n → ErQ cf.K (l.getD k 0)) (hf : ∀ k, k < n → PySem.W.findIn cf.K (.ref (l.getD k 0)) f = some none)
    (ea : x.a = a) (ec : cf.ce x.c = C) (ed : x.d = d) (he : Ev cf E te dn) : Ev cf E (tXfX cf.K a C d f te) (dXf x f n dn) := fun m σ en st Q er S h => by
  subst ea ec ed
  refine he m σ en st _ er S ?_
  unfold dXf at h
  cases e : dn en st with
  | ex c p st1 => rw [e] at h; exact h
  | no => rw [e] at h; exact h
  | ok w st1 =>
    rw [e, Rt.bind_ok] at h
    intro v m1 r1
    cases e2 : fldX x f n w with
    | none => rw [e2] at h; exact h.elim
    | some d =>
      rw [e2] at h
      dsimp only at h
      unfold fldX at e2
      split at e2
      case h_2 => cases e2
      case h_1 a' y g d' =>
        split at e2
        case isFalse => cases e2
        case isTrue hh =>
          cases e2
          obtain ⟨hx, rfl, hn⟩ := hh
          obtain ⟨rfl, o⟩ := isX_ok r1.wr hx
          have r := r1.wr
          cases r with
          | @exc _ y' v' _ _ h1 h2 h3 h4 =>
            have hd : x.d = some y' := by
              unfold isX at hx
              rw [Bool.and_eq_true] at hx
              have e3 := of_decide_eq_true hx.2
              cases e4 : x.d with
              | none => rw [e4] at e3; cases e3
              | some z => rw [e4] at e3; rw [Int.ofNat_inj.mp (Option.some.inj e3)]
            refine ⟨rfl, by rw [hce]; exact hq _ hn, by rw [hce]; exact hf _ hn, y', [(g, v')], v', hd, h3, by simp [List.lookup], h v' m1 (.fz r1.stp r1.sr h4)⟩
/-! ### lists of Booleans -/
def blsW (st : Sto) (w : W) : Option (List Bool) := (seqR st w).bind fun l => l.mapM fun d => match d with
  | .bool b => some b
  | _ => none
theorem mapM_bls : ∀ {l : List D} {bs : List Bool}, (l.mapM fun d => match d with | .bool b => some b | _ => none) = some bs → l = bs.map PyData.bool
  | [], bs, h => by simp at h; subst h; rfl
  | d :: l, bs, h => by
    rw [List.mapM_cons] at h
    cases d with
    | bool b =>
      cases e : l.mapM (fun d => match d with | PyData.bool b => some b | _ => none) with
      | none => simp [e] at h
      | some r =>
        simp [e] at h
        subst h
        rw [mapM_bls e]; rfl
    | _ => simp at h
@[simp] theorem bls_map (bs : List Bool) : ((bs.map PyData.bool).mapM fun d => match d with | .bool b => some b | _ => none) = some bs := by
  induction bs with
  | nil => rfl
  | cons b bs ih => rw [List.map_cons, List.mapM_cons, ih]; rfl
theorem bls_at (S : SR cf.K cf.ct m st) {bs : List Bool} (r : WR cf.K cf.ct m v w) (e : blsW st w = some bs) : ∃ a, v = .ref a ∧ SqL cf.K m.hp a (bs.map V.bl) := by
  unfold blsW at e
  cases e1 : seqR st w with
  | none => rw [e1] at e; cases e
  | some l =>
    rw [e1] at e
    have e2 := mapM_bls e
    subst e2
    obtain ⟨a, xs, rfl, hs, f⟩ := seqR_ok S r e1
    rw [f.bls] at hs
    exact ⟨a, rfl, hs⟩
def blW : W → Option Bool
  | .fz (.bool b) => some b
  | _ => none
theorem blW_ok {b : Bool} (r : WR cf.K cf.ct m v w) (e : blW w = some b) : v = .bl b := tst_ok r (by
  unfold blW at e
  split at e
  · exact e
  · cases e)
def fCntB (w : W) (ws : List W) (st : Sto) : Rt W := match ws with
  | [y] => match blsW st w, blW y with
    | some bs, some k => .ok (.fz (.int (bs.count k : Nat))) st
    | _, _ => .no
  | _ => .no
theorem q_cntB : OpM' cf E "list" (rCntB cf.K) isLst fCntB := by
  refine ⟨fun m st v w S r h => isLst_ok S r h, fun m st v w vs ws Q S r rs h => ?_⟩
  unfold fCntB at h
  match ws, rs, h with
  | [y], rs, h =>
    obtain ⟨u, rfl, ru⟩ := rs.one
    dsimp only at h
    cases e1 : blsW st w with
    | none => rw [e1] at h; exact h.elim
    | some bs =>
      cases e2 : blW y with
      | none => rw [e1, e2] at h; exact h.elim
      | some k =>
        rw [e1, e2] at h
        obtain ⟨a, rfl, hs⟩ := bls_at S r e1
        obtain rfl := blW_ok ru e2
        exact ⟨a, bs, k, rfl, rfl, hs, h.fz S (.int _)⟩
  | [], _, h => exact h.elim
  | _ :: _ :: _, _, h => exact h.elim
def fIdxB (w : W) (ws : List W) (st : Sto) : Rt W := match ws with
  | [y] => match blsW st w, blW y with
    | some bs, some k => match bs.findIdx? (· == k) with
      | some j => .ok (.fz (.int (j : Nat))) st
      | none => .no
    | _, _ => .no
  | _ => .no
theorem q_idxB : OpM' cf E "list" (rIndex cf.K) isLst fIdxB := by
  refine ⟨fun m st v w S r h => isLst_ok S r h, fun m st v w vs ws Q S r rs h => ?_⟩
  unfold fIdxB at h
  match ws, rs, h with
  | [y], rs, h =>
    obtain ⟨u, rfl, ru⟩ := rs.one
    dsimp only at h
    cases e1 : blsW st w with
    | none => rw [e1] at h; exact h.elim
    | some bs =>
      cases e2 : blW y with
      | none => rw [e1, e2] at h; exact h.elim
      | some k =>
        rw [e1, e2] at h
        dsimp only at h
        cases e3 : bs.findIdx? (· == k) with
        | none => rw [e3] at h; exact h.elim
        | some j =>
          rw [e3] at h
          obtain ⟨a, rfl, hs⟩ := bls_at S r e1
          obtain rfl := blW_ok ru e2
          obtain ⟨hj, h1, h2⟩ := List.findIdx?_eq_some_iff_getElem.mp e3
          refine ⟨a, bs.map V.bl, .bl k, j, .bl bs[j], rfl, rfl, hs, rfl, ?_, ?_, h1, fun m' z' hm hz => ?_, h.fz S (.int _)⟩
          · rw [List.all_eq_true]
            intro z hz
            obtain ⟨b, _, rfl⟩ := List.mem_map.mp hz
            rfl
          · rw [List.getElem?_map, List.getElem?_eq_getElem hj]; rfl
          · have hm' : m' < bs.length := by omega
            rw [List.getElem?_map, List.getElem?_eq_getElem hm'] at hz
            cases hz
            have z := h2 m' hm
            show (bs[m'] == k) = false
            simpa using z
  | [], _, h => exact h.elim
  | _ :: _ :: _, _, h => exact h.elim
end
/-! ### defs called while an error is handled -/
structure FnE (P : Program) (w : World) (K : PySem.W.Frag) (mg : Str → Option Value) (base : Heap) (ce : Str → Addr) (k : Nat) (f : Addr) (fd : FuncData) (ps : List Str) (sp : XI → Sp) : Prop where
  len : ∀ y vs H Q E, sp y vs H Q E → vs.length = ps.length
  run : ∀ (A : Around) (outer : List Env) (s : Shared) (H : Hp) (args : Args) (us : List Value) (vs : List V) (Q : VK) (E : XK) (p : Addr × Obj) (y : XI),
    A.guards = some [] → L2H.RoomH k A → A.handled = some (.ref p.1) → p.1 = y.a → Zc (.ref (ce y.c)) y.d p.2 → (∃ fv : Array Value, p.2.data = .fields fv) → L2H.PinOk outer H s p →
    Env0 P w K mg base A outer s H → BindsTo s fd args (ps.zip us) → Vals vs us → sp y vs H Q E → codeAny (model P w) A (.call (.ref f) args) (CR CX0 outer P w H s Q E) s
section
variable {P : Program} {w : World} {K : PySem.W.Frag} {mg : Str → Option Value} {base : Heap}
theorem fnE {cf : Cf} {x qual : Str} {st : Stmt} {f : Addr} {fd : FuncData} {N ps : List Str} {k n : Nat} {b : XI → DnS} (F : Fun K x qual st f fd) (S : FnScope N ps (defScope st)) (hp : ps.length = n)
    (hbody : ∀ (cdv : Value) (A : Around) (outer : List Env) (s : Shared) (H : Hp) (E : XK) (p : Addr × Obj) (y : XI), A.guards = some [] → L2H.RoomH k (A.deeper (envOfC qual (defScope st) s.heap.objs.size f cdv)) →
      HX (L2H.cxH CX0 P w K mg base N qual (defScope st) f cdv A outer s H E p).nox p y.a (cf.ce y.c) y.d →
      ∃ t, PSs (L2H.cxH CX0 P w K mg base N qual (defScope st) f cdv A outer s H E p).nox (defBody st) t ∧ Es cf noE t (b y)) :
    FnE P w K mg base cf.ce (k + 1) f fd ps (fun y => spD cf n fun ws st => nox (fnD N.length (b y) ws st)) := by
  refine ⟨fun y vs H Q E h => (spD_len h).trans hp.symm, fun A outer s H args us vs Q E p y hg hr hh ha hz hf pin e0 hb r hsp => ?_⟩
  have hl : vs.length = ps.length := (spD_len hsp).trans hp.symm
  obtain ⟨oc, od, kV, doc, pm, an, cdv, ct, osl, rfl, lk, hcd⟩ := F.ex
  have KX : K.In s.heap := e0.mod.kin.keeps (fun b o e => (e0.bs b o e).1)
  have lim : s.heap.NoLimit := e0.mod.nolimit.keeps (fun b o e => (e0.bs b o e).1)
  have hkind : ∀ z ∈ ps.zip us, (defScope st).names.lookup z.1 = some .local ∨ ((defScope st).names.lookup z.1 = some .cell ∧
      ((cellsFrom (s.heap.objs.size + 1) (defScope st).names []).lookup z.1).isSome = true) := by
    rintro ⟨n, v⟩ hy
    cases S.par n (List.of_mem_zip hy).1 with
    | inl q => exact Or.inl q
    | inr q => exact Or.inr ⟨q, PySem.W.cellsFrom_some _ _ _ (Or.inl q)⟩
  refine codeAny_call_function hr.depth (KX _ _ lk) rfl S.co S.gen rfl (PySem.W.codeRec_of KX hcd) (hb _ _ _ _ ?_)
  refine wpAny_newFunctionEnv_cells S.kind hkind (fun env he s1 x => ?_)
  subst he
  refine ⟨lim.keeps x.toInCall.keep, codeAny_func ?_⟩
  obtain ⟨t, ht, he⟩ := hbody cdv A outer s H E p y hg (hr.deeper _) ⟨hh, List.mem_cons_self, ha, hz, hf, hg⟩
  have I : Inv (L2H.cxH CX0 P w K mg base N qual (defScope st) f cdv A outer s H E p) [] (L2.start N vs) H s1 := L2H.inv_startH S pin e0 hl r x
  obtain ⟨m, st', ws, rfl, rr, kp, S', hl', q⟩ := hsp
  refine wpAny_mono (ht.nox.run [] s1 (L2.start N vs) _ _ I (he m _ _ st' { nx := fun _ H' => Q .non H', rt := Q } (ER.start rr kp rfl) S' (Px_exit S' (Pe_noxE q)))) (fun fl s' hs => ?_) (fun e s' hs => hs)
  cases fl with
  | next =>
    obtain ⟨σ', H', J, q⟩ := hs
    exact ⟨V.non, H', J.os, J.bare, J.base, J.hok, rfl, q⟩
  | ret u =>
    obtain ⟨v, σ', H', J, rv, q⟩ := hs
    exact ⟨v, H', J.os, J.bare, J.base, J.hok, rv, q⟩
  | brk => obtain ⟨_, _, _, q⟩ := hs; exact q.elim
  | cont => obtain ⟨_, _, _, q⟩ := hs; exact q.elim
end
/-- g(..) while an error is handled -/
def tCallE (ce : Str → Addr) (a C : Addr) (d : Option Addr) (sp : XI → Sp) (t : TA) : TE := fun σ H Q => t σ H fun vs H1 => ∃ y : XI, y.a = a ∧ ce y.c = C ∧ y.d = d ∧ sp y vs H1 Q noE
section
variable {X : Cx} {p : Addr × Obj} {a C : Addr} {d : Option Addr}
theorem pe_callE {ce : Str → Addr} {k : Nat} {f : Addr} {fd : FuncData} {ps : List Str} {sp : XI → Sp} {g : Str} {q pos : Pos} {e : Expr} {es : List Expr} {t : TA} (x : HX X p a C d) (F : FnE X.prog X.w X.K X.mg X.base ce k f fd ps sp) (hr : L2H.RoomH k X.A)
    (hg : Gl X g) (hm : X.mg g = some (.ref f)) (hk : PySem.W.keepIn X.K (.ref f) = true) (hb : Binds X.K fd ps []) (ha : PA X (e :: es) t) (hdb : (g == ("__debug__" : Str)) = false := by decide)
    (he : starEach (e :: es) X.env = (false, eval e X.env) :: starEach es X.env := by rfl) (hpl : (backTo pos (starEach es X.env)).any (·.1) = false := by rfl) :
    PE X (.Call (.Name g q) (e :: es) [] pos) (tCallE ce a C d sp t) := by
  constructor
  intro pins s σ H Q I h
  refine wpAny_Call_Name_kw (ld_glob I hg hm ?_ hdb)
  refine PySem.W.callWith_K (h₀ := X.base) I.ok.mod.kin hk (thn (ha.run pos pins s σ H _ I h)
    (fun us s1 hh => ?_)) he hpl
  obtain ⟨vs, H1, I1, r, y, rfl, rfl, rfl, z⟩ := hh
  refine ⟨I1.kIn, ?_⟩
  have hl : us.length = ps.length := by rw [← r.length]; exact F.len _ _ _ _ _ z
  have bb := hb s1 us I1.kIn (by rw [List.append_nil]; exact hl)
  rw [List.append_nil] at bb
  have P1 := I1.pin p (List.mem_append_left _ x.mem)
  have hpin : L2H.PinOk X.stack H1 s1 p := ⟨P1.1, P1.2.1, fun hm => (List.mem_cons.mp (I1.stkSub p.1 hm)).elim P1.2.2.1 P1.2.2.2.1, P1.2.2.2.2⟩
  have step := F.run X.A X.stack s1 H1 ⟨us, []⟩ us vs Q noE p y x.gd hr x.hh x.at_ x.zc x.fd hpin I1.env0 bb r z
  refine wpAny_call (codeAny_mono step (fun res s' hq => ?_))
  match res, hq with
  | .error e, hq => exact hq.elim
  | .ok (.ret u), hq => exact I1.after hq
end
section
variable {cf : Cf} {E : XK}
def dCallX (n : Nat) (F : XI → Fd) (x : XI) (a : DnA) : Dn := fun en st => (a en st).bind fun ws st1 => if ws.length = n then nox (F x (ws.map frz) st1) else .no
theorem ev_callE {n : Nat} {F : XI → Fd} {x : XI} {a C : Addr} {d : Option Addr} {t : TA} {da : DnA} (ea : x.a = a) (ec : cf.ce x.c = C) (ed : x.d = d) (ha : Ea cf E t da) :
    Ev cf E (tCallE cf.ce a C d (fun y => spD cf n (F y)) t) (dCallX n F x da) := fun m σ en st Q er S h => by
  refine ha m σ en st _ er S ?_
  unfold dCallX at h
  cases e : da en st with
  | ex c p st1 => rw [e] at h; exact h
  | no => rw [e] at h; exact h
  | ok ws st1 =>
    rw [e, Rt.bind_ok] at h
    intro vs m1 s1 S1 r1
    split at h
    case isFalse => exact h.elim
    case isTrue c =>
      obtain ⟨r, kp⟩ := r1.frz
      exact ⟨x, ea, ec, ed, m1, st1, _, rfl, r, kp, S1, by rw [List.length_map]; exact c, Pe_noxE (Pe.pre s1 h)⟩
end
end QD
/-! XF: try, except (A, B, C) as e: suite. -/
namespace QD
open PySem PySem.Spec PyProof.Rows L2 MG XE
/-- an error in the air over a heap that grew -/
theorem fly_keeps {B h h' : Heap} {l : List Env} {a : Addr} {Z : Obj → Prop} (k : ∀ b o, h.get? b = some o → h'.get? b = some o) (f : PySem.HandSPX.FlyingZ B l a Z h) : PySem.HandSPX.FlyingZ B l a Z h' := by
  obtain ⟨f1, f2, f3, oe, vs, T, oT, ts, g1, g2, g3, g4, g5, g6, g7, g8, g9⟩ := f
  exact ⟨fun b o e => k b o (f1 b o e), f2, Heap.FunFrames.of_keeps (fun b o e _ => ⟨o, k b o e, rfl⟩) f3, oe, vs, T, oT, ts, k _ _ g1, g2, g3, g4, g5, g6, k _ _ g7, g8, g9⟩
/-- what the clause wishes: one of the classes fits; slot i is the name's -/
def wTup (K : PySem.W.Frag) (cs : List Value) (i : Nat) (ts : Addr → Value → Option Addr → TS) (D : Ends) : WX := fun cls d σ H =>
  PySem.W.exmAny K cls cs = some true ∧ ∀ a, H a = none → ts a cls d { nx := fun σ' H' => D.nx (σ'.set i none) H', rt := D.rt, bk := fun σ' H' => D.bk (σ'.set i none) H', ct := fun σ' H' => D.ct (σ'.set i none) H' } (σ.set i (some (.ref a))) H
structure GlC (X : Cx) (x : Str) (c : Value) : Prop where
  gl : Gl X x
  db : (x == ("__debug__" : Str)) = false
  mg : X.mg x = some c
section
variable {X : Cx} {x1 x2 x3 n : Str} {c1 c2 c3 : Value} {i kk : Nat} {body suite : List Stmt} {b0 : Stmt} {p1 p2 p3 tpos hpos pos : Pos} {tb : WX → TS} {ts : Addr → Value → Option Addr → TS}
theorem ps_try_tup (hst : X.stack = X.env :: X.outer) (hfm : X.env.frame = some X.env.locals) (hN : X.N.Nodup) (hi : X.N[i]? = some n) (hln : X.env.kindOf n = some .local) (h1 : GlC X x1 c1) (h2 : GlC X x2 c2) (h3 : GlC X x3 c3)
    (hb : ∀ (W : WX) (pn : List (Addr × Obj)) (xe : Value → Shared → Prop), Takes (X.tr pn xe) W → PassesOwn (model X.prog X.w) X.A X.env xe → PSs (X.tr pn xe) body (tb W))
    (hsu : ∀ (a : Addr) (oe : Obj) (cls : Value) (d : Option Addr) (pn : List (Addr × Obj)), Zc cls d oe → (∃ vs, oe.data = .fields vs) → PSs (X.suite a ((a, oe) :: pn)) (b0 :: suite) (ts a cls d)) :
    PS X (.Try body [.ExceptHandler (some (.Tuple [.Name x1 p1, .Name x2 p2, .Name x3 p3] kk tpos)) (some n) (b0 :: suite) hpos] [] [] pos) (fun D σ H => tb (wTup X.K [c1, c2, c3] i ts D) D σ H) := by
  constructor
  intro pins s σ H D I h
  have ok := I.ok
  have hfr : X.A.frames = some (X.env :: X.outer) := by rw [ok.frames, hst]
  have hloc : Loc X.env.scope n := Or.inl hln
  refine wpAny_Try_except ?_
  have body_ := hb (wTup X.K [c1, c2, c3] i ts D) (X.pn ++ pins) (fun e sa => wpAny (model X.prog X.w) X.A (noteFrame e X.env)
    (fun _ sb => wpAny (model X.prog X.w) X.A (setFlight e none)
      (fun _ sc => wpAny (model X.prog X.w) X.A (handleBy e X.env [.ExceptHandler (some (.Tuple [.Name x1 p1, .Name x2 p2, .Name x3 p3] kk tpos)) (some n) (b0 :: suite) hpos]) (SP X pins D) X.xe sc) X.xe sb) X.xe sa)
    (fun u s' xx => ?_) PassesOwn.looking
  · refine wpAny_mono (body_.run [] s σ H D (I.toTry _) h) (fun f sa hsp => ?_) fun e sa he => he
    cases f with
    | next => obtain ⟨σ', H', J, q⟩ := hsp; exact wpAny_execs_nil ⟨σ', H', J.ofTry ok, q⟩
    | brk => obtain ⟨σ', H', J, q⟩ := hsp; exact ⟨σ', H', J.ofTry ok, q⟩
    | cont => obtain ⟨σ', H', J, q⟩ := hsp; exact ⟨σ', H', J.ofTry ok, q⟩
    | ret u => obtain ⟨v, σ', H', J, r, q⟩ := hsp; exact ⟨v, σ', H', J.ofTry ok, r, q⟩
  · obtain ⟨a, B, sI, pins', σ', H', cls, d, rfl, J', nb, up, sky, na, os, ag, hb1, hyes⟩ := xx
    have J : Inv X pins σ' H' sI := J'.ofTry ok
    have sky' : Sky B (X.env :: X.outer) a (Zc cls d) X.env.locals s'.heap := hst ▸ sky
    show wpAny (model X.prog X.w) X.A (noteFrame (.ref a) X.env) _ _ _
    refine Sky.land Zc.steady hfr hfm sky' fun ha fla upa => ?_
    have Ja : Inv X pins σ' H' { s' with heap := ha } := J.landed nb fla.1 (up.trans upa) os ag
    obtain ⟨oa, va, ea, za, da⟩ := fla.there
    have nfr : a ∉ frs (X.env :: X.outer) := fun hm => by
      obtain ⟨_, o', e', hnf⟩ := fla.2.2.1.mem hm
      rw [ea] at e'; cases e'
      exact hnf _ da
    have nL : a ≠ X.env.locals := fun z => nfr (List.mem_filterMap.mpr ⟨X.env, List.mem_cons_self, by rw [hfm, z]⟩)
    have nF : a ∉ X.fs := fun hm => by
      obtain ⟨e, he, q⟩ := List.mem_filterMap.mp hm
      exact nfr (List.mem_filterMap.mpr ⟨e, List.mem_cons_of_mem _ he, q⟩)
    have Sa := Ja.suite ea da na nL nF
    refine wpAny_handleBy_cons (codeAny_handlers_test ?_) (by intro q; cases q)
    refine wpAny_Tuple (wpAny_items_cons ?_)
    refine ld_glob (X := X.suite a ((a, oa) :: (X.pn ++ pins))) Sa h1.gl h1.mg (wpAny_items_cons ?_) h1.db
    refine ld_glob (X := X.suite a ((a, oa) :: (X.pn ++ pins))) Sa h2.gl h2.mg (wpAny_items_cons ?_) h2.db
    refine ld_glob (X := X.suite a ((a, oa) :: (X.pn ++ pins))) Sa h3.gl h3.mg (wpAny_items_nil ⟨by rw [sizeLine_eq]; exact (by decide : 3 ≤ 16777216), ?_⟩) h3.db
    let hc := ha.push { cls := .type "tuple", data := .seq [c1, c2, c3].toArray }
    have kp : ∀ q o, ha.get? q = some o → hc.get? q = some o := fun _ _ z => Heap.get?_push_of_some _ z
    have LT : PySem.W.Looks (model X.prog X.w) hc (typeOf (.ref a)) cls := fun A Q E s k q => wpAny_typeOf_ref (k _ _ (kp _ _ ea)) (by rw [za.1]; exact q)
    have KX : X.K.In hc := Ja.kIn.keeps kp
    refine (PySem.W.exm_tup3 (M := model X.prog X.w) KX LT (Heap.get?_push_size ha rfl) hb1).here ?_
    refine codeAny_handlers_suite_as ?_
    have flc := fly_keeps kp fla
    have upc : ha.UpToSlots hc := Heap.UpToSlots.of_keeps kp
    refine PySem.HandSPX.lands_againZ flc fun hd fld upd' => ?_
    have Jd : Inv X pins σ' H' { s' with heap := hd } := J.landed nb fld.1 (((up.trans upa).trans upc).trans upd') os ag
    obtain ⟨od, vd, ed, zd, dd⟩ := fld.there
    have Sd := Jd.suite ed dd na nL nF
    refine store_ok (X := X.suite a ((a, od) :: (X.pn ++ pins))) (v := .ref a) Sd hN hi hloc rfl (fun se Se => ?_) (.inr hln)
    refine wpAny_mono ((hsu a od cls d (X.pn ++ pins) zd ⟨_, dd⟩).run [] se _ H' _ Se (hyes a na)) (fun f sf hsp => ?_) fun _ _ z => z.elim
    have fin : ∀ {σ6 : L2.St} {H6 : Hp} {Q : Shared → Prop}, Inv (X.suite a ((a, od) :: (X.pn ++ pins))) [] σ6 H6 sf → (∀ s7, Inv X pins (σ6.set i none) H6 s7 → Q s7) →
        wpAny (model X.prog X.w) X.A (do bindName X.env n .none; unbindBehindTheSuite X.env n hpos) (fun _ s7 => Q s7) X.xe sf := fun {σ6 H6 Q} S6 hq => gone_ok (S6.unsuite ok) hN hi hln hq
    cases f with
    | next => obtain ⟨σ6, H6, S6, q6⟩ := hsp; exact fin S6 fun s7 J7 => ⟨_, _, J7, q6⟩
    | brk => obtain ⟨σ6, H6, S6, q6⟩ := hsp; exact fin S6 fun s7 J7 => ⟨_, _, J7, q6⟩
    | cont => obtain ⟨σ6, H6, S6, q6⟩ := hsp; exact fin S6 fun s7 J7 => ⟨_, _, J7, q6⟩
    | ret u => obtain ⟨v6, σ6, H6, S6, r6, q6⟩ := hsp; exact fin S6 fun s7 J7 => ⟨_, _, _, J7, r6, q6⟩
end
end QD
/-! XG: a lambda without parameters handed to a def that calls it once. -/
namespace QD
open PySem PySem.Spec PyProof.Rows L2 MG XE
theorem upd_comm {H : Hp} {a b : Addr} {o u : HO} (h : a ≠ b) : upd (upd H a o) b u = upd (upd H b u) a o := by
  funext c
  unfold upd
  by_cases c1 : c = b
  · rw [if_pos c1, if_neg (fun z => h (z.symm.trans c1)), if_pos c1]
  · rw [if_neg c1]
    by_cases c2 : c = a
    · rw [if_pos c2, if_pos c2]
    · rw [if_neg c2, if_neg c2, if_neg c1]
abbrev lamQ (X : Cx) : Str := X.env.qual ++ "<lambda>"
section
variable {X : Cx} {pins : List (Addr × Obj)} {σ : L2.St} {s : Shared} {cf : Cf} {m : Mo} {st : Sto}
/-- the lambda is made -/
theorem lamE {c P : Addr} {params : Arguments} {body : Expr} {scope : Scope} {pos : Pos} {n : Nat} {E : Value → Shared → Prop} {Q : Value → Shared → Prop} (hK : X.K = cf.K) (I : Inv X pins σ m.hp s) (S : SR cf.K cf.ct m st)
    (hst : st[n]? = some (.tab P (lamQ X))) (TB : LamX.TabB X.base X.mg c P) (hcode : X.env.code = .ref c) (hdef : defaultsOf params X.env = ([], [])) (hfree : ∀ y ∈ scope.names, y.2 = .free → ∃ c, X.env.cells.lookup y.1 = some c)
    (h : ∀ (f c' : Addr) (pm ctv : Value) (m1 : Mo) (s' : Shared), Inv X pins σ m1.hp s' → Stp m m1 → SR cf.K cf.ct m1 st → c' ∉ m1.rh → ¬ m1.be c' → m1.hp c' = some (LamX.CodeO c' (lamQ X)) →
      s'.heap.get? f = some (PySem.W.kla_obj "<lambda>" (lamQ X) params body scope (cloFrom X.env.cells scope.names []) pm c' ctv) → m1.hp f = none → f ∉ frs X.stack → Q (.ref f) s') :
    wpAny (model X.prog X.w) X.A (eval (.Lambda params body scope pos) X.env) Q E s := by
  have hn : n < st.length := (List.getElem?_eq_some_iff.mp hst).1
  have hr : m.rh[n]? = some (m.rh[n]'(by rw [S.len]; exact hn)) := List.getElem?_eq_getElem _
  obtain ⟨u, hu, ho⟩ := S.ob n _ _ hr hst
  cases u with
  | tbl ps =>
    obtain ⟨eP, ht, ha⟩ := ho
    rw [← eP] at hu hr
    refine PySem.W.kla_eval hdef ?_
    have bP : s.heap.BuiltinsAt X.mg P := TB.bm.keeps I.bk
    have hP : s.heap.get? P = some { cls := .none, data := .fields ps } := I.hok P _ hu
    have outF : ∀ g, s.heap.objs.size ≤ g → g ∉ frs X.stack := fun g hg z => (List.mem_cons.mp (I.stkSub _ z)).elim
      (fun e => absurd (Nat.lt_of_lt_of_le I.lt (e ▸ hg)) (Nat.lt_irrefl _)) fun e => I.nofs hg e
    cases hc : codeAmong pos ps.toList with
    | some cv =>
      obtain ⟨c', rfl, hco⟩ := ha pos cv hc
      refine PySem.W.kla_makeFunctionHit (mg := X.mg) (c := c) (P := P) (ps := ps) (closure_ok hfree) I.ok.glob (I.mod.glob.keeps I.bk) hcode (TB.code.keeps I.bk) hP ht hc bP fun ctv h' tk hx hsz => ?_
      have hx2 : ∀ b o, s.heap.get? b = some o → (h'.push (PySem.W.kla_obj "<lambda>" (lamQ X) params body scope (cloFrom X.env.cells scope.names []) ((X.mg "__name__").getD .none) c' ctv)).get? b = some o := fun b o e => Heap.get?_push_of_some _ (hx b o e)
      have I1 := I.kept (t' := tk) hx2
      cases hco with
      | code k1 k2 k3 => exact h h'.objs.size c' _ ctv m _ I1 Stp.refl S k1 k2 k3 (Heap.get?_push_size _ rfl) (I.hok.fresh hsz) (outF _ hsz)
    | none =>
      refine PySem.W.kla_makeFunction (mg := X.mg) (c := c) (P := P) (ps := ps) (closure_ok hfree) I.ok.glob (I.mod.glob.keeps I.bk) hcode (TB.code.keeps I.bk) hP ht hc TB.gP bP fun c' ctv h' tk hx hge hlt hrec htb => ?_
      obtain ⟨c2, oc, vs, t, e2, hoc, hd, hv⟩ := hrec
      cases e2
      have hsz : s.heap.objs.size ≤ h'.objs.size := Nat.le_trans hge (Nat.le_of_lt hlt)
      have nC : m.hp c' = none := I.hok.fresh hge
      have hPc : P ≠ c' := ne_of_none hu nC
      have I1 := LamX.inv_table (t' := tk) (q := lamQ X) (more := #[rawInt pos.line, rawInt pos.col, .ref c']) (h' := h'.push (PySem.W.kla_obj "<lambda>" (lamQ X) params body scope (cloFrom X.env.cells scope.names []) ((X.mg "__name__").getD .none) c' ctv)) I hu
        (fun b o hb e => Heap.get?_push_of_some _ (hx b o hb e)) (Heap.get?_push_of_some _ htb) hge ⟨oc, vs, t, Heap.get?_push_of_some _ hoc, hd, hv⟩
      rw [upd_comm hPc] at I1
      let mc : Mo := m.to (upd m.hp c' (LamX.CodeO c' (lamQ X)))
      let mt : Mo := mc.to (upd mc.hp P (.tbl (ps ++ #[rawInt pos.line, rawInt pos.col, .ref c'])))
      have s1 : Stp m mc := Stp.one nC
      have S1 : SR cf.K cf.ct mc st := S.new nC
      have nr : c' ∉ m.rh := S.out nC
      have nb : ¬ m.be c' := fun z => S.bl c' z nC
      have s2 : Stp mc mt := Stp.chg (m := mc) hr
      have cc : mt.hp c' = some (LamX.CodeO c' (lamQ X)) := (upd_ne (Ne.symm hPc)).trans upd_same
      have eL : (ps ++ #[rawInt pos.line, rawInt pos.col, .ref c']).toList = ps.toList ++ [rawInt pos.line, rawInt pos.col, .ref c'] := by simp
      have ob : ObR cf.K cf.ct mt P (.tab P (lamQ X)) := by
        refine ⟨_, upd_same, rfl, by rw [eL]; exact PySem.TriplesOk_snoc _ _ _ _ ht, fun pos' cv hcv => ?_⟩
        rw [eL] at hcv
        rcases LamX.among_app _ ht hcv with z | z
        · obtain ⟨c0, e1, e2⟩ := ha pos' cv z
          exact ⟨c0, e1, e2.to (s1.trans s2)⟩
        · exact ⟨c', z, .code nr nb cc⟩
      have S2 : SR cf.K cf.ct mt (st.set n (.tab P (lamQ X))) := S1.set (m := mc) hr ob
      have es : st.set n (.tab P (lamQ X)) = st := by
        obtain ⟨z1, z2⟩ := List.getElem?_eq_some_iff.mp hst
        rw [← z2]
        exact List.set_getElem_self z1
      rw [es] at S2
      have f1 : h'.objs.size ≠ c' := Nat.ne_of_gt hlt
      have f2 : h'.objs.size ≠ P := Nat.ne_of_gt (Nat.lt_of_lt_of_le (Heap.lt_size hP) hsz)
      refine h h'.objs.size c' _ ctv mt _ I1 (s1.trans s2) S2 nr nb cc (Heap.get?_push_size _ rfl) ?_ (outF _ hsz)
      exact ((upd_ne f2).trans (upd_ne f1)).trans (I.hok.fresh hsz)
  | _ => exact ho.elim
end
end QD
/-! XH: the def that gets the lambda calls it; the whole call. -/
namespace QD
open PySem PySem.Spec PyProof.Rows L2 MG XE
/-- from a moment on -/
def EsF (m0 : Mo) (cf : Cf) (E : XK) (t : TS) (d : DnS) : Prop := ∀ m σ en st D, Stp m0 m → ER cf.K cf.ct m σ en → SR cf.K cf.ct m st → Px cf E m D (d en st) → t D σ m.hp
theorem EsF.of {m0 : Mo} {cf : Cf} {E : XK} {t : TS} {d : DnS} (h : Es cf E t d) : EsF m0 cf E t d := fun m σ en st D _ er S p => h m σ en st D er S p
/-- the lambda is called: its reading by what it comes to -/
def tAct (cf : Cf) (m0 : Mo) (f : Addr) (wx : WX) (lam : Sto → Rt W) : TE := fun σ H Q => σ[0]? = some (some (V.ref f)) ∧ ∃ m st, H = m.hp ∧ Stp m0 m ∧ SR cf.K cf.ct m st ∧ Pe cf (fun cls d H' => wx cls d σ H') m Q (lam st)
def ActF (cf : Cf) (Z : Cx) (m0 : Mo) (a : Str) (f : Addr) (lam : Sto → Rt W) : Prop := ∀ (wx : WX) (pn : List (Addr × Obj)) (xe : Value → Shared → Prop) (p1 p2 : Pos), Takes (Z.tr pn xe) wx →
  PE (Z.tr pn xe) (.Call (.Name a p1) [] [] p2) (tAct cf m0 f wx lam)
def fnDat (f c : Addr) (q : Str) : D := .dict [(.bool true, .tuple [.int f, .int c, .str q])]
section
variable {X : Cx} {pins : List (Addr × Obj)} {σ : L2.St} {s : Shared} {cf : Cf} {m : Mo} {st : Sto}
/-- x() where x holds the lambda -/
theorem act_of {CXg : CXT} {Eg : XK} {Ng : List Str} {qg : Str} {sg : Scope} {g f c' : Addr} {cdg pm ctv : Value} {params : Arguments} {body : Expr} {scope : Scope} {k : Nat} {a : Str} {en : En} {d : Dn}
    (hK : X.K = cf.K) (I : Inv X pins σ m.hp s) (er : ER cf.K cf.ct m σ en) (L : LamX.LamS X.env.scope scope) (hf : s.heap.get? f = some (PySem.W.kla_obj "<lambda>" (lamQ X) params body scope (cloFrom X.env.cells scope.names []) pm c' ctv)) (hfn : m.hp f = none) (hfr : f ∉ frs X.stack)
    (nr : c' ∉ m.rh) (hc : m.hp c' = some (LamX.CodeO c' (lamQ X)))
    (hbind : bindArgs (PySem.W.kla_fn "<lambda>" (lamQ X) params body scope (cloFrom X.env.cells scope.names []) pm (.ref c') ctv) ⟨[], []⟩ = pure [])
    (hgd : X.A.guards = some []) (hr : Room (k + 1) (X.A.deeper (envOfC qg sg s.heap.objs.size g cdg)))
    (hbody : ∀ (A : Around) (outer : List Env) (s : Shared) (H : Hp) (E : XK), A.guards = some [] → Room k (A.deeper (LamX.lamEnv X scope s.heap.objs.size f c')) → ∃ t, PE (LamX.lamCx X A outer s H E scope f c') body t ∧ Ev cf E t d)
    (hN : Ng[0]? = some a) (hv : Vis sg a) (hd : (a == ("__debug__" : Str)) = false := by decide) (hcd : (a == ("__classdict__" : Str)) = false := by decide) :
    ActF cf (cxOf CXg X.prog X.w X.K X.mg X.base Ng qg sg g cdg X.A X.stack s m.hp Eg).nox m a f fun st => d en st := by
  intro wx pn xe p1 p2 tk
  constructor
  intro pinsZ sZ σZ HZ Q IZ h
  obtain ⟨hs, m2, st2, rfl, s2, S2, hq⟩ := h
  refine wpAny_Call_Name_kw (thn ((pe_var (pos := p1) (i := 0) hN hv hd hcd).run pinsZ sZ σZ m2.hp (fun v H1 => v = .ref f ∧ H1 = m2.hp) IZ ⟨.ref f, hs, rfl, rfl⟩) fun u s1 hu => ?_)
  obtain ⟨v, H1, I1, r1, rfl, rfl⟩ := hu
  obtain rfl : u = Value.ref f := r1
  have f1 : s1.heap.get? f = some (PySem.W.kla_obj "<lambda>" (lamQ X) params body scope (cloFrom X.env.cells scope.names []) pm c' ctv) := I1.base.keep f _ hf hfn hfr fun z => nomatch (show f ∈ ([] : List Addr) from z)
  refine PySem.W.callWith_F0 ⟨_, _, _, _, f1⟩ ?_
  have un : Un (frs X.stack) [] m.hp m2.hp s.heap s1.heap := I1.base
  have hc2 : m2.hp c' = some (LamX.CodeO c' (lamQ X)) := s2.keep _ _ nr hc
  obtain ⟨⟨oc, vs, t, hoc, hdc, hvc⟩, _, _⟩ := I1.hok c' _ hc2
  have run : codeAny (model X.prog X.w) (X.A.deeper (envOfC qg sg s.heap.objs.size g cdg)) (.call (.ref f) ⟨[], []⟩)
      (CR (L2.CX X.prog X.w) (envOfC qg sg s.heap.objs.size g cdg :: X.stack) X.prog X.w m2.hp s1 Q fun cls d H' => wx cls d σZ H') s1 := by
    refine PySem.W.kla_callFunE hr.depth f1 rfl L.co L.gen rfl ⟨c', oc, vs, t, rfl, hoc, hdc, hvc⟩ ?_
    rw [hbind]
    refine wpAny_pure (wpAny_newFunctionEnv (fun y hy => (L.own y hy).2) (fun y hy => absurd hy (by simp)) (fun h1 hns hsb => ⟨I1.nolimit.fresh _ hsb, ?_⟩) L.kind)
    show codeAny _ _ (.expr body (LamX.lamEnv X scope s1.heap.objs.size f c')) _ _
    have kp : ∀ b o, s1.heap.get? b = some o → h1.get? b = some o := fun b o e => hsb.extBut b o (Nat.ne_of_lt (Heap.lt_size e)) (Heap.get?_push_of_some _ e)
    obtain ⟨t, ht, he⟩ := hbody (X.A.deeper (envOfC qg sg s.heap.objs.size g cdg)) (envOfC qg sg s.heap.objs.size g cdg :: X.stack) s1 m2.hp (fun cls d H' => wx cls d σZ H') hgd (hr.deeper _)
    have J := LamX.lam_start2 (E := fun cls d H' => wx cls d σZ H') (f := f) (c' := c') (tk := s1.toks + ([] : List (Str × Value)).length) I L I1.env0 hr.hd un hns kp
    refine PySem.W.kla_codeExpr (wpAny_mono (ht.run [] _ _ m2.hp Q J (he m2 σ en st2 Q (er.to s2) S2 hq)) (fun v s' hv => ?_) fun e s' hv => hv)
    obtain ⟨w', H', J', rv, q⟩ := hv
    exact ⟨w', H', J'.os, J'.bare, J'.base, J'.hok, rv, q⟩
  refine wpAny_call (codeAny_mono run fun r s' hv => ?_)
  match r, hv with
  | .error e, hv => exact tk e s' (XE.of_call I1 (fun cls d H' z => z) hv)
  | .ok (.ret u), hv => exact I1.after hv
end
open Classical in
/-- what comes of it whatever the addresses are -/
noncomputable def anyF (F : Nat → Nat → Rt W) : Rt W := if h : ∃ r, ∀ a b, F a b = r then h.choose else .no
theorem anyF_eq {F : Nat → Nat → Rt W} {r : Rt W} (h : ∀ a b, F a b = r) : anyF F = r := by
  unfold anyF
  have hx : ∃ r, ∀ a b, F a b = r := ⟨r, h⟩
  rw [dif_pos hx]
  exact (hx.choose_spec 0 0).symm.trans (h 0 0)
theorem anyF_at {F : Nat → Nat → Rt W} {cf : Cf} {E : XK} {m : Mo} {Q : VK} (h : Pe cf E m Q (anyF F)) (a b : Nat) : Pe cf E m Q (F a b) := by
  unfold anyF at h
  split at h
  case isTrue hx => rw [hx.choose_spec a b]; exact h
  case isFalse => exact h.elim
/-- g(lambda: ..): k is the place of the table, P its address, q the lambda's name, n how many slots g has -/
noncomputable def dTold (k P : Nat) (q : Str) (d : Dn) (n : Nat) (b : Nat → (Sto → Rt W) → DnS) : Dn := fun en st => match st[k]? with
  | some (.tab P' q') => if P' = P ∧ q' = q then anyF fun f c => nox (fnD n (b f fun st => d en st) [.fz (fnDat f c q)] st) else .no
  | _ => .no
/-- what such a def promises -/
def ToldOk (P : Program) (w : World) (K : PySem.W.Frag) (mg : Str → Option Value) (base : Heap) (cf : Cf) (k : Nat) (qg : Str) (stg : Stmt) (fg : Addr) (N : List Str) (a : Str) (b : Nat → (Sto → Rt W) → DnS) : Prop :=
  ∀ (cdv : Value) (A : Around) (outer : List Env) (s : Shared) (H : Hp) (E : XK) (f : Addr) (lam : Sto → Rt W) (m0 : Mo), A.guards = some [] → Room k (A.deeper (envOfC qg (defScope stg) s.heap.objs.size fg cdv)) →
    ActF cf (cxOf CX0 P w K mg base N qg (defScope stg) fg cdv A outer s H E).nox m0 a f lam →
    ∃ t, PSs (cxOf CX0 P w K mg base N qg (defScope stg) fg cdv A outer s H E).nox (defBody stg) t ∧ EsF m0 cf noE t (b f lam)
def tTold (cf : Cf) (d : Dn) : TE := fun σ H Q => ∃ m en st, H = m.hp ∧ ER cf.K cf.ct m σ en ∧ SR cf.K cf.ct m st ∧ Pe cf noE m Q (d en st)
theorem ev_told {cf : Cf} {d : Dn} : Ev cf noE (tTold cf d) d := fun m σ en st Q er S h => ⟨m, en, st, rfl, er, S, h⟩
section
variable {X : Cx} {cf : Cf}
theorem pe_told {g qg : Str} {stg : Stmt} {fg c P : Addr} {fdg : FuncData} {Ng : List Str} {a : Str} {k kt : Nat} {b : Nat → (Sto → Rt W) → DnS} {d : Dn} {params : Arguments} {body : Expr} {scope : Scope} {p lpos pos : Pos} {q : Str}
    (hK : X.K = cf.K) (hq : lamQ X = q) (F : Fun X.K g qg stg fg fdg) (Sg : FnScope Ng [a] (defScope stg)) (hNg : Ng[0]? = some a) (hva : Vis (defScope stg) a) (hg : Gl X g) (hm : X.mg g = some (.ref fg)) (hk : PySem.W.keepIn X.K (.ref fg) = true) (hb : L2.Binds X.K fdg [a] [])
    (G : ToldOk X.prog X.w X.K X.mg X.base cf (k + 1) qg stg fg Ng a b) (TB : LamX.TabB X.base X.mg c P) (hcode : X.env.code = .ref c) (hr : Room (k + 2) X.A) (hgd : X.A.guards = some []) (L : LamX.LamS X.env.scope scope) (hdef : defaultsOf params X.env = ([], []))
    (hbind : ∀ (q : Str) (cl : List (Str × Addr)) (pm cv ctv : Value), bindArgs (PySem.W.kla_fn "<lambda>" q params body scope cl pm cv ctv) ⟨[], []⟩ = pure [])
    (hbody : ∀ (A : Around) (outer : List Env) (s : Shared) (H : Hp) (E : XK) (f c' : Addr), A.guards = some [] → Room k (A.deeper (LamX.lamEnv X scope s.heap.objs.size f c')) → ∃ t, PE (LamX.lamCx X A outer s H E scope f c') body t ∧ Ev cf E t d)
    (hdb : (g == ("__debug__" : Str)) = false := by decide) (hd : (a == ("__debug__" : Str)) = false := by decide) (hcd : (a == ("__classdict__" : Str)) = false := by decide) :
    PE X (.Call (.Name g p) [.Lambda params body scope lpos] [] pos) (tTold cf (dTold kt P q d Ng.length b)) := by
  subst hq
  constructor
  intro pins s σ H Q I h
  obtain ⟨m, en, st, rfl, er, S, hp⟩ := h
  unfold dTold at hp
  cases e : st[kt]? with
  | none => rw [e] at hp; exact hp.elim
  | some o =>
    rw [e] at hp
    cases o with
    | tab P' q' =>
      dsimp only at hp
      split at hp
      case isFalse => exact hp.elim
      case isTrue hh =>
        obtain ⟨rfl, rfl⟩ := hh
        refine wpAny_Call_Name_kw (ld_glob I hg hm ?_ hdb)
        refine PySem.W.callWith_K (h₀ := X.base) I.ok.mod.kin hk ?_ (by rfl) (by rfl)
        show wpAny _ _ (spliced ((false, eval (.Lambda params body scope lpos) X.env) :: backTo pos (starEach [] X.env))) _ _ s
        refine Calls.spliced_cons (lamE hK I S e TB hcode hdef (L.has I.ok) fun f c' pm ctv m1 s' I1 s1 S1 nr nb hc hf hfn hfr => ?_)
        refine Calls.spliced_nil ⟨I1.kIn, ?_⟩
        have rc : codeAny (model X.prog X.w) X.A (.call (.ref fg) ⟨[.ref f], []⟩) (CR CX0 X.stack X.prog X.w m1.hp s' Q C8.E0) s' := by
          refine MG.body_at (N := Ng) (ps := [a]) (us := [.ref f]) (vs := [.ref f]) F Sg rfl hr I1.env0 (hb s' [.ref f] I1.kIn rfl) (.cons rfl .nil) fun cdv => ?_
          have er1 := er.to s1
          have hr' : Room (k + 1) (X.A.deeper (envOfC qg (defScope stg) s'.heap.objs.size fg cdv)) := hr.deeper _
          obtain ⟨t, ht, he⟩ := G cdv X.A X.stack s' m1.hp C8.E0 f (fun st => d en st) m1 hgd hr' (act_of hK I1 er1 L hf hfn hfr nr hc (hbind _ _ _ _ _) hgd hr' (fun A outer s H E hg2 hr2 => hbody A outer s H E f c' hg2 hr2) hNg hva hd hcd)
          have fz : Fz cf.K cf.ct m1 (.ref f) (fnDat f c' (lamQ X)) := .fn nr nb hc
          have hp1 := Pe.pre s1 (anyF_at hp f c')
          exact ⟨t, ht.nox, he m1 _ _ st _ Stp.refl (ER.start (vs := [.ref f]) (ws := [.fz (fnDat f c' (lamQ X))]) (.cons fz .nil) (fun w hw => by rw [List.mem_singleton] at hw; subst hw; trivial) rfl) S1 (Px_exit S1 (Pe_noxE hp1))⟩
        refine wpAny_call (codeAny_mono rc fun r s2 hv => ?_)
        match r, hv with
        | .error e, hv => exact hv.elim
        | .ok (.ret u), hv => exact I1.after hv
    | _ => exact hp.elim
end
end QD
/-! XI: the body of a def that calls what it got within a try. -/
namespace QD
open PySem PySem.Spec PyProof.Rows L2 MG XE
section
variable {cf : Cf} {E : XK} {m0 : Mo}
theorem es_seqF {t u : TS} {a b : DnS} (ha : EsF m0 cf E t a) (hb : EsF m0 cf E u b) : EsF m0 cf E (tSeq t u) (sSeq a b) := fun m σ en st D s0 er S h => by
  refine ha m σ en st _ s0 er S ?_
  unfold sSeq at h
  cases e : a en st with
  | go en1 st1 =>
    rw [e] at h
    intro σ1 m1 s1 er1 S1
    exact hb m1 σ1 en1 st1 D (s0.trans s1) er1 S1 (Px.pre s1 h)
  | rt w st1 => rw [e] at h; exact h
  | bk w st1 => rw [e] at h; exact h
  | ct w st1 => rw [e] at h; exact h
  | ex c p st1 => rw [e] at h; exact h
  | no => rw [e] at h; exact h
open Classical in
noncomputable def anyX (F : Nat → Nat → Sx) : Sx := if h : ∃ r, ∀ a b, F a b = r then h.choose else .no
theorem anyX_eq {F : Nat → Nat → Sx} {r : Sx} (h : ∀ a b, F a b = r) : anyX F = r := by
  unfold anyX
  have hx : ∃ r, ∀ a b, F a b = r := ⟨r, h⟩
  rw [dif_pos hx]
  exact (hx.choose_spec 0 0).symm.trans (h 0 0)
theorem anyX_at {F : Nat → Nat → Sx} {m : Mo} {D : Ends} (h : Px cf E m D (anyX F)) (a b : Nat) : Px cf E m D (F a b) := by
  unfold anyX at h
  split at h
  case isTrue hx => rw [hx.choose_spec a b]; exact h
  case isFalse => exact h.elim
def excDat (a x : Nat) : Option (Str × D) → D
  | some (f, d) => .dict [(.bool false, .tuple [.int a, .int x, .str f, d])]
  | none => .dict [(.bool false, .tuple [.int a])]
/-- behind a suite its name is gone -/
def clrX (i : Nat) : Sx → Sx
  | .go en st => .go (en.set i none) st
  | .bk en st => .bk (en.set i none) st
  | .ct en st => .ct (en.set i none) st
  | r => r
/-- y = x(), in a try; n: how many classes of errors are known, all of which fit -/
def isFn (f : Nat) : Option (Option W) → Bool
  | some (some (.fz (.dict [(.bool true, .tuple [.int g, .int _, .str _])]))) => decide (g = (f : Int))
  | _ => false
theorem isFn_ok {m : Mo} {σ : L2.St} {en : En} {f : Nat} (er : ER cf.K cf.ct m σ en) (h : isFn f en[0]? = true) : σ[0]? = some (some (V.ref f)) := by
  unfold isFn at h
  split at h
  case h_1 g _ _ e =>
    obtain ⟨v, hv, r, _⟩ := er.at_ 0 _ e
    rw [hv]
    cases r with
    | fn h1 h2 h3 =>
      have e2 := Int.ofNat_inj.mp (of_decide_eq_true h)
      rw [e2]
  case h_2 => cases h
noncomputable def sTry (f n y i : Nat) (lam : Sto → Rt W) (suite : XI → DnS) : DnS := fun en st => if isFn f en[0]? = true then match lam st with
  | .ok w st1 => .go (en.set y (some (frz w))) st1
  | .ex c p st1 => if kOf c < n then anyX fun a x => clrX i (suite ⟨a, c, p.map fun _ => x⟩ (en.set i (some (.fz (excDat a x p)))) st1) else .no
  | .no => .no
  else .no
/-- the suite's reading, by the class's address -/
def byCls (ts : Addr → Addr → Option Addr → TS) : Addr → Value → Option Addr → TS := fun a cls d => match cls with
  | .ref C => ts a C d
  | _ => fun _ _ _ => False
theorem unset {m : Mo} {σ : L2.St} {en : En} (er : ER cf.K cf.ct m σ en) (i : Nat) : ER cf.K cf.ct m (σ.set i none) (en.set i none) := er.unset i
theorem es_try {n y i : Nat} {f : Addr} {l : List Addr} {cs : List Value} {lam : Sto → Rt W} {suite : XI → DnS} {ts : Addr → Addr → Option Addr → TS} (hce : cf.ce = ceL l) (hx : ∀ k, k < n → PySem.W.exmAny cf.K (.ref (l.getD k 0)) cs = some true)
    (hs : ∀ x : XI, Es cf noE (ts x.a (cf.ce x.c) x.d) (suite x)) : EsF m0 cf noE (fun D σ H => tAsg (tAct cf m0 f (wTup cf.K cs i (byCls ts) D) lam) (gName y) D σ H) (sTry f n y i lam suite) := fun m σ en st D s0 er S h => by
  unfold sTry at h
  split at h
  case isFalse => exact h.elim
  case isTrue hfn =>
  refine ⟨isFn_ok er hfn, m, st, rfl, s0, S, ?_⟩
  cases e : lam st with
  | no => rw [e] at h; exact h.elim
  | ok w st1 =>
    rw [e] at h
    intro v m1 r1
    obtain ⟨r', k⟩ := frz_ok r1.wr
    exact h _ m1 r1.stp ((er.to r1.stp).set y r' k) r1.sr
  | ex c p st1 =>
    rw [e] at h
    dsimp only at h
    intro m1 dd s1 S1 x1
    split at h
    case isFalse => exact h.elim
    case isTrue hk =>
      refine ⟨by rw [hce]; exact hx _ hk, fun a na => ?_⟩
      have key : ∀ (x : Nat), dd = (p.map fun _ => x) → Fz cf.K cf.ct m1 (.ref a) (excDat a x p) →
          byCls ts a (.ref (cf.ce c)) dd { nx := fun σ' H' => D.nx (σ'.set i none) H', rt := D.rt, bk := fun σ' H' => D.bk (σ'.set i none) H', ct := fun σ' H' => D.ct (σ'.set i none) H' } (σ.set i (some (.ref a))) m1.hp := fun x ed fz => by
        have hp := Px.pre s1 (anyX_at h a x)
        subst ed
        refine hs ⟨a, c, p.map fun _ => x⟩ m1 _ (en.set i (some (.fz (excDat a x p)))) st1 _ ((er.to s1).set i fz trivial) S1 ?_
        cases e2 : suite ⟨a, c, p.map fun _ => x⟩ (en.set i (some (.fz (excDat a x p)))) st1 with
        | go en2 st2 => rw [e2] at hp; exact fun σ2 m2 s2 er2 S2 => hp _ m2 s2 (unset er2 i) S2
        | bk en2 st2 => rw [e2] at hp; exact fun σ2 m2 s2 er2 S2 => hp _ m2 s2 (unset er2 i) S2
        | ct en2 st2 => rw [e2] at hp; exact fun σ2 m2 s2 er2 S2 => hp _ m2 s2 (unset er2 i) S2
        | rt w2 st2 => rw [e2] at hp; exact hp
        | ex c2 p2 st2 => rw [e2] at hp; exact hp
        | no => rw [e2] at hp; exact hp
      cases p with
      | none => exact key 0 x1 .exc0
      | some fd =>
        obtain ⟨g, d⟩ := fd
        obtain ⟨x, v, ed, n1, n2, hh, fz⟩ := x1
        exact key x ed (.exc n1 n2 hh fz)
theorem pss_no {X : Cx} {body : List Stmt} : PSs X body (fun _ _ _ => False) := ⟨fun _ _ _ _ _ _ h => h.elim⟩
end
section
variable {X : Cx} {cf : Cf} {m0 : Mo}
/-- try: y = x() / except (A, B, C) as e: suite -/
theorem ps_told {a x1 x2 x3 en yn : Str} {c1 c2 c3 : Value} {i y kk : Nat} {f : Addr} {lam : Sto → Rt W} {suite : List Stmt} {b0 : Stmt} {p1 p2 p3 tpos hpos pos q1 q2 yp ap : Pos} {ts : Addr → Addr → Option Addr → TS}
    (hst : X.stack = X.env :: X.outer) (hfm : X.env.frame = some X.env.locals) (hN : X.N.Nodup) (hi : X.N[i]? = some en) (hln : X.env.kindOf en = some .local) (h1 : GlC X x1 c1) (h2 : GlC X x2 c2) (h3 : GlC X x3 c3)
    (hK : X.K = cf.K) (hy : X.N[y]? = some yn) (hly : X.env.kindOf yn = some .local) (act : ActF cf X m0 a f lam)
    (hsu : ∀ (a : Addr) (oe : Obj) (C : Addr) (d : Option Addr) (pn : List (Addr × Obj)), Zc (.ref C) d oe → (∃ vs, oe.data = .fields vs) → PSs (X.suite a ((a, oe) :: pn)) (b0 :: suite) (ts a C d)) :
    PS X (.Try [.Assign [.Name yn yp] (.Call (.Name a q1) [] [] q2) ap] [.ExceptHandler (some (.Tuple [.Name x1 p1, .Name x2 p2, .Name x3 p3] kk tpos)) (some en) (b0 :: suite) hpos] [] [] pos)
      (fun D σ H => tAsg (tAct cf m0 f (wTup cf.K [c1, c2, c3] i (byCls ts) D) lam) (gName y) D σ H) := by
  rw [← hK]
  refine ps_try_tup (tb := fun wx => tAsg (tAct cf m0 f wx lam) (gName y)) hst hfm hN hi hln h1 h2 h3 (fun wx pn xe tk hp => pss_one ?_) fun a oe cls d pn hz hf => ?_
  · exact ps_set (X := X.tr pn xe) (i := y) hN hy (Or.inl hly) (act wx pn xe _ _ tk) (by rfl) (.inr hly)
  · cases cls with
    | ref C => exact hsu a oe C d pn hz hf
    | _ => exact pss_no
end
end QD
/-! QT: the top: from the law's denotation to the law's promise. -/
namespace TopG
open PySem PySem.Spec PyProof.Rows L2 MG
section
variable {P : Program} {w : World} {K : PySem.W.Frag} {mg mb : Str → Option Value}
variable {k : Nat} {fa a : Addr} {fd : FuncData} {x : Str} {sp : Sp} {s₁ : Shared}
variable {vs : List Value} {ns : List Int}
end
end TopG

namespace QD
open PySem PySem.Spec PyProof.Rows L2 MG
def sp_top (K : PySem.W.Frag) : Sp := fun vs H Q _ => ∃ (a : Addr) (ns : List Int), vs = [.ref a] ∧ SqL K H a (ns.map V.int) ∧ ns.length ≤ 63 ∧ ∀ H', Q (.bl true) H'
def sp_topB (K : PySem.W.Frag) : Sp := fun vs H Q _ => ∃ (a : Addr) (ns : List Int), vs = [.ref a] ∧ SqL K H a (ns.map V.int) ∧ ns.length ≤ 63 ∧ (∀ z ∈ ns, Builtin.Int.intBits z ≤ 1048576) ∧ ∀ H', Q (.bl true) H'
theorem FnG.imp {P : Program} {w : World} {K : PySem.W.Frag} {mg : Str → Option Value} {base : Heap} {CX : CXT} {k : Nat} {f : Addr} {fd : FuncData} {ps : List Str} {sp sp' : Sp} (F : FnG P w K mg base CX k f fd ps sp)
    (h : ∀ vs H Q E, sp' vs H Q E → sp vs H Q E) : FnG P w K mg base CX k f fd ps sp' where
  len := fun vs H Q E z => F.len vs H Q E (h vs H Q E z)
  run := fun A outer s H args us vs Q E hg hr e0 hb r z => F.run A outer s H args us vs Q E hg hr e0 hb r (h vs H Q E z)
/-- own classes: at most one (number 0) -/
theorem kitT_one {K : PySem.W.Frag} {C : Addr} {ns : List Str} (T : ClsT K C) (self : PySem.W.kitOne K (.ref C) (.ref C) = some true) (bo : ∀ b ∈ bts, PySem.W.kitOne K (.type b) (.ref C) = some false) (ob : ∀ b ∈ bts, PySem.W.kitOne K (.ref C) (.type b) = some false) :
    KitT K (fun k => if k = 0 then some (C, ns) else none) := by
  have e : ∀ {k : Nat} {C' : Addr} {ns' : List Str}, (if k = 0 then some (C, ns) else none) = some (C', ns') → k = 0 ∧ C' = C := fun {k C' ns'} h => by
    split at h
    case isTrue c => cases h; exact ⟨c, rfl⟩
    case isFalse => cases h
  refine ⟨fun k C' ns' h => ?_, fun k k' C' C'' ns' ns'' h h' => ?_, fun b hb k C' ns' h => ?_, fun b hb k C' ns' h => ?_⟩
  · obtain ⟨rfl, rfl⟩ := e h; exact T
  · obtain ⟨rfl, rfl⟩ := e h; obtain ⟨rfl, rfl⟩ := e h'; exact self
  · obtain ⟨rfl, rfl⟩ := e h; exact bo b hb
  · obtain ⟨rfl, rfl⟩ := e h; exact ob b hb
end QD
/-! XT: the top where tables of code objects are known. -/
namespace TopT
open PySem PySem.Spec PyProof.Rows L2 MG QD
/-- a table that is empty yet -/
abbrev emptyTab : Obj := { cls := .none, data := .fields #[] }
section
variable {P : Program} {w : World} {K : PySem.W.Frag} {mg mb : Str → Option Value}
variable {k : Nat} {fa a : Addr} {fd : FuncData} {x : Str} {sp : Sp} {s1 : Shared} {vs : List Value} {ns : List Int} {cs : List (Addr × Addr)}
/-- what of the heap may be tracked at the law's call -/
structure Tracks (s1 : Shared) (K : PySem.W.Frag) (cs : List (Addr × Addr)) (a : Addr) (vs : List Value) (H : Hp) : Prop where
  tab : ∀ p ∈ cs, H p.2 = some (.tbl #[])
  only : ∀ b, H b ≠ none → b = a ∨ b ∈ cs.map (·.2)
  own : H a ≠ none → K.lookup a = none
  frz : ∀ b, b ∉ cs.map (·.2) → H b = none ∨ ∃ o xs, H b = some (.frz o (.lst xs))
theorem tabs_in (hT : ∀ p ∈ cs, s1.heap.get? p.2 = some emptyTab) {b : Addr} (h : b ∈ cs.map (·.2)) : s1.heap.get? b = some emptyTab := by
  obtain ⟨p, hp, rfl⟩ := List.mem_map.mp h
  exact hT p hp
/-- no dict, no code object, no module is tracked -/
theorem Tracks.free {H : Hp} (T : Tracks s1 K cs a vs H) (hT : ∀ p ∈ cs, s1.heap.get? p.2 = some emptyTab) (ha : s1.heap.get? a = some { cls := .type "list", data := .seq vs.toArray }) {b : Addr} {o : Obj} (e : s1.heap.get? b = some o)
    (n1 : ∀ (z : Array Value) n, o.data ≠ .seq z n) (n2 : o.data ≠ .fields #[]) : H b = none := by
  cases q : H b with
  | none => rfl
  | some u =>
    rcases T.only b (by rw [q]; exact fun z => nomatch z) with z | z
    · rw [z, ha] at e
      cases e
      exact absurd rfl (n1 _ _)
    · rw [tabs_in hT z] at e
      cases e
      exact absurd rfl n2
theorem env_tab {H : Hp} (KX : K.In s1.heap) (hns : s1.heap.Ns mainGlobals mg) (hb : s1.heap.Ns builtinsNs mb) (hbb : ∀ x : Str, x ≠ "__name__" → mb x = bootBuiltins x) (hlim : s1.heap.NoLimit) (hg : s1.gens = #[])
    (hT : ∀ p ∈ cs, s1.heap.get? p.2 = some emptyTab) (nT : ∀ p ∈ cs, K.lookup p.2 = none) (C : ∀ p ∈ cs, PySem.W.CodeHd s1.heap p.1 p.2)
    (hbm : ∃ (bm : Addr) (ob : Obj), mg "__builtins__" = some (.ref bm) ∧ bm ≠ builtinsNs ∧ s1.heap.get? bm = some ob ∧ ob.cls = .type "module" ∧ ob.dict = some builtinsNs ∧ ob.data = .plain)
    (ha : s1.heap.get? a = some { cls := .type "list", data := .seq vs.toArray }) (hok : HOk P w H s1.heap) (T : Tracks s1 K cs a vs H) :
    K.In (hidT s1.heap H) ∧ (hidT s1.heap H).Ns mainGlobals mg ∧ (∀ p ∈ cs, LamX.TabB (hidT s1.heap H) mg p.1 p.2) ∧ Env0 P w K mg (hidT s1.heap H) callerA [] s1 H := by
  have dict_free : ∀ (b : Addr) (o : Obj) (es : Array DictEntry) (ep : Nat), s1.heap.get? b = some o → o.data = .dict es ep → H b = none := fun b o es ep e d =>
    T.free hT ha e (fun z n q => by rw [d] at q; cases q) fun q => by rw [d] at q; cases q
  have ns1 : ∀ (b : Addr) (m : Str → Option Value), s1.heap.Ns b m → (hidT s1.heap H).Ns b m := by
    rintro b m ⟨o, es, ep, e, d, r⟩
    exact ⟨o, es, ep, hidT_get e (dict_free b o es ep e d), d, r⟩
  have kin : K.In (hidT s1.heap H) := by
    intro b o e
    refine hidT_get (KX b o e) ?_
    cases q : H b with
    | none => rfl
    | some u =>
      have ne : H b ≠ none := by rw [q]; exact fun z => nomatch z
      rcases T.only b ne with z | z
      · subst z
        rw [T.own ne] at e
        cases e
      · obtain ⟨p, hp, z2⟩ := List.mem_map.mp z
        rw [← z2, nT p hp] at e
        cases e
  have md : Mod K mg (hidT s1.heap H) := by
    obtain ⟨mc, c1, c2⟩ := hlim
    exact ⟨kin, ns1 _ _ hns, ⟨mb, ns1 _ _ hb, hbb⟩, mc, ns1 _ _ c1, c2⟩
  refine ⟨kin, ns1 _ _ hns, fun p hp => ?_, rfl, md, fun b o e => of_hidT e, Nat.le_of_eq (hidT_size _ _), trivial, (fun b hb => nomatch hb), hok, .of_eq hg⟩
  have tp := hT p hp
  obtain ⟨gm, gs, ge, g1, g2, _⟩ := id hns
  constructor
  · obtain ⟨o, us, fl, tf, fs, tg, iF, tx, tt, e1, r1, r2, r3, rest⟩ := C p hp
    refine ⟨o, us, fl, tf, fs, tg, iF, tx, tt, hidT_get e1 (T.free hT ha e1 (fun z n q => by rw [r2] at q; cases q) fun q => ?_), r1, r2, r3, rest⟩
    rw [r2] at q
    cases q
    simp at r3
  · obtain ⟨bm, ob, b1, b2, b3, b4, b5, b6⟩ := hbm
    refine ⟨bm, ob, b1, b2, fun q => ?_, fun q => ?_, hidT_get b3 (T.free hT ha b3 (fun z n q => by rw [b6] at q; cases q) fun q => by rw [b6] at q; cases q), b4, b5, b6⟩
    · rw [q, g1] at b3
      cases b3
      rw [g2] at b6
      cases b6
    · rw [q, tp] at b3
      cases b3
      cases b6
  · intro q
    rw [q, tp] at g1
    cases g1
    cases g2
theorem run_tab {H : Hp} (KX : K.In s1.heap) (hns : s1.heap.Ns mainGlobals mg) (hb : s1.heap.Ns builtinsNs mb) (hbb : ∀ x : Str, x ≠ "__name__" → mb x = bootBuiltins x) (hlim : s1.heap.NoLimit) (hg : s1.gens = #[])
    (hT : ∀ p ∈ cs, s1.heap.get? p.2 = some emptyTab) (nT : ∀ p ∈ cs, K.lookup p.2 = none) (C : ∀ p ∈ cs, PySem.W.CodeHd s1.heap p.1 p.2)
    (hbm : ∃ (bm : Addr) (ob : Obj), mg "__builtins__" = some (.ref bm) ∧ bm ≠ builtinsNs ∧ s1.heap.get? bm = some ob ∧ ob.cls = .type "module" ∧ ob.dict = some builtinsNs ∧ ob.data = .plain)
    (ha : s1.heap.get? a = some { cls := .type "list", data := .seq vs.toArray }) (hok : HOk P w H s1.heap) (T : Tracks s1 K cs a vs H) (hr : Room k callerA)
    (F : ∀ base : Heap, K.In base → base.Ns mainGlobals mg → (∀ p ∈ cs, LamX.TabB base mg p.1 p.2) → FnG P w K mg base CX0 k fa fd [x] sp) (hbind : ∀ (s : Shared) (u : Value), BindsTo s fd ⟨[u], []⟩ [(x, u)])
    (hsp : sp [.ref a] H (fun v _ => v = .bl true) fun _ _ _ => False) :
    codeAny (model P w) callerA (.call (.ref fa) ⟨[.ref a], []⟩) (fun r s' => r = .ok (.ret (.bool true)) ∧ OldK s1.heap s'.heap ∧ s'.os = s1.os ∧ AllBare s'.gens) s1 := by
  obtain ⟨kin, nsm, tbs, e0⟩ := env_tab KX hns hb hbb hlim hg hT nT C hbm ha hok T
  have go := (F _ kin nsm tbs).run callerA [] s1 H ⟨[.ref a], []⟩ [.ref a] [.ref a] _ _ rfl hr e0 (hbind s1 (.ref a)) (.cons rfl .nil) hsp
  refine codeAny_mono go fun r s' h => ?_
  match r, h with
  | .error e, h => exact h.elim
  | .ok (.ret u), h =>
    obtain ⟨v, H', os, bare, un, hok', ru, ev⟩ := h
    obtain rfl : v = .bl true := ev
    obtain rfl : u = Value.bool true := ru
    have same : ∀ b o, b ∉ cs.map (·.2) → s1.heap.get? b = some o → s'.heap.get? b = some o := fun b o nb e => by
      rcases T.frz b nb with z | ⟨ob, xs, z⟩
      · exact un.keep b o e z (fun m => nomatch m) fun m => nomatch m
      · obtain ⟨e1, _⟩ := hok b _ z
        obtain ⟨e2, _⟩ := hok' b _ (un.frzs b ob _ z)
        rw [e1] at e
        obtain rfl := Option.some.inj e
        exact e2
    have more : ∀ p ∈ cs, ∃ ps : Array Value, s'.heap.get? p.2 = some { cls := .none, data := .fields ps } := fun p hp => by
      obtain ⟨ps, z⟩ := un.tbls p.2 #[] (T.tab p hp)
      exact ⟨_, hok' p.2 _ z⟩
    refine ⟨rfl, ⟨fun b o e => ?_, fun b o e => ?_⟩, os, bare⟩
    · by_cases q : b ∈ cs.map (·.2)
      · obtain ⟨p, hp, z⟩ := List.mem_map.mp q
        obtain ⟨ps, hm⟩ := more p hp
        rw [← z] at e ⊢
        rw [hT p hp] at e
        cases e
        refine .inr (.inl ⟨((C p hp).tab (hT p hp)).isCodeTable, rfl, #[], ps, rfl, ?_⟩)
        rw [Array.empty_append]
        exact hm
      · exact .inl (same b o q e)
    · by_cases q : b ∈ cs.map (·.2)
      · obtain ⟨p, hp, z⟩ := List.mem_map.mp q
        obtain ⟨ps, hm⟩ := more p hp
        rw [← z]
        exact ⟨_, hm⟩
      · exact ⟨o, same b o q e⟩
theorem call_tab (KX : K.In s1.heap) (hns : s1.heap.Ns mainGlobals mg) (hb : s1.heap.Ns builtinsNs mb) (hbb : ∀ x : Str, x ≠ "__name__" → mb x = bootBuiltins x) (hlim : s1.heap.NoLimit) (hg : s1.gens = #[])
    (hT : ∀ p ∈ cs, s1.heap.get? p.2 = some emptyTab) (nT : ∀ p ∈ cs, K.lookup p.2 = none) (C : ∀ p ∈ cs, PySem.W.CodeHd s1.heap p.1 p.2)
    (hbm : ∃ (bm : Addr) (ob : Obj), mg "__builtins__" = some (.ref bm) ∧ bm ≠ builtinsNs ∧ s1.heap.get? bm = some ob ∧ ob.cls = .type "module" ∧ ob.dict = some builtinsNs ∧ ob.data = .plain)
    (ha : s1.heap.get? a = some { cls := .type "list", data := .seq vs.toArray }) (hi : IntsAre vs ns) (hl : ns.length ≤ sizeLine) (hr : Room k callerA)
    (F : ∀ base : Heap, K.In base → base.Ns mainGlobals mg → (∀ p ∈ cs, LamX.TabB base mg p.1 p.2) → FnG P w K mg base CX0 k fa fd [x] sp) (hbind : ∀ (s : Shared) (u : Value), BindsTo s fd ⟨[u], []⟩ [(x, u)])
    (hsp : ∀ H : Hp, (∀ p ∈ cs, H p.2 = some (.tbl #[])) → a ∉ cs.map (·.2) → SqL K H a (ns.map V.int) → sp [.ref a] H (fun v _ => v = .bl true) fun _ _ _ => False) :
    codeAny (model P w) callerA (.call (.ref fa) ⟨[.ref a], []⟩) (fun r s' => r = .ok (.ret (.bool true)) ∧ OldK s1.heap s'.heap ∧ s'.os = s1.os ∧ AllBare s'.gens) s1 := by
  have vi := vals_ints hi
  have lv := hi.length
  have aT : a ∉ cs.map (·.2) := fun z => by
    have q := tabs_in hT z
    rw [ha] at q
    cases q
  have pT : ∀ p ∈ cs, p.2 ∈ cs.map (·.2) := fun p hp => List.mem_map_of_mem hp
  cases hk : K.lookup a with
  | some o =>
    have e := KX a o hk
    rw [ha] at e
    obtain rfl := Option.some.inj e
    let H : Hp := fun b => if b ∈ cs.map (·.2) then some (.tbl #[]) else none
    have inT : ∀ b, b ∈ cs.map (·.2) → H b = some (.tbl #[]) := fun b z => if_pos z
    have noT : ∀ b, b ∉ cs.map (·.2) → H b = none := fun b z => if_neg z
    have sq : SqL K H a (ns.map V.int) := .inr ⟨_, vs.toArray, _, hk, rfl, rfl, rfl, by rw [List.size_toArray, lv]; exact hl, vi⟩
    refine run_tab (H := H) KX hns hb hbb hlim hg hT nT C hbm ha (fun b u z => ?_) ⟨fun p hp => inT _ (pT p hp), fun b z => ?_, fun z => absurd (noT a aT) z, fun b z => .inl (noT b z)⟩ hr F hbind (hsp H (fun p hp => inT _ (pT p hp)) aT sq)
    · by_cases q : b ∈ cs.map (·.2)
      · rw [inT b q] at z
        cases z
        exact tabs_in hT q
      · rw [noT b q] at z
        cases z
    · by_cases q : b ∈ cs.map (·.2)
      · exact .inr q
      · exact absurd (noT b q) z
  | none =>
    let o : Obj := { cls := .type "list", data := .seq vs.toArray }
    let H : Hp := fun b => if b = a then some (.frz o (.lst (ns.map V.int))) else if b ∈ cs.map (·.2) then some (.tbl #[]) else none
    have Ha : H a = some (.frz o (.lst (ns.map V.int))) := if_pos rfl
    have inT : ∀ b, b ∈ cs.map (·.2) → H b = some (.tbl #[]) := fun b z => by
      have ne : b ≠ a := fun q => aT (q ▸ z)
      show (if b = a then _ else _) = _
      rw [if_neg ne, if_pos z]
    have noT : ∀ b, b ≠ a → b ∉ cs.map (·.2) → H b = none := fun b ne z => by
      show (if b = a then _ else _) = _
      rw [if_neg ne, if_neg z]
    refine run_tab (H := H) KX hns hb hbb hlim hg hT nT C hbm ha (fun b u z => ?_) ⟨fun p hp => inT _ (pT p hp), fun b z => ?_, fun _ => hk, fun b z => ?_⟩ hr F hbind (hsp H (fun p hp => inT _ (pT p hp)) aT (.inl (.inr ⟨o, Ha⟩)))
    · by_cases hba : b = a
      · subst hba
        rw [Ha] at z
        obtain rfl := Option.some.inj z
        exact ⟨ha, by rw [List.length_map]; exact hl, vs, _, vi, ha⟩
      · by_cases q : b ∈ cs.map (·.2)
        · rw [inT b q] at z
          cases z
          exact tabs_in hT q
        · rw [noT b hba q] at z
          cases z
    · by_cases hba : b = a
      · exact .inl hba
      · by_cases q : b ∈ cs.map (·.2)
        · exact .inr q
        · exact absurd (noT b hba q) z
    · by_cases hba : b = a
      · subst hba
        exact .inr ⟨_, _, Ha⟩
      · exact .inl (noT b hba z)
end
/-- the goal that the head leaves, from the law's promise -/
theorem walkT {l : PySem.W.OpenLaw} {n k : Nat} {q : Program} {loose : List Str} {XP : (Str → Option Value) → Heap → Prop} {YP : World → Heap → Prop} {d : DefRec} {K : Params → PySem.W.Frag} {x : Str}
    (hn : l.most = some n) (hn2 : n ≤ sizeLine) (hdf : d.params.defaults = []) (hr : Room k callerA) (hY : ∀ (w : World) (h : Heap), YP w h → (K w.params).In h)
    (F : ∀ (w : World) (mg : Str → Option Value) (fa : Addr) (h : Heap), YP w h → (K w.params).In h → h.Ns mainGlobals mg → mg d.name = some (.ref fa) →
      ∃ (fd : FuncData) (cs : List (Addr × Addr)) (sp : Sp), (∀ p ∈ cs, h.get? p.2 = some emptyTab) ∧ (∀ p ∈ cs, (K w.params).lookup p.2 = none) ∧ (∀ p ∈ cs, PySem.W.CodeHd h p.1 p.2) ∧ (∀ (s : Shared) (u : Value), BindsTo s fd ⟨[u], []⟩ [(x, u)]) ∧
        (∀ (H : Hp) (a : Addr) (ns : List Int), ns.length ≤ n → (∀ z ∈ ns, Builtin.Int.intBits z ≤ 1048576) → (∀ p ∈ cs, H p.2 = some (.tbl #[])) → a ∉ cs.map (·.2) → SqL (K w.params) H a (ns.map V.int) → sp [.ref a] H (fun v _ => v = .bl true) fun _ _ _ => False) ∧
        ∀ base : Heap, (K w.params).In base → base.Ns mainGlobals mg → (∀ p ∈ cs, LamX.TabB base mg p.1 p.2) → FnG l.prog w (K w.params) mg base CX0 k fa fd [x] sp) :
    PySem.W.WalkO q loose XP YP l.row.toRowW d [] (fun f vs => PySem.call f vs) := by
  refine Att.attach_callB hn hdf ?_
  intro w s₀ s₁ mg mb fa o pm cd doc a vs ns G Y ho hd hcd hmg hobj hints hlen hbits hg
  have KX := hY w _ Y
  obtain ⟨fd, cs, sp, hT, nT, C, hb, hsp, hF⟩ := F w mg fa _ Y KX G.T.g hmg
  exact call_tab KX G.T.g G.T.b G.T.builtins G.T.nolimit hg hT nT C G.T.bmain hobj hints (Nat.le_trans hlen hn2) hr hF hb fun H hH na hS => hsp H a ns hlen hbits hH na hS
/-- the law's denotation where it makes lambdas: the store begins with the tables -/
def tabO (ts : List (Addr × Str)) : Sto := ts.map fun p => .tab p.1 p.2
def sp_topT (K : PySem.W.Frag) (ts : List (Addr × Str)) : Sp := fun vs H Q _ => ∃ (a : Addr) (ns : List Int), vs = [.ref a] ∧ SqL K H a (ns.map V.int) ∧ ns.length ≤ 63 ∧ (∀ z ∈ ns, Builtin.Int.intBits z ≤ 1048576) ∧ (∀ p ∈ ts, H p.1 = some (.tbl #[])) ∧ a ∉ ts.map (·.1) ∧ ∀ H', Q (.bl true) H'
theorem sp_topT_ok {cf : Cf} {F : Fd} {ts : List (Addr × Str)} (nd : (ts.map (·.1)).Nodup) (h : ∀ ns : List Int, ns.length ≤ 63 → (∀ z ∈ ns, Builtin.Int.intBits z ≤ 1048576) → F [.fz (roD (ns.map PyData.int))] (tabO ts) = .ok (.fz (.bool true)) (tabO ts))
    {vs : List V} {H : Hp} {Q : VK} {E : XK} (s : sp_topT cf.K ts vs H Q E) : spD cf 1 F vs H Q E := by
  obtain ⟨a, ns, rfl, hs, hl, hb, hT, na, k⟩ := s
  have SS : SR cf.K cf.ct ⟨fun _ => False, ts.map (·.1), H⟩ (tabO ts) := by
    refine ⟨by simp [tabO], nd, fun _ h => h.elim, fun _ h => h.elim, fun n b o h1 h2 => ?_⟩
    have h1' : (ts.map (·.1))[n]? = some b := h1
    unfold tabO at h2
    rw [List.getElem?_map] at h1' h2
    cases e : ts[n]? with
    | none => rw [e] at h1'; cases h1'
    | some p =>
      rw [e] at h1' h2
      cases h1'
      cases h2
      refine ⟨_, hT p (List.mem_of_getElem? e), rfl, trivial, fun pos cv z => ?_⟩
      simp [codeAmong] at z
  refine ⟨⟨fun _ => False, ts.map (·.1), H⟩, tabO ts, [.fz (roD (ns.map PyData.int))], rfl, .cons (.ro ?_ (FzA.ofInts ns)) .nil, fun w hw => ?_, SS, rfl, ?_⟩
  · rcases hs with hs | hs
    · exact .inl ⟨na, fun h => h, hs⟩
    · exact .inr (.inr hs)
  · rw [List.mem_singleton] at hw; subst hw; trivial
  · rw [h ns hl hb]
    intro v m' r
    cases r.wr
    exact k _
end TopT
/-! XS: small things that gen4 names. -/
namespace QD
open PySem PySem.Spec PyProof.Rows L2 MG XE
theorem uH {k : Nat} {A : Around} (r : L2H.RoomH k A) : A.units + 64 < cLine := by have := r.un; omega
theorem uM {k : Nat} {A : Around} {h : Option Value} (r : Room k A) : L2H.RoomH k (A.mark h) := ⟨r.dp, r.un⟩
theorem passN {X : Cx} {E : XK} : Passes CX0 X E := fun _ _ _ _ _ _ _ h => h.elim
theorem passNo {P : Program} {w : World} {X : Cx} : Passes (L2.CX P w) X noE := fun _ _ _ _ _ _ _ h => by
  obtain ⟨_, _, _, _, _, _, _, _, _, _, _, _, z⟩ := h
  exact z.elim
section
variable {P : Program} {w : World} {K : PySem.W.Frag} {mg : Str → Option Value} {base : Heap}
/-- fnQ where the def's code object is known -/
theorem fnQL {cf : Cf} {x qual : Str} {st : Stmt} {f c : Addr} {fd : FuncData} {N ps : List Str} {k n : Nat} {b : DnS} (F : Fun K x qual st f fd) (S : FnScope N ps (defScope st)) (hp : ps.length = n) (hc : fd.code = .ref c)
    (hbody : ∀ (cdv : Value) (A : Around) (outer : List Env) (s : Shared) (H : Hp) (E : XK), cdv = .ref c → A.guards = some [] → Room k (A.deeper (envOfC qual (defScope st) s.heap.objs.size f cdv)) →
      ∃ t, PSs (cxOf CX0 P w K mg base N qual (defScope st) f cdv A outer s H E).nox (defBody st) t ∧ Es cf noE t b) :
    FnG P w K mg base CX0 (k + 1) f fd ps (spD cf n fun ws st => nox (fnD N.length b ws st)) := by
  refine ⟨fun vs H Q E h => (spD_len h).trans hp.symm, fun A outer s H args us vs Q E hg hr e0 hb r hsp => ?_⟩
  refine body_atC F S ((spD_len hsp).trans hp.symm) hr e0 hb r (fun cdv hcd => ?_)
  obtain ⟨t, ht, he⟩ := hbody cdv A outer s H E (hcd.symm.trans hc) hg (hr.deeper _)
  obtain ⟨m, st', ws, rfl, rr, kp, S', hl, q⟩ := hsp
  exact ⟨t, ht.nox, he m _ _ st' _ (ER.start rr kp rfl) S' (Px_exit S' (Pe_noxE q))⟩
end
end QD
/-! XK: an own object made by keywords alone. -/
namespace QD
open PySem PySem.Spec PyProof.Rows L2 MG
def tPm (m : Nat) (π : List Nat) (tk : TA) : TA := fun σ H K => tk σ H fun zs H2 => zs.length = m ∧ K (gP π [] zs) H2
section
variable {X : Cx} {CX : CXT} {k : Nat} {f C : Addr} {fd : FuncData} {ps ks : List Str} {sp : Sp} {E : XK} {x : Str} {p pos : Pos} {kws : List Keyword} {tk : TA} {π : List Nat}
end
section
variable {cf : Cf} {E : XK} {t : TA} {a : DnA} {k : Nat} {π : List Nat}
def aPm (k : Nat) (π : List Nat) (a : DnA) : DnA := fun en st => (a en st).bind fun ws st1 => if ws.length = k then .ok (gP π [] (ws.map frz)) st1 else .no
end
end QD
/-! XN: a tuple backwards, t[::-1]; t == (); an item of a list display. -/
namespace XN
open PySem PySem.Spec PyProof.Rows L2 HT
section
variable {prog : Program} {w : World} {A : Around} {E : Value → Shared → Prop} {s : Shared}
end
end XN
namespace QD
open PySem PySem.Spec PyProof.Rows L2 MG
def tRev (K : PySem.W.Frag) (te : TE) (ts : TO) : TE := fun σ H Q => te σ H fun x H1 => ts σ H1 fun l H2 => l = some (-1) ∧ ∃ a xs, x = .ref a ∧ SqT K H2 a xs ∧ ∀ p, H2 p = none → Q (.ref p) (upd H2 p (.tup xs.reverse))
section
variable {X : Cx} {e : Expr} {te : TE} {st : Expr} {ts : TO} {pos p2 : Pos} {K : PySem.W.Frag}
end
section
variable {cf : Cf} {E : XK}
def dRev (a : Dn) (b : DnO) : Dn := fun en st => (a en st).bind fun x st1 => (b en st1).bind fun o st2 => match tupW x, o with
  | some l, some i => if i = -1 then .ok (.fz (.tuple l.reverse)) st2 else .no
  | _, _ => .no
end
/-! ### t == () -/
def rEqT0 (K : PySem.W.Frag) : R2 := fun x y H Q => ∃ a b xs, x = .ref a ∧ y = .ref b ∧ SqT K H a xs ∧ SqT K H b [] ∧ Q (.bl xs.isEmpty) H
def fEqT0 (a b : W) (st : Sto) : Rt W := match tupW a, tupW b with
  | some l, some [] => .ok (.fz (.bool l.isEmpty)) st
  | _, _ => .no
section
variable {cf : Cf} {E : XK}
end
/-! ### [x, .., z][i], where the items may be things of the store -/
def pickW (ws : List W) (y : W) (st : Sto) : Rt W := match intW y with
  | some i => match atI (ws.map frz) i with
    | some w => .ok w st
    | none => .no
  | none => .no
def dPick (a : DnA) (b : Dn) : Dn := fun en st => (a en st).bind fun ws st1 => if ws.length ≤ sizeLine then (b en st1).bind fun y st2 => pickW ws y st2 else .no
theorem atI_nat {α : Type} {l : List α} {i : Int} {x : α} (h : atI l i = some x) : ∃ k : Nat, ixN l.length i = some k ∧ l[k]? = some x := by
  unfold atI at h
  cases e : ixN l.length i with
  | none => rw [e] at h; cases h
  | some k => rw [e] at h; exact ⟨k, rfl, h⟩
section
variable {cf : Cf} {E : XK}
@[simp] theorem pickW_eq {ws : List W} {y : W} {st : Sto} : pickW ws y st = match intW y with
  | some i => match atI (ws.map frz) i with
    | some w => .ok w st
    | none => .no
  | none => .no := (rfl)
end
/-- {} that never changes -/
def dEmp : Dn := fun _ st => .ok (.fz (.dict [])) st
theorem ev_emp {cf : Cf} {E : XK} : Ev cf E tDNewK dEmp := fun m σ en st Q er S h p hp =>
  h (.ref p) _ (Rs.fz (Stp.one hp) (S.new hp) (.emp ⟨S.out hp, fun z => S.bl p z hp, .inl upd_same⟩))
end QD
/-! YA: x in o by an own __contains__; d.get(k, x). -/
namespace QD
open PySem PySem.Spec PyProof.Rows L2 MG
/-! ### x in o -/
def rInOwn (C : Addr) (sp : Sp) (E : XK) : R2 := fun x y H Q => ∃ a dx fs, y = .ref a ∧ H a = some (.ins C dx fs) ∧ sp [.ref a, x] H (fun z H' => ∃ c : Bool, z = .bl c ∧ Q (.bl c) H') E
section
variable {X : Cx} {CX : CXT} {k : Nat} {C f : Addr} {fd : FuncData} {ps : List Str} {sp : Sp} {E : XK}
theorem run_at {A' : Around} {pins : List (Addr × Obj)} {σ : L2.St} {H : Hp} {s : Shared} {Q : VK} {us : List Value} {vs : List V}
    (F : FnOk X.prog X.w X.K X.mg X.base CX k f fd ps sp) (hr : Room k A') (hfr : A'.frames = X.A.frames) (hb : Binds X.K fd ps []) (hx : Passes CX X E)
    (I : Inv X pins σ H s) (r : Vals vs us) (h : sp vs H Q E) : wpAny (model X.prog X.w) A' (call (.ref f) us) (EP X pins σ Q) X.xe s := by
  have e := I.env0
  have e0 : Env0 X.prog X.w X.K X.mg X.base A' X.stack s H := ⟨by rw [hfr]; exact e.frames, e.mod, e.bs, e.bsz, e.funs, e.frf, e.hok, e.bare⟩
  have hl := F.len _ _ _ _ h
  have hb' := hb s us I.kIn (by rw [List.append_nil, ← r.length]; exact hl)
  rw [List.append_nil] at hb'
  refine wpAny_call (codeAny_mono (F.run A' X.stack s H ⟨us, []⟩ us vs Q E hr e0 hb' r h) (fun res s' hq => ?_))
  match res, hq with
  | .error e, hq => exact hx pins σ H s e s' I hq
  | .ok (.ret u), hq => exact I.after hq
theorem op_inOwn (M : Meth X.K C "__contains__" f) (F : FnOk X.prog X.w X.K X.mg X.base CX k f fd ps sp) (hr : Room k X.A) (hb : Binds X.K fd ps []) (hx : Passes CX X E) : OpR X (compareOp .In) (rInOwn C sp E) := by
  intro pins s σ H x y v u Q I rx ry h
  obtain ⟨a, dx, fs, rfl, ha, h⟩ := h
  cases (show u = Value.ref a from ry)
  obtain ⟨mA, J, _⟩ := ins_get I.hok ha
  obtain ⟨od, J, _⟩ := J.look
  obtain ⟨m, hF⟩ := I.fr
  refine PySem.W.in_K hF I.ok.mod.kin J M.at_ M.fn (wpAny_mono (run_at F hr rfl hb hx I (vs := [.ref a, x]) (us := [Value.ref a, v]) (.cons rfl (.cons rx .nil)) h) (fun w s' hv => ?_) (fun _ _ e => e))
  obtain ⟨z, H', I', rz, c, rfl, q⟩ := hv
  cases (show w = Value.bool c from rz)
  exact wpAny_truthy_bool ⟨.bl c, H', I', rfl, q⟩
end
def fInOwn (c : Nat) (ns : List Str) (F : Fd) (x y : W) (st : Sto) : Rt W := match obW c ns st y, x with
  | some _, .fz d => (F [y, .fz d] st).bind fun z st1 => match z with
    | .fz (.bool b) => .ok (.fz (.bool b)) st1
    | _ => .no
  | _, _ => .no
section
variable {cf : Cf} {E : XK}
theorem q_inOwn {c : Nat} {C : Addr} {ns : List Str} {F : Fd} (hc : cf.ct c = some (C, ns)) : Op2 cf E (rInOwn C (spD cf 2 F) E) (fInOwn c ns F) := fun m st v1 v2 w1 w2 Q S r1 r2 h => by
  unfold fInOwn at h
  cases e1 : obW c ns st w2 with
  | none => rw [e1] at h; cases w1 <;> exact h.elim
  | some l =>
    rw [e1] at h
    cases w1 with
    | own _ => exact h.elim
    | loc _ => exact h.elim
    | nst _ => exact h.elim
    | fz d =>
      obtain ⟨a, dx, fs, rfl, ha, _⟩ := obW_ok hc S r2 e1
      refine ⟨a, dx, fs, rfl, ha, m, st, [w2, .fz d], rfl, .cons r2 (.cons r1 .nil), fun w hw => ?_, S, rfl, ?_⟩
      · rcases List.mem_cons.mp hw with rfl | hw
        · exact ob_stays e1
        · rw [List.mem_singleton] at hw; subst hw; trivial
      · dsimp only at h
        cases e2 : F [w2, .fz d] st with
        | no => rw [e2] at h; exact h.elim
        | ex c p st1 => rw [e2] at h; exact h
        | ok z st1 =>
          rw [e2, Rt.bind_ok] at h
          have key : ∀ b, z = .fz (.bool b) → Pe cf E m (fun z H' => ∃ c : Bool, z = .bl c ∧ Q (.bl c) H') (.ok z st1) := fun b e => by
            subst e
            intro v m' r
            have w : Fz cf.K cf.ct m' v (.bool b) := r.wr
            cases w
            exact ⟨b, rfl, h _ _ r⟩
          cases z with
          | own _ => exact h.elim
          | loc _ => exact h.elim
          | nst _ => exact h.elim
          | fz d' =>
            cases d' with
            | bool b => exact key b rfl
            | _ => exact h.elim
/-! ### d.get(k, x) -/
def dGet2 (a k e : Dn) : Dn := fun en st => (a en st).bind fun wd st1 => match wd with
  | .loc n => match st1[n]? with
    | some (.dk _) => (k en st1).bind fun wk st2 => (e en st2).bind fun we st3 => match keyW wk, we with
      | some key, .fz d0 => match st3[n]? with
        | some (.dk l) => .ok (.fz ((valG l key).getD d0)) st3
        | _ => .no
      | _, _ => .no
    | _ => .no
  | _ => .no
/-! ### not e as a value, by truth -/
def dNotT (a : Dn) : Dn := fun en st => (a en st).bind fun x st1 => match truW st1 x with
  | some b => .ok (.fz (.bool (!b))) st1
  | none => .no
@[simp] theorem dNotT_eq {a : Dn} {en : En} {st : Sto} : dNotT a en st = (a en st).bind fun x st1 => match truW st1 x with
  | some b => .ok (.fz (.bool (!b))) st1
  | none => .no := (rfl)
end
end QD
namespace CM
open PySem PySem.Spec PyProof.Rows L2 ClX
section
variable {X : Cx} {CX : CXT} {k i : Nat} {f C p g : Addr} {mc : Value} {fd : FuncData}
variable {ps ks : List Str} {sp : Sp} {E : XK} {x m : Str} {e o : Expr} {es : List Expr}
variable {kws : List Keyword} {t tk : TA} {ta : TE} {pn pos apos : Pos} {dvs : List V}
variable {ds : List Value}
/-- x(e, ..), x a local that holds the class at C -/
def tMakeV (i : Nat) (C : Addr) (sp : Sp) (dvs : List V) (E : XK) (t : TA) : TE := fun σ H Q =>
  σ[i]? = some (some (.ref C)) ∧ tMake C sp dvs E t σ H Q
theorem pe_makeV (M : Mk X.K C f) (F : FnOk X.prog X.w X.K X.mg X.base CX k f fd ps sp)
    (hr : Room (k + 1) X.A) (hb : Binds X.K fd ps ds) (hd : Vals dvs ds) (hx : Passes CX X E)
    (hN : X.N[i]? = some x) (hv : Vis X.env.scope x) (ha : PA X (e :: es) t)
    (hdb : (x == ("__debug__" : Str)) = false := by decide)
    (hcd : (x == ("__classdict__" : Str)) = false := by decide)
    (he : starEach (e :: es) X.env = (false, eval e X.env) :: starEach es X.env := by rfl)
    (hpl : (backTo pos (starEach es X.env)).any (·.1) = false := by rfl) :
    PE X (.Call (.Name x pn) (e :: es) [] pos) (tMakeV i C sp dvs E t) := by
  constructor
  intro pins s σ H Q I ⟨hs, h⟩
  have look := (pe_var (pos := pn) (i := i) hN hv hdb hcd).run pins s σ H
    (fun v H1 => v = .ref C ∧ H1 = H) I ⟨.ref C, hs, rfl, rfl⟩
  refine wpAny_Call_Name_kw (thn look ?_)
  rintro u s1 ⟨v, H1, I1, r1, rfl, rfl⟩
  obtain rfl : u = Value.ref C := r1
  refine PySem.W.callWith_K (h₀ := X.base) I.ok.mod.kin M.kp ?_ he hpl
  refine thn (ha.run pos pins s1 σ H1 _ I1 h) ?_
  rintro us s2 ⟨vs, H2, I2, r, q⟩
  exact ⟨I2.kIn, run_make M F hr hb hd hx I2 r q⟩
/-- o.m(k = v, ..), o the class at C, m a classmethod of it -/
def tCMethK (C : Addr) (n : Nat) (sp : Sp) (gV : List V → List V → List V) (E : XK) (ta : TE)
    (tk : TA) : TE := fun σ H Q => ta σ H fun x H1 => x = .ref C ∧
  tk σ H1 fun zs H2 => zs.length = n ∧ sp (gV [.ref C] zs) H2 Q E
end
end CM
/-! YF: t.split(x), t.partition(x), d.get(k), a call of a local that holds a class, a classmethod, str of an own object. -/
namespace QD
open PySem PySem.Spec PyProof.Rows L2 MG
section
variable {cf : Cf} {E : XK}
/-! ### texts taken apart -/
abbrev rSplit1 : V → List V → Hp → VK → Prop := fun x xs H Q => ∃ a b, x = .str a ∧ xs = [.str b] ∧ (b.length == 0) = false ∧ a.length + 2 ≤ sizeLine ∧ rNewStrs (Txt.split a b) H Q
abbrev rPart1 : V → List V → Hp → VK → Prop := fun x xs H Q => ∃ a b, x = .str a ∧ xs = [.str b] ∧ (b.length == 0) = false ∧ a.length ≤ sizeLine ∧
  ∀ p, H p = none → Q (.ref p) (upd H p (.tup [.str (Txt.partition a b).1, .str (Txt.partition a b).2.1, .str (Txt.partition a b).2.2]))
def dSplit (a b : Dn) : Dn := fun en st => (a en st).bind fun x st1 => match strW x with
  | some z => (b en st1).bind fun y st2 => match strW y with
    | some s => if (s.length == 0) = false ∧ z.length + 2 ≤ sizeLine then .ok (.own ((Txt.split z s).map PyData.str)) st2 else .no
    | none => .no
  | none => .no
def dPart (a b : Dn) : Dn := fun en st => (a en st).bind fun x st1 => match strW x with
  | some z => (b en st1).bind fun y st2 => match strW y with
    | some s => if (s.length == 0) = false ∧ z.length ≤ sizeLine then .ok (.fz (.tuple [.str (Txt.partition z s).1, .str (Txt.partition z s).2.1, .str (Txt.partition z s).2.2])) st2 else .no
    | none => .no
  | none => .no
theorem fza_str {m : Mo} : ∀ {ys : List Str}, FzA cf.K cf.ct m (ys.map V.str) (ys.map PyData.str)
  | [] => .nil
  | y :: ys => .cons (.str y) fza_str
theorem ev_split {ta tb : TE} {a b : Dn} (ha : Ev cf E ta a) (hb : Ev cf E tb b) : Ev cf E (tM1 rSplit1 ta tb) (dSplit a b) := fun m σ en st Q er S h => by
  refine ha m σ en st _ er S ?_
  unfold dSplit at h
  cases e : a en st with
  | ex c p st1 => rw [e] at h; exact h
  | no => rw [e] at h; exact h
  | ok x st1 =>
    rw [e, Rt.bind_ok] at h
    intro v m1 r1
    cases e2 : strW x with
    | none => rw [e2] at h; exact h.elim
    | some z =>
      rw [e2] at h
      refine ⟨⟨z, strW_ok r1.wr e2⟩, ?_⟩
      refine hb m1 σ en st1 _ (er.to r1.stp) r1.sr ?_
      dsimp only at h
      cases e3 : b en st1 with
      | ex c p st2 => rw [e3] at h; exact Xe.pre r1.stp h
      | no => rw [e3] at h; exact h
      | ok y st2 =>
        rw [e3, Rt.bind_ok] at h
        intro u m2 r2
        cases e4 : strW y with
        | none => rw [e4] at h; exact h.elim
        | some s =>
          rw [e4] at h
          dsimp only at h
          split at h
          case isFalse => exact h.elim
          case isTrue c =>
            refine ⟨z, s, strW_ok r1.wr e2, by rw [strW_ok r2.wr e4], c.1, c.2, fun p hp => ?_⟩
            exact h _ _ (Rs.new (r1.stp.trans r2.stp) r2.sr hp fza_str)
theorem ev_part {ta tb : TE} {a b : Dn} (ha : Ev cf E ta a) (hb : Ev cf E tb b) : Ev cf E (tM1 rPart1 ta tb) (dPart a b) := fun m σ en st Q er S h => by
  refine ha m σ en st _ er S ?_
  unfold dPart at h
  cases e : a en st with
  | ex c p st1 => rw [e] at h; exact h
  | no => rw [e] at h; exact h
  | ok x st1 =>
    rw [e, Rt.bind_ok] at h
    intro v m1 r1
    cases e2 : strW x with
    | none => rw [e2] at h; exact h.elim
    | some z =>
      rw [e2] at h
      refine ⟨⟨z, strW_ok r1.wr e2⟩, ?_⟩
      refine hb m1 σ en st1 _ (er.to r1.stp) r1.sr ?_
      dsimp only at h
      cases e3 : b en st1 with
      | ex c p st2 => rw [e3] at h; exact Xe.pre r1.stp h
      | no => rw [e3] at h; exact h
      | ok y st2 =>
        rw [e3, Rt.bind_ok] at h
        intro u m2 r2
        cases e4 : strW y with
        | none => rw [e4] at h; exact h.elim
        | some s =>
          rw [e4] at h
          dsimp only at h
          split at h
          case isFalse => exact h.elim
          case isTrue c =>
            refine ⟨z, s, strW_ok r1.wr e2, by rw [strW_ok r2.wr e4], c.1, c.2, fun p hp => ?_⟩
            have h' := Pe.pre (r1.stp.trans r2.stp) h
            exact h' _ _ (Rs.newTup r2.sr hp (.cons (.str _) (.cons (.str _) (.cons (.str _) .nil))))
/-! ### d.get(k) -/
def dGet1 (a k : Dn) : Dn := fun en st => (a en st).bind fun wd st1 => match wd with
  | .loc n => match st1[n]? with
    | some (.dk _) => (k en st1).bind fun wk st2 => match keyW wk with
      | some key => match st2[n]? with
        | some (.dk l) => .ok (.fz ((valG l key).getD .none)) st2
        | _ => .no
      | _ => .no
    | _ => .no
  | _ => .no
theorem ev_dget1 {td ty : TE} {a k : Dn} (ha : Ev cf E td a) (hk : Ev cf E ty k) : Ev cf E (tDGet1 td ty) (dGet1 a k) := fun m σ en st Q er S h => by
  refine ha m σ en st _ er S ?_
  unfold dGet1 at h
  cases e1 : a en st with
  | ex c p st1 => rw [e1] at h; exact h
  | no => rw [e1] at h; exact h
  | ok wd st1 =>
    rw [e1, Rt.bind_ok] at h
    intro v m1 r1
    cases wd with
    | fz _ => exact h.elim
    | own _ => exact h.elim
    | nst _ => exact h.elim
    | loc n =>
      dsimp only at h
      obtain ⟨q, rfl, hq⟩ := r1.wr
      cases e2 : st1[n]? with
      | none => rw [e2] at h; exact h.elim
      | some o =>
        rw [e2] at h
        cases o with
        | lst _ => exact h.elim
        | ins _ _ => exact h.elim
        | tab _ _ => exact h.elim
        | dk l0 =>
          dsimp only at h
          obtain ⟨kvs0, hk0, _⟩ := dk_at r1.sr hq e2
          refine ⟨q, rfl, .inl ⟨kvs0, .inl hk0⟩, ?_⟩
          refine hk m1 σ en st1 _ (er.to r1.stp) r1.sr ?_
          cases e3 : k en st1 with
          | ex c p st2 => rw [e3] at h; exact Xe.pre r1.stp h
          | no => rw [e3] at h; exact h
          | ok wk st2 =>
            rw [e3, Rt.bind_ok] at h
            intro u m2 r2
            cases e5 : keyW wk with
            | none => rw [e5] at h; exact h.elim
            | some key =>
              rw [e5] at h
              dsimp only at h
              cases e6 : st2[n]? with
              | none => rw [e6] at h; exact h.elim
              | some o =>
                rw [e6] at h
                cases o with
                | lst _ => exact h.elim
                | ins _ _ => exact h.elim
                | tab _ _ => exact h.elim
                | dk l =>
                  dsimp only at h
                  have w3 := r1.wr.to r2.stp
                  obtain ⟨q', eq, hq3⟩ := w3
                  cases eq
                  obtain ⟨kvs, hk3, kv⟩ := dk_at r2.sr hq3 e6
                  obtain rfl := keyW_ok r2.wr e5
                  have st := r1.stp.trans r2.stp
                  refine ⟨valV kvs key, DGet.k hk3, ?_⟩
                  cases e7 : valG l key with
                  | none =>
                    rw [e7] at h
                    rw [(kv.val key).2 e7]
                    exact h .non m2 (Rs.fz st r2.sr .non)
                  | some d =>
                    rw [e7] at h
                    obtain ⟨v', hv, fv⟩ := (kv.val key).1 d e7
                    rw [hv]
                    exact h v' m2 (Rs.fz st r2.sr fv)
/-! ### a class as a value -/
def isC (c : Nat) : W → Bool
  | .fz (.dict [(.bool false, .int i)]) => decide (i = (c : Int))
  | _ => false
theorem isC_ok {m : Mo} {v : V} {w : W} {c : Nat} {C : Addr} {ns : List Str} (hc : cf.ct c = some (C, ns)) (r : WR cf.K cf.ct m v w) (e : isC c w = true) : v = .ref C := by
  unfold isC at e
  split at e
  case h_2 => cases e
  case h_1 i =>
    have e1 := of_decide_eq_true e
    subst e1
    have r' : Fz cf.K cf.ct m v (.dict [(.bool false, .int (c : Int))]) := r
    cases r' with
    | cls h =>
      rw [hc] at h
      cases h
      rfl
theorem isC_stays {c : Nat} {w : W} (e : isC c w = true) : w.stays := by
  unfold isC at e
  split at e
  case h_2 => cases e
  case h_1 => trivial
/-- x(..), x a local that holds the class c -/
def dMakeV (i n c : Nat) (fin : Nat → Sto → Option (W × Sto)) (F : Fd) (ds : List W) (a : DnA) : Dn := fun en st => match en[i]? with
  | some (some w) => if isC c w = true then dMake n c fin F ds a en st else .no
  | _ => .no
theorem ev_makeV {i n c : Nat} {C : Addr} {ns : List Str} {fin : Nat → Sto → Option (W × Sto)} {F : Fd} {dvs : List V} {ds : List W} {t : TA} {a : DnA} (hc : cf.ct c = some (C, ns)) (hf : FinOk cf c fin) (hd : ∀ m, WRs cf m dvs ds ∧ ∀ w ∈ ds, w.stays) (ha : Ea cf E t a) :
    Ev cf E (CM.tMakeV i C (spD cf n F) dvs E t) (dMakeV i n c fin F ds a) := fun m σ en st Q er S h => by
  unfold dMakeV at h
  cases e : en[i]? with
  | none => rw [e] at h; exact h.elim
  | some o =>
    cases o with
    | none => rw [e] at h; exact h.elim
    | some w =>
      rw [e] at h
      dsimp only at h
      split at h
      case isFalse => exact h.elim
      case isTrue hcw =>
        obtain ⟨v, hv, r, k⟩ := er.at_ i w e
        have := isC_ok hc r hcw
        subst this
        exact ⟨hv, ev_make hc hf hd ha m σ en st Q er S h⟩
/-- C.m(..), m a classmethod -/
def dCMeth (c n : Nat) (F : Fd) (a : Dn) (b : DnA) : Dn := fun en st => (a en st).bind fun x st1 => if isC c x = true then (b en st1).bind fun ws st2 => if (ws.map frz).length + 1 = n then F (x :: ws.map frz) st2 else .no else .no
theorem ev_cmeth {c n : Nat} {C : Addr} {ns : List Str} {F : Fd} {ta : TE} {t : TA} {a : Dn} {b : DnA} (hc : cf.ct c = some (C, ns)) (ha : Ev cf E ta a) (hb : Ea cf E t b) :
    Ev cf E (ClX.tCMeth C (spD cf n F) E ta t) (dCMeth c n F a b) := fun m σ en st Q er S h => by
  refine ha m σ en st _ er S ?_
  unfold dCMeth at h
  cases e : a en st with
  | ex c p st1 => rw [e] at h; exact h
  | no => rw [e] at h; exact h
  | ok x st1 =>
    rw [e, Rt.bind_ok] at h
    intro v m1 r1
    split at h
    case isFalse => exact h.elim
    case isTrue hcw =>
      have := isC_ok hc r1.wr hcw
      refine ⟨this, ?_⟩
      refine hb m1 σ en st1 _ (er.to r1.stp) r1.sr ?_
      cases e3 : b en st1 with
      | ex c p st2 => rw [e3] at h; exact Xe.pre r1.stp h
      | no => rw [e3] at h; exact h
      | ok ws st2 =>
        rw [e3, Rt.bind_ok] at h
        intro vs m2 s2 S2 r2
        split at h
        case isFalse => exact h.elim
        case isTrue hl =>
          obtain ⟨r, k⟩ := r2.frz
          refine ⟨m2, st2, x :: ws.map frz, rfl, .cons (this ▸ r1.wr.to s2) r, fun w hw => ?_, S2, hl, Pe.pre (r1.stp.trans s2) h⟩
          rcases List.mem_cons.mp hw with rfl | hw
          · exact isC_stays hcw
          · exact k w hw
/-! ### str of an own object -/
def fStrOwn (c : Nat) (ns : List Str) (F : Fd) (x : W) (st : Sto) : Rt W := match obW c ns st x with
  | some _ => (F [x] st).bind fun z st1 => match strW z with
    | some s => .ok (.fz (.str s)) st1
    | none => .no
  | none => .no
def rStrOwn (C : Addr) (sp : Sp) (E : XK) : List V → Hp → VK → Prop := fun xs H Q => ∃ a dx fs, xs = [.ref a] ∧ H a = some (.ins C dx fs) ∧ sp [.ref a] H (fun z H' => ∃ x : Str, z = .str x ∧ Q (.str x) H') E
theorem q_strOwn {c : Nat} {C : Addr} {ns : List Str} {F : Fd} (hc : cf.ct c = some (C, ns)) : OpN cf E (rStrOwn C (spD cf 1 F) E) (f1 (fStrOwn c ns F)) := opN1 fun m st v w Q S r h => by
  unfold fStrOwn at h
  cases e1 : obW c ns st w with
  | none => rw [e1] at h; exact h.elim
  | some l =>
    rw [e1] at h
    dsimp only at h
    obtain ⟨a, dx, fs, rfl, ha, _⟩ := obW_ok hc S r e1
    refine ⟨a, dx, fs, rfl, ha, m, st, [w], rfl, .cons r .nil, fun w' hw => ?_, S, rfl, ?_⟩
    · rw [List.mem_singleton] at hw; subst hw; exact ob_stays e1
    · cases e2 : F [w] st with
      | no => rw [e2] at h; exact h.elim
      | ex c p st1 => rw [e2] at h; exact h
      | ok z st1 =>
        rw [e2, Rt.bind_ok] at h
        cases e3 : strW z with
        | none => rw [e3] at h; exact h.elim
        | some s =>
          rw [e3] at h
          intro v m' r'
          exact ⟨s, strW_ok r'.wr e3, h _ _ (.fz r'.stp r'.sr (.str s))⟩
end
section
variable {X : Cx} {CX : CXT} {k : Nat} {C f : Addr} {fd : FuncData} {ps : List Str} {sp : Sp} {E : XK}
theorem rawN {P : Program} {w : World} {K : PySem.W.Frag} {mg : Str → Option Value} {base : Heap} (F : FnOk P w K mg base CX k f fd ps sp) (hb : Binds K fd ps []) : FnR P w K mg base CX k f sp :=
  (F.raw hb .nil).imp fun vs H Q E h => by rw [List.append_nil]; exact h
theorem call_strOwn (M : Meth X.K C "__str__" f) (F : FnOk X.prog X.w X.K X.mg X.base CX k f fd ps sp) (hr : Room (k + 2) X.A) (hb : Binds X.K fd ps []) (hx : Passes CX X E) : CallR X (.type "str") (rStrOwn C sp E) := by
  intro pins s σ H xs us Q I r h
  obtain ⟨a, dx, fs, rfl, ha, h⟩ := h
  obtain rfl := Vals.ref1 r
  obtain ⟨mA, J, _⟩ := ins_get I.hok ha
  obtain ⟨od, J, _⟩ := J.look
  refine PySem.W.kso_call hr.in1.in1.units0 I.kIn J M.at_ M.fn (wpAny_mono (run_at F hr.in1.in1 rfl hb hx I (vs := [.ref a]) (us := [Value.ref a]) (.cons rfl .nil) h) (fun v s' hv => ?_) (fun _ _ e => e))
  obtain ⟨z, H', I', rz, x, rfl, q⟩ := hv
  obtain ⟨t, rfl⟩ := rz
  exact ⟨.str x, H', I', ⟨_, rfl⟩, q⟩
end
end QD
/-! YB: sorted of pairs of an int and a tuple of ints. -/
namespace SrtT
open PySem PyProof.Rows Srt SrtO
def lexT : List Int → List Int → Bool
  | [], [] => false
  | [], _ :: _ => true
  | _ :: _, [] => false
  | x :: xs, y :: ys => if x = y then lexT xs ys else decide (x < y)
def ltT (p q : Int × List Int) : Bool := if p.1 = q.1 then lexT p.2 q.2 else decide (p.1 < q.1)
/-! in the heap -/
def IsPT (h : Heap) (v : Value) (p : Int × List Int) : Prop := ∃ a o t c n its, v = .ref a ∧ h.get? a = some o ∧ o.cls = .type "tuple" ∧ o.data = .seq #[.int p.1 t, .ref c] n ∧ h.IsTuple c its ∧ IntsAre its.toList p.2
theorem IsPT.keeps {h h' : Heap} {v : Value} {p : Int × List Int} (q : IsPT h v p) (k : ∀ b o, h.get? b = some o → o.cls = .type "tuple" → h'.get? b = some o) : IsPT h' v p := by
  obtain ⟨a, o, t, c, n, its, e, ho, hc, hd, ⟨oc, h1, h2, h3⟩, hi⟩ := q
  exact ⟨a, o, t, c, n, its, e, k _ _ ho hc, hc, hd, ⟨oc, k _ _ h1 h2, h2, h3⟩, hi⟩
section
variable {prog : Program} {w : World} {A : Around} {E : Value → Shared → Prop} {s : Shared}
end
end SrtT
/-! YC: sorted of such pairs, as a rule; as data. -/
namespace L2
open PySem PySem.Spec PyProof.Rows
def GoodPT (K : PySem.W.Frag) (H : Hp) (x : V) (p : Int × List Int) : Prop := ∃ t c, x = .ref t ∧ SqT K H t [.int p.1, .ref c] ∧ SqT K H c (p.2.map V.int)
def rSortedPT (K : PySem.W.Frag) : List V → Hp → VK → Prop := fun vs H Q => ∃ (a : Addr) (ps : List (V × (Int × List Int))), vs = [.ref a] ∧ SqL K H a (ps.map (·.1)) ∧ (∀ p ∈ ps, GoodPT K H p.1 p.2) ∧
  ∀ qs d, qs.Perm ps → SrtO.Srtd (fun x y => SrtT.ltT x.2 y.2) qs → H d = none → Q (.ref d) (upd H d (.lst (qs.map (·.1))))
section
variable {X : Cx}
end
end L2
/-! YD: sorted of such pairs, as data. -/
namespace QD
open PySem PySem.Spec PyProof.Rows L2 MG SrtT
abbrev PT := Int × List Int
def ptD (p : PT) : D := .tuple [.int p.1, .tuple (p.2.map PyData.int)]
def ptOf : D → Option PT
  | .tuple [.int n, .tuple l] => (intL l).map fun r => (n, r)
  | _ => none
def ptL : List D → Option (List PT)
  | [] => some []
  | d :: ds => match ptOf d, ptL ds with
    | some p, some ps => some (p :: ps)
    | _, _ => none
def insT (x : PT) : List PT → List PT
  | [] => [x]
  | y :: l => if ltT y x = true then y :: insT x l else x :: y :: l
def isortT : List PT → List PT
  | [] => []
  | x :: l => insT x (isortT l)
abbrev SrtP (l : List PT) : Prop := l.Pairwise fun x y => ltT y x = false
def fSortPT (w : W) (st : Sto) : Rt W := match (seqW st w).bind ptL with
  | some ps => .ok (.own ((isortT ps).map ptD)) st
  | none => .no
section
variable {cf : Cf} {E : XK} {m : Mo}
@[simp] theorem fSortPT_eq {w : W} {st : Sto} : fSortPT w st = match (seqW st w).bind ptL with
  | some ps => .ok (.own ((isortT ps).map ptD)) st
  | none => .no := (rfl)
end
end QD
/-! YG: a text against any data, != : another kind is another thing, an empty dict too. -/
namespace QD
open PySem PySem.Spec PyProof.Rows L2 MG
theorem str_ne_declines_dict (l : Addr) (es : Array DictEntry) (ep : Nat) (dd : Option Addr) (sl : Array (Option Value)) (b : Str) (u : Tok) :
    Meets (Builtin.«str.__ne__» ⟨[.str b u, .ref l], []⟩) (fun _ R s => s.heap.get? l = some { cls := .type "dict", dict := dd, data := .dict es ep, slots := sl } ∧ R (.ok (.ret .notImplemented)) s) :=
  .of_wp fun prog w A R s h => by obtain ⟨hp, g, d, tk, os⟩ := s; obtain ⟨hl, h⟩ := h; wp_walk using wpAny_loadPart' hl, wpAny_load hl; exact ⟨_, rfl, h⟩
theorem dict_ne_declines_str {prog : Program} {w : World} {A : Around} {E : Value → Shared → Prop} {s : Shared} {Q : Value → Shared → Prop} {l : Addr} {b : Str} {u : Tok} (hT : s.TypeIs (.ref l) "dict") (h : Q .notImplemented s) :
    wpAny (model prog w) A (call (.builtin "dict.__ne__") [.ref l, .str b u]) Q E s := by
  refine wpAny_call_entry PySem.F.slot_dict_ne hT PySem.F.entry_dict_ne ?_ (PySem.F.args_dict_ne_2 _ _)
  show wpAny _ _ (Builtin.Dict.dictSlotArgs "__ne__" ⟨[.ref l, .str b u], []⟩ >>= _) _ _ s
  refine wpAny_bind ?_
  unfold Builtin.Dict.dictSlotArgs
  refine wpAny_bind (wpAny_notOrdered_dict hT ?_)
  show wpAny _ _ (pure (Value.ref l, Value.str b u)) _ _ s
  refine wpAny_pure ?_
  refine wpAny_bind (wpAny_isInstance (T := "str") (typeIs_str s b u) PySem.F.sub_str_dict ?_)
  simp only [Bool.not_false, if_true]
  refine wpAny_bind (wpAny_rule ?_)
  refine wpAny_bind (wpAny_pure ?_)
  exact wpAny_pure ⟨_, rfl, h⟩
def rNeS (K : PySem.W.Frag) : R2 := fun x y H Q => (∃ (b : Str) (a : Addr), x = .str b ∧ y = .ref a ∧ Rd H a (.dK []) ∧ Q (.bl true) H) ∨ rNeD K x y H Q
theorem op_neS {X : Cx} (K : PySem.W.Frag) (hu : X.A.units + 64 < cLine) (hK : X.K = K := by rfl) : OpR X (compareOp .NotEq) (rNeS K) := by
  subst hK
  intro pins s σ H x y v u Q I rx ry h
  rcases h with ⟨b, a, rfl, rfl, hr, q⟩ | h
  · obtain ⟨t, rfl⟩ := rx
    obtain rfl : u = Value.ref a := ry
    obtain ⟨_, _, vs, kv, o, es, ep, ho, ⟨hc, hd, hs⟩, hda, _⟩ := hr.ok I.hok
    obtain ⟨cls, dd, da, sl⟩ := o
    dsimp only at hc hd hs hda
    subst hc hd hs hda
    have hT : s.TypeIs (.ref a) "dict" := ⟨_, ho, rfl⟩
    exact SeqAt.rc_ne_decline_or (k := false) (typeIs_str s b t) hT (by decide) PySem.F.sub_dict_str PySem.F.slot_str_ne PySem.F.slot_dict_ne_refl
      (fun _ hq => call_meets PySem.F.slot_str_ne (typeIs_str s b t) PySem.F.entry_str_ne (PySem.F.args_str_ne_2 _ _) (str_ne_declines_dict a es ep _ _ b t) ⟨ho, hq⟩)
      (fun _ hq => dict_ne_declines_str hT hq)
      (fun _ hq => wpAny_of_eq (rfl : isSame (.str b t) (.ref a) = pure false) hq) (.inr (by omega)) ⟨.bl true, H, I, rfl, q⟩
  · exact op_neD hu pins s σ H x y v u Q I rx ry h
def fNeS (a b : W) (st : Sto) : Rt W := match lookW st a, b with
  | some (.str _), .fz (.dict []) => .ok (.fz (.bool true)) st
  | _, _ => fEqD true a b st
section
variable {cf : Cf} {E : XK}
theorem q_neS : Op2 cf E (rNeS cf.K) fNeS := fun m st v1 v2 w1 w2 Q S r1 r2 h => by
  unfold fNeS at h
  split at h
  case h_1 x e1 =>
    refine .inl ?_
    have d1 := look_dp S r1 e1 rfl
    cases d1
    have r2' : Fz cf.K cf.ct m v2 (.dict []) := r2
    cases r2' with
    | emp hr => exact ⟨_, _, rfl, rfl, hr.2.2, h.fz S (.bl _)⟩
  case h_2 => exact .inr (q_neD m st v1 v2 _ _ Q S r1 r2 h)
end
end QD
namespace K08
open PySem PySem.Spec PyProof.Rows L2 MG QD ZMS
def top (i : Nat) : Stmt := PySem.Challenge.pw_meetrounds_k08_whole_words_as_names.main.body.getD i (.Pass ⟨0, 0, 0, 0⟩)
def ns_Fair : List Str := ["_hosts", "_guests", "_tables", "_names", "_text"]
abbrev s_is_integer : Stmt := top 32
theorem sc_is_integer : FnScope ["value", "least", "most"] ["value", "least", "most"] (defScope s_is_integer) := ⟨rfl, rfl, rfl, by decide +kernel, rfl, by decide +kernel, by decide +kernel⟩
abbrev s_is_name : Stmt := top 33
theorem sc_is_name : FnScope ["value", "sign"] ["value"] (defScope s_is_name) := ⟨rfl, rfl, rfl, by decide +kernel, rfl, by decide +kernel, by decide +kernel⟩
abbrev s_is_pair : Stmt := top 34
theorem sc_is_pair : FnScope ["value"] ["value"] (defScope s_is_pair) := ⟨rfl, rfl, rfl, by decide +kernel, rfl, by decide +kernel, by decide +kernel⟩
abbrev s_names_of : Stmt := top 38
theorem sc_names_of : FnScope ["side", "member"] ["side"] (defScope s_names_of) := ⟨rfl, rfl, rfl, by decide +kernel, rfl, by decide +kernel, by decide +kernel⟩
abbrev s_text_of : Stmt := top 39
theorem sc_text_of : FnScope ["hosts", "guests", "tables", "lines", "name", "bound"] ["hosts", "guests", "tables"] (defScope s_text_of) := ⟨rfl, rfl, rfl, by decide +kernel, rfl, by decide +kernel, by decide +kernel⟩
abbrev s_number : Stmt := top 40
theorem sc_number : FnScope ["digits", "most", "written", "number"] ["digits", "most"] (defScope s_number) := ⟨rfl, rfl, rfl, by decide +kernel, rfl, by decide +kernel, by decide +kernel⟩
abbrev s_Fairu_containsu : Stmt := inClass (top 42) 6
theorem sc_Fairu_containsu : FnScope ["self", "value"] ["self", "value"] (defScope s_Fairu_containsu) := ⟨rfl, rfl, rfl, by decide +kernel, rfl, by decide +kernel, by decide +kernel⟩
abbrev s_Fairu_stru : Stmt := inClass (top 42) 8
theorem sc_Fairu_stru : FnScope ["self"] ["self"] (defScope s_Fairu_stru) := ⟨rfl, rfl, rfl, by decide +kernel, rfl, by decide +kernel, by decide +kernel⟩
abbrev s_l_jug : Stmt := top 44
theorem sc_l_jug : FnScope ["_law_script", "_law_at", "_law_own", "_law_mixed", "_law_each"] ["_law_script", "_law_at"] (defScope s_l_jug) := ⟨rfl, rfl, rfl, by decide +kernel, rfl, by decide +kernel, by decide +kernel⟩
abbrev s_l_pour : Stmt := top 45
theorem sc_l_pour : FnScope ["_law_jug_here", "_law_many", "_law_digit", "_law_mixed"] ["_law_jug_here", "_law_many"] (defScope s_l_pour) := ⟨rfl, rfl, rfl, by decide +kernel, rfl, by decide +kernel, by decide +kernel⟩
abbrev s_l_bases : Stmt := top 46
theorem sc_l_bases : FnScope ["_law_e", "_law_own", "_law_plain"] ["_law_e"] (defScope s_l_bases) := ⟨rfl, rfl, rfl, by decide +kernel, rfl, by decide +kernel, by decide +kernel⟩
abbrev s_l_is_name : Stmt := top 47
theorem sc_l_is_name : FnScope ["_law_thing", "_law_small", "_law_sign"] ["_law_thing"] (defScope s_l_is_name) := ⟨rfl, rfl, rfl, by decide +kernel, rfl, by decide +kernel, by decide +kernel⟩
abbrev s_l_keeps : Stmt := top 50
theorem sc_l_keeps : FnScope ["_law_e", "_law_at"] ["_law_e", "_law_at"] (defScope s_l_keeps) := ⟨rfl, rfl, rfl, by decide +kernel, rfl, by decide +kernel, by decide +kernel⟩
abbrev s_is_member : Stmt := top 36
theorem sc_is_member : FnScope ["value"] ["value"] (defScope s_is_member) := ⟨rfl, rfl, rfl, by decide +kernel, rfl, by decide +kernel, by decide +kernel⟩
abbrev s_parts_of : Stmt := top 41
theorem sc_parts_of : FnScope ["text", "hosts", "guests", "tables", "line", "kind", "_", "rest", "name", "digits"] ["text"] (defScope s_parts_of) := ⟨rfl, rfl, rfl, by decide +kernel, rfl, by decide +kernel, by decide +kernel⟩
abbrev s_l_odd : Stmt := top 48
theorem sc_l_odd : FnScope ["_law_jug_here", "_law_menu"] ["_law_jug_here"] (defScope s_l_odd) := ⟨rfl, rfl, rfl, by decide +kernel, rfl, by decide +kernel, by decide +kernel⟩
abbrev s_l_class : Stmt := top 49
theorem sc_l_class : FnScope ["_law_e", "_law_marks", "_law_at"] ["_law_e"] (defScope s_l_class) := ⟨rfl, rfl, rfl, by decide +kernel, rfl, by decide +kernel, by decide +kernel⟩
abbrev s_l_drawn : Stmt := top 52
theorem sc_l_drawn : FnScope ["_law_jug_here", "_law_word", "_law_signs", "_law_at"] ["_law_jug_here"] (defScope s_l_drawn) := ⟨rfl, rfl, rfl, by decide +kernel, rfl, by decide +kernel, by decide +kernel⟩
abbrev s_fault : Stmt := top 37
theorem sc_fault : FnScope ["side", "taken", "seen", "index", "member"] ["side", "taken"] (defScope s_fault) := ⟨rfl, rfl, rfl, by decide +kernel, rfl, by decide +kernel, by decide +kernel⟩
abbrev s_Fairu_initu : Stmt := inClass (top 42) 0
theorem sc_Fairu_initu : FnScope ["self", "hosts", "guests", "tables", "fault"] ["self", "hosts", "guests", "tables"] (defScope s_Fairu_initu) := ⟨rfl, rfl, rfl, by decide +kernel, rfl, by decide +kernel, by decide +kernel⟩
abbrev s_Fair_read : Stmt := inClass (top 42) 1
theorem sc_Fair_read : FnScope ["cls", "text", "hosts", "guests", "tables"] ["cls", "text"] (defScope s_Fair_read) := ⟨rfl, rfl, rfl, by decide +kernel, rfl, by decide +kernel, by decide +kernel⟩
abbrev s_l_told : Stmt := top 51
theorem sc_l_told : FnScope ["_law_act", "_law_words", "_law_back", "_law_e", "_law_at"] ["_law_act"] (defScope s_l_told) := ⟨rfl, rfl, rfl, by decide +kernel, rfl, by decide +kernel, by decide +kernel⟩
abbrev s_l_right : Stmt := top 53
theorem sc_l_right : FnScope ["_law_jug_here", "_law_turn", "_law_word", "_law_others", "_law_base", "_law_told_here", "_law_due", "_law_page", "_law_each"] ["_law_jug_here"] (defScope s_l_right) := ⟨rfl, rfl, rfl, by decide +kernel, rfl, by decide +kernel, by decide +kernel⟩
abbrev s_law : Stmt := top 54
theorem sc_law : FnScope ["_law_script", "_law_at"] ["_law_script"] (defScope s_law) := ⟨rfl, rfl, rfl, by decide +kernel, rfl, by decide +kernel, by decide +kernel⟩
/-- what the head tells -/
structure Tx (K : PySem.W.Frag) (mg : Str → Option Value) (ct : CTab) where
  C_Fair : Addr
  C_WrongValue : Addr
  C_InvalidText : Addr
  C_InvalidNumber : Addr
  C_InvalidName : Addr
  C_InvalidTables : Addr
  C_InvalidRound : Addr
  C_InvalidSchedule : Addr
  C_InvalidWish : Addr
  C_InvalidIndex : Addr
  C_NotAFair : Addr
  C_InvalidHosts : Addr
  C_InvalidGuests : Addr
  C_InvalidMeetings : Addr
  C_InvalidUrgent : Addr
  C_InvalidGrowth : Addr
  C_InvalidChanges : Addr
  C_InvalidAsked : Addr
  C_WrongName : Addr
  C_UnknownName : Addr
  C_NoAnswer : Addr
  C_TooFewRounds : Addr
  C_TooMany : Addr
  C_NothingToUndo : Addr
  C_Broken : Addr
  i_InvalidText : Addr
  i_InvalidHosts : Addr
  i_InvalidGuests : Addr
  P_l_right : Addr
  c_l_right : Addr
  f_is_integer : Addr
  d_is_integer : FuncData
  f_is_name : Addr
  d_is_name : FuncData
  f_is_pair : Addr
  d_is_pair : FuncData
  f_is_member : Addr
  d_is_member : FuncData
  f_fault : Addr
  d_fault : FuncData
  f_names_of : Addr
  d_names_of : FuncData
  f_text_of : Addr
  d_text_of : FuncData
  f_number : Addr
  d_number : FuncData
  f_parts_of : Addr
  d_parts_of : FuncData
  f_Fairu_initu : Addr
  d_Fairu_initu : FuncData
  f_Fair_read : Addr
  d_Fair_read : FuncData
  f_Fairu_containsu : Addr
  d_Fairu_containsu : FuncData
  f_Fairu_stru : Addr
  d_Fairu_stru : FuncData
  f_l_jug : Addr
  d_l_jug : FuncData
  f_l_pour : Addr
  d_l_pour : FuncData
  f_l_bases : Addr
  d_l_bases : FuncData
  f_l_is_name : Addr
  d_l_is_name : FuncData
  f_l_odd : Addr
  d_l_odd : FuncData
  f_l_class : Addr
  d_l_class : FuncData
  f_l_keeps : Addr
  d_l_keeps : FuncData
  f_l_told : Addr
  d_l_told : FuncData
  f_l_drawn : Addr
  d_l_drawn : FuncData
  f_l_right : Addr
  d_l_right : FuncData
  f_law : Addr
  d_law : FuncData
  n_int : mg "int" = none
  kt : KitT K ct
  n_isinstance : mg "isinstance" = none
  n_bool : mg "bool" = none
  F_is_integer : FunD K "is_integer" "is_integer" (defArgs s_is_integer) (defBody s_is_integer) (defScope s_is_integer) [.non] [] f_is_integer d_is_integer
  n_str : mg "str" = none
  n_len : mg "len" = none
  c_LONGEST_NAME : ∃ t, mg "_LONGEST_NAME" = some (.int 8 t)
  c_FIRST_SIGNS : ∃ t, mg "_FIRST_SIGNS" = some (.str "abcdefghijklmnopqrstuvwxyz" t)
  c_SIGNS : ∃ t, mg "_SIGNS" = some (.str "abcdefghijklmnopqrstuvwxyz0123456789" t)
  n_all : mg "all" = none
  F_is_name : Fun K "is_name" "is_name" s_is_name f_is_name d_is_name
  n_tuple : mg "tuple" = none
  F_is_pair : Fun K "is_pair" "is_pair" s_is_pair f_is_pair d_is_pair
  F_names_of : Fun K "_names_of" "_names_of" s_names_of f_names_of d_names_of
  F_text_of : Fun K "_text_of" "_text_of" s_text_of f_text_of d_text_of
  n_range : mg "range" = none
  F_number : Fun K "_number" "_number" s_number f_number d_number
  ct_Fair : ct 0 = some (C_Fair, ns_Fair)
  cl_Fair : ClsT K C_Fair
  na_Fair_names : NoAttr K C_Fair "_names"
  F_Fairu_containsu : Fun K "__contains__" "Fair.__contains__" s_Fairu_containsu f_Fairu_containsu d_Fairu_containsu
  na_Fair_text : NoAttr K C_Fair "_text"
  F_Fairu_stru : Fun K "__str__" "Fair.__str__" s_Fairu_stru f_Fairu_stru d_Fairu_stru
  n_abs : mg "abs" = none
  F_l_jug : Fun K "_law_jug" "_law_jug" s_l_jug f_l_jug d_l_jug
  n_divmod : mg "divmod" = none
  F_l_pour : Fun K "_law_pour" "_law_pour" s_l_pour f_l_pour d_l_pour
  gE_NoAnswer : mg "NoAnswer" = some (.ref C_NoAnswer)
  gE_WrongName : mg "WrongName" = some (.ref C_WrongName)
  gE_WrongValue : mg "WrongValue" = some (.ref C_WrongValue)
  n_ArithmeticError : mg "ArithmeticError" = none
  n_LookupError : mg "LookupError" = none
  n_ValueError : mg "ValueError" = none
  F_l_bases : Fun K "_law_bases" "_law_bases" s_l_bases f_l_bases d_l_bases
  F_l_is_name : Fun K "_law_is_name" "_law_is_name" s_l_is_name f_l_is_name d_l_is_name
  F_l_keeps : Fun K "_law_keeps" "_law_keeps" s_l_keeps f_l_keeps d_l_keeps
  b_is_pair : Binds K d_is_pair ["value"] []
  v_is_pair : mg "is_pair" = some (.ref f_is_pair)
  k_is_pair : PySem.W.keepIn K (.ref f_is_pair) = true
  b_is_name : Binds K d_is_name ["value"] []
  v_is_name : mg "is_name" = some (.ref f_is_name)
  k_is_name : PySem.W.keepIn K (.ref f_is_name) = true
  c_MOST_BOUND : ∃ t, mg "MOST_BOUND" = some (.int 4 t)
  b_is_integer : Binds K d_is_integer ["value", "least", "most"] []
  v_is_integer : mg "is_integer" = some (.ref f_is_integer)
  k_is_integer : PySem.W.keepIn K (.ref f_is_integer) = true
  F_is_member : Fun K "_is_member" "_is_member" s_is_member f_is_member d_is_member
  b_number : Binds K d_number ["digits", "most"] []
  v_number : mg "_number" = some (.ref f_number)
  k_number : PySem.W.keepIn K (.ref f_number) = true
  c_MOST_TABLES : ∃ t, mg "MOST_TABLES" = some (.int 12 t)
  F_parts_of : Fun K "_parts_of" "_parts_of" s_parts_of f_parts_of d_parts_of
  b_l_pour : Binds K d_l_pour ["_law_jug_here", "_law_many"] []
  v_l_pour : mg "_law_pour" = some (.ref f_l_pour)
  k_l_pour : PySem.W.keepIn K (.ref f_l_pour) = true
  F_l_odd : Fun K "_law_odd" "_law_odd" s_l_odd f_l_odd d_l_odd
  gE_InvalidName : mg "InvalidName" = some (.ref C_InvalidName)
  gE_InvalidNumber : mg "InvalidNumber" = some (.ref C_InvalidNumber)
  gE_InvalidText : mg "InvalidText" = some (.ref C_InvalidText)
  gE_InvalidSchedule : mg "InvalidSchedule" = some (.ref C_InvalidSchedule)
  gE_InvalidRound : mg "InvalidRound" = some (.ref C_InvalidRound)
  gE_InvalidTables : mg "InvalidTables" = some (.ref C_InvalidTables)
  gE_NotAFair : mg "NotAFair" = some (.ref C_NotAFair)
  gE_InvalidIndex : mg "InvalidIndex" = some (.ref C_InvalidIndex)
  gE_InvalidWish : mg "InvalidWish" = some (.ref C_InvalidWish)
  gE_InvalidMeetings : mg "InvalidMeetings" = some (.ref C_InvalidMeetings)
  gE_InvalidGuests : mg "InvalidGuests" = some (.ref C_InvalidGuests)
  gE_InvalidHosts : mg "InvalidHosts" = some (.ref C_InvalidHosts)
  gE_InvalidChanges : mg "InvalidChanges" = some (.ref C_InvalidChanges)
  gE_InvalidGrowth : mg "InvalidGrowth" = some (.ref C_InvalidGrowth)
  gE_InvalidUrgent : mg "InvalidUrgent" = some (.ref C_InvalidUrgent)
  gE_TooFewRounds : mg "TooFewRounds" = some (.ref C_TooFewRounds)
  gE_UnknownName : mg "UnknownName" = some (.ref C_UnknownName)
  gE_InvalidAsked : mg "InvalidAsked" = some (.ref C_InvalidAsked)
  gE_Broken : mg "Broken" = some (.ref C_Broken)
  gE_NothingToUndo : mg "NothingToUndo" = some (.ref C_NothingToUndo)
  gE_TooMany : mg "TooMany" = some (.ref C_TooMany)
  b_l_bases : Binds K d_l_bases ["_law_e"] []
  v_l_bases : mg "_law_bases" = some (.ref f_l_bases)
  k_l_bases : PySem.W.keepIn K (.ref f_l_bases) = true
  F_l_class : Fun K "_law_class" "_law_class" s_l_class f_l_class d_l_class
  F_l_drawn : Fun K "_law_drawn" "_law_drawn" s_l_drawn f_l_drawn d_l_drawn
  n_list : mg "list" = none
  n_enumerate : mg "enumerate" = none
  c_MOST_SIDE : ∃ t, mg "MOST_SIDE" = some (.int 4 t)
  b_is_member : Binds K d_is_member ["value"] []
  v_is_member : mg "_is_member" = some (.ref f_is_member)
  k_is_member : PySem.W.keepIn K (.ref f_is_member) = true
  F_fault : Fun K "_fault" "_fault" s_fault f_fault d_fault
  b_fault : Binds K d_fault ["side", "taken"] []
  v_fault : mg "_fault" = some (.ref f_fault)
  k_fault : PySem.W.keepIn K (.ref f_fault) = true
  er_InvalidHosts : XE.ErT K mg C_InvalidHosts i_InvalidHosts "InvalidHosts" "index" XE.bVE
  b_names_of : Binds K d_names_of ["side"] []
  v_names_of : mg "_names_of" = some (.ref f_names_of)
  k_names_of : PySem.W.keepIn K (.ref f_names_of) = true
  er_InvalidGuests : XE.ErT K mg C_InvalidGuests i_InvalidGuests "InvalidGuests" "index" XE.bVE
  na_Fair_hosts : NoAttr K C_Fair "_hosts"
  na_Fair_guests : NoAttr K C_Fair "_guests"
  na_Fair_tables : NoAttr K C_Fair "_tables"
  b_text_of : Binds K d_text_of ["hosts", "guests", "tables"] []
  v_text_of : mg "_text_of" = some (.ref f_text_of)
  k_text_of : PySem.W.keepIn K (.ref f_text_of) = true
  F_Fairu_initu : FunD K "__init__" "Fair.__init__" (defArgs s_Fairu_initu) (defBody s_Fairu_initu) (defScope s_Fairu_initu) [.non] [] f_Fairu_initu d_Fairu_initu
  b_parts_of : Binds K d_parts_of ["text"] []
  v_parts_of : mg "_parts_of" = some (.ref f_parts_of)
  k_parts_of : PySem.W.keepIn K (.ref f_parts_of) = true
  er_InvalidText : XE.ErT K mg C_InvalidText i_InvalidText "InvalidText" "given" XE.bVE
  b_Fairu_initu : Binds K d_Fairu_initu ["self", "hosts", "guests", "tables"] []
  M_Fair : Mk K C_Fair f_Fairu_initu
  F_Fair_read : Fun K "read" "Fair.read" s_Fair_read f_Fair_read d_Fair_read
  b_l_class : Binds K d_l_class ["_law_e"] []
  v_l_class : mg "_law_class" = some (.ref f_l_class)
  k_l_class : PySem.W.keepIn K (.ref f_l_class) = true
  b_l_keeps : Binds K d_l_keeps ["_law_e", "_law_at"] []
  v_l_keeps : mg "_law_keeps" = some (.ref f_l_keeps)
  k_l_keeps : PySem.W.keepIn K (.ref f_l_keeps) = true
  n_repr : mg "repr" = none
  F_l_told : Fun K "_law_told" "_law_told" s_l_told f_l_told d_l_told
  b_l_drawn : Binds K d_l_drawn ["_law_jug_here"] []
  v_l_drawn : mg "_law_drawn" = some (.ref f_l_drawn)
  k_l_drawn : PySem.W.keepIn K (.ref f_l_drawn) = true
  b_l_odd : Binds K d_l_odd ["_law_jug_here"] []
  v_l_odd : mg "_law_odd" = some (.ref f_l_odd)
  k_l_odd : PySem.W.keepIn K (.ref f_l_odd) = true
  bd_Fairu_initu_1 : ∃ ds, Vals [.non] ds ∧ Binds K d_Fairu_initu ["self", "hosts", "guests", "tables"] ds
  g_Fair : mg "Fair" = some (.ref C_Fair)
  mt_Fairu_containsu : Meth K C_Fair "__contains__" f_Fairu_containsu
  b_Fairu_containsu : Binds K d_Fairu_containsu ["self", "value"] []
  v_l_told : mg "_law_told" = some (.ref f_l_told)
  k_l_told : PySem.W.keepIn K (.ref f_l_told) = true
  b_l_told : Binds K d_l_told ["_law_act"] []
  b_l_is_name : Binds K d_l_is_name ["_law_thing"] []
  v_l_is_name : mg "_law_is_name" = some (.ref f_l_is_name)
  k_l_is_name : PySem.W.keepIn K (.ref f_l_is_name) = true
  cr_Fair : ClX.CRead K C_Fair (.type "type")
  pc_Fair_read : Addr
  cm_Fair_read : ClX.CMet K C_Fair (.type "type") "read" pc_Fair_read f_Fair_read
  b_Fair_read : Binds K d_Fair_read ["cls", "text"] []
  mt_Fairu_stru : Meth K C_Fair "__str__" f_Fairu_stru
  b_Fairu_stru : Binds K d_Fairu_stru ["self"] []
  F_l_right : Fun K "_law_right" "_law_right" s_l_right f_l_right d_l_right
  cd_l_right : d_l_right.code = .ref c_l_right
  n_min : mg "min" = none
  n_max : mg "max" = none
  b_l_jug : Binds K d_l_jug ["_law_script", "_law_at"] []
  v_l_jug : mg "_law_jug" = some (.ref f_l_jug)
  k_l_jug : PySem.W.keepIn K (.ref f_l_jug) = true
  b_l_right : Binds K d_l_right ["_law_jug_here"] []
  v_l_right : mg "_law_right" = some (.ref f_l_right)
  k_l_right : PySem.W.keepIn K (.ref f_l_right) = true
  F_law : Fun K "law" "law" s_law f_law d_law
  eq_InvalidText : ErQ K C_InvalidText
  nf_InvalidText_index : PySem.W.findIn K (.ref C_InvalidText) "index" = some none
  nf_InvalidText_given : PySem.W.findIn K (.ref C_InvalidText) "given" = some none
  kx_InvalidText_NoAnswer : PySem.W.kitOne K (.ref C_InvalidText) (.ref C_NoAnswer) = some false
  kx_InvalidText_WrongName : PySem.W.kitOne K (.ref C_InvalidText) (.ref C_WrongName) = some false
  kx_InvalidText_WrongValue : PySem.W.kitOne K (.ref C_InvalidText) (.ref C_WrongValue) = some true
  kx_InvalidText_ArithmeticError : PySem.W.kitOne K (.ref C_InvalidText) (.type "ArithmeticError") = some false
  kx_InvalidText_LookupError : PySem.W.kitOne K (.ref C_InvalidText) (.type "LookupError") = some false
  kx_InvalidText_ValueError : PySem.W.kitOne K (.ref C_InvalidText) (.type "ValueError") = some true
  kx_InvalidText_InvalidName : PySem.W.kitOne K (.ref C_InvalidText) (.ref C_InvalidName) = some false
  kx_InvalidText_InvalidNumber : PySem.W.kitOne K (.ref C_InvalidText) (.ref C_InvalidNumber) = some false
  kx_InvalidText_InvalidText : PySem.W.kitOne K (.ref C_InvalidText) (.ref C_InvalidText) = some true
  kx_InvalidText_InvalidSchedule : PySem.W.kitOne K (.ref C_InvalidText) (.ref C_InvalidSchedule) = some false
  kx_InvalidText_InvalidRound : PySem.W.kitOne K (.ref C_InvalidText) (.ref C_InvalidRound) = some false
  kx_InvalidText_InvalidTables : PySem.W.kitOne K (.ref C_InvalidText) (.ref C_InvalidTables) = some false
  kx_InvalidText_NotAFair : PySem.W.kitOne K (.ref C_InvalidText) (.ref C_NotAFair) = some false
  kx_InvalidText_InvalidIndex : PySem.W.kitOne K (.ref C_InvalidText) (.ref C_InvalidIndex) = some false
  kx_InvalidText_InvalidWish : PySem.W.kitOne K (.ref C_InvalidText) (.ref C_InvalidWish) = some false
  kx_InvalidText_InvalidMeetings : PySem.W.kitOne K (.ref C_InvalidText) (.ref C_InvalidMeetings) = some false
  kx_InvalidText_InvalidGuests : PySem.W.kitOne K (.ref C_InvalidText) (.ref C_InvalidGuests) = some false
  kx_InvalidText_InvalidHosts : PySem.W.kitOne K (.ref C_InvalidText) (.ref C_InvalidHosts) = some false
  kx_InvalidText_InvalidChanges : PySem.W.kitOne K (.ref C_InvalidText) (.ref C_InvalidChanges) = some false
  kx_InvalidText_InvalidGrowth : PySem.W.kitOne K (.ref C_InvalidText) (.ref C_InvalidGrowth) = some false
  kx_InvalidText_InvalidUrgent : PySem.W.kitOne K (.ref C_InvalidText) (.ref C_InvalidUrgent) = some false
  kx_InvalidText_TooFewRounds : PySem.W.kitOne K (.ref C_InvalidText) (.ref C_TooFewRounds) = some false
  kx_InvalidText_UnknownName : PySem.W.kitOne K (.ref C_InvalidText) (.ref C_UnknownName) = some false
  kx_InvalidText_InvalidAsked : PySem.W.kitOne K (.ref C_InvalidText) (.ref C_InvalidAsked) = some false
  kx_InvalidText_Broken : PySem.W.kitOne K (.ref C_InvalidText) (.ref C_Broken) = some false
  kx_InvalidText_NothingToUndo : PySem.W.kitOne K (.ref C_InvalidText) (.ref C_NothingToUndo) = some false
  kx_InvalidText_TooMany : PySem.W.kitOne K (.ref C_InvalidText) (.ref C_TooMany) = some false
  xm_InvalidText : PySem.W.exmAny K (.ref C_InvalidText) [.ref C_WrongValue, .ref C_WrongName, .ref C_NoAnswer] = some true
  eq_InvalidHosts : ErQ K C_InvalidHosts
  nf_InvalidHosts_index : PySem.W.findIn K (.ref C_InvalidHosts) "index" = some none
  nf_InvalidHosts_given : PySem.W.findIn K (.ref C_InvalidHosts) "given" = some none
  kx_InvalidHosts_NoAnswer : PySem.W.kitOne K (.ref C_InvalidHosts) (.ref C_NoAnswer) = some false
  kx_InvalidHosts_WrongName : PySem.W.kitOne K (.ref C_InvalidHosts) (.ref C_WrongName) = some false
  kx_InvalidHosts_WrongValue : PySem.W.kitOne K (.ref C_InvalidHosts) (.ref C_WrongValue) = some true
  kx_InvalidHosts_ArithmeticError : PySem.W.kitOne K (.ref C_InvalidHosts) (.type "ArithmeticError") = some false
  kx_InvalidHosts_LookupError : PySem.W.kitOne K (.ref C_InvalidHosts) (.type "LookupError") = some false
  kx_InvalidHosts_ValueError : PySem.W.kitOne K (.ref C_InvalidHosts) (.type "ValueError") = some true
  kx_InvalidHosts_InvalidName : PySem.W.kitOne K (.ref C_InvalidHosts) (.ref C_InvalidName) = some false
  kx_InvalidHosts_InvalidNumber : PySem.W.kitOne K (.ref C_InvalidHosts) (.ref C_InvalidNumber) = some false
  kx_InvalidHosts_InvalidText : PySem.W.kitOne K (.ref C_InvalidHosts) (.ref C_InvalidText) = some false
  kx_InvalidHosts_InvalidSchedule : PySem.W.kitOne K (.ref C_InvalidHosts) (.ref C_InvalidSchedule) = some false
  kx_InvalidHosts_InvalidRound : PySem.W.kitOne K (.ref C_InvalidHosts) (.ref C_InvalidRound) = some false
  kx_InvalidHosts_InvalidTables : PySem.W.kitOne K (.ref C_InvalidHosts) (.ref C_InvalidTables) = some false
  kx_InvalidHosts_NotAFair : PySem.W.kitOne K (.ref C_InvalidHosts) (.ref C_NotAFair) = some false
  kx_InvalidHosts_InvalidIndex : PySem.W.kitOne K (.ref C_InvalidHosts) (.ref C_InvalidIndex) = some false
  kx_InvalidHosts_InvalidWish : PySem.W.kitOne K (.ref C_InvalidHosts) (.ref C_InvalidWish) = some false
  kx_InvalidHosts_InvalidMeetings : PySem.W.kitOne K (.ref C_InvalidHosts) (.ref C_InvalidMeetings) = some false
  kx_InvalidHosts_InvalidGuests : PySem.W.kitOne K (.ref C_InvalidHosts) (.ref C_InvalidGuests) = some false
  kx_InvalidHosts_InvalidHosts : PySem.W.kitOne K (.ref C_InvalidHosts) (.ref C_InvalidHosts) = some true
  kx_InvalidHosts_InvalidChanges : PySem.W.kitOne K (.ref C_InvalidHosts) (.ref C_InvalidChanges) = some false
  kx_InvalidHosts_InvalidGrowth : PySem.W.kitOne K (.ref C_InvalidHosts) (.ref C_InvalidGrowth) = some false
  kx_InvalidHosts_InvalidUrgent : PySem.W.kitOne K (.ref C_InvalidHosts) (.ref C_InvalidUrgent) = some false
  kx_InvalidHosts_TooFewRounds : PySem.W.kitOne K (.ref C_InvalidHosts) (.ref C_TooFewRounds) = some false
  kx_InvalidHosts_UnknownName : PySem.W.kitOne K (.ref C_InvalidHosts) (.ref C_UnknownName) = some false
  kx_InvalidHosts_InvalidAsked : PySem.W.kitOne K (.ref C_InvalidHosts) (.ref C_InvalidAsked) = some false
  kx_InvalidHosts_Broken : PySem.W.kitOne K (.ref C_InvalidHosts) (.ref C_Broken) = some false
  kx_InvalidHosts_NothingToUndo : PySem.W.kitOne K (.ref C_InvalidHosts) (.ref C_NothingToUndo) = some false
  kx_InvalidHosts_TooMany : PySem.W.kitOne K (.ref C_InvalidHosts) (.ref C_TooMany) = some false
  xm_InvalidHosts : PySem.W.exmAny K (.ref C_InvalidHosts) [.ref C_WrongValue, .ref C_WrongName, .ref C_NoAnswer] = some true
  eq_InvalidGuests : ErQ K C_InvalidGuests
  nf_InvalidGuests_index : PySem.W.findIn K (.ref C_InvalidGuests) "index" = some none
  nf_InvalidGuests_given : PySem.W.findIn K (.ref C_InvalidGuests) "given" = some none
  kx_InvalidGuests_NoAnswer : PySem.W.kitOne K (.ref C_InvalidGuests) (.ref C_NoAnswer) = some false
  kx_InvalidGuests_WrongName : PySem.W.kitOne K (.ref C_InvalidGuests) (.ref C_WrongName) = some false
  kx_InvalidGuests_WrongValue : PySem.W.kitOne K (.ref C_InvalidGuests) (.ref C_WrongValue) = some true
  kx_InvalidGuests_ArithmeticError : PySem.W.kitOne K (.ref C_InvalidGuests) (.type "ArithmeticError") = some false
  kx_InvalidGuests_LookupError : PySem.W.kitOne K (.ref C_InvalidGuests) (.type "LookupError") = some false
  kx_InvalidGuests_ValueError : PySem.W.kitOne K (.ref C_InvalidGuests) (.type "ValueError") = some true
  kx_InvalidGuests_InvalidName : PySem.W.kitOne K (.ref C_InvalidGuests) (.ref C_InvalidName) = some false
  kx_InvalidGuests_InvalidNumber : PySem.W.kitOne K (.ref C_InvalidGuests) (.ref C_InvalidNumber) = some false
  kx_InvalidGuests_InvalidText : PySem.W.kitOne K (.ref C_InvalidGuests) (.ref C_InvalidText) = some false
  kx_InvalidGuests_InvalidSchedule : PySem.W.kitOne K (.ref C_InvalidGuests) (.ref C_InvalidSchedule) = some false
  kx_InvalidGuests_InvalidRound : PySem.W.kitOne K (.ref C_InvalidGuests) (.ref C_InvalidRound) = some false
  kx_InvalidGuests_InvalidTables : PySem.W.kitOne K (.ref C_InvalidGuests) (.ref C_InvalidTables) = some false
  kx_InvalidGuests_NotAFair : PySem.W.kitOne K (.ref C_InvalidGuests) (.ref C_NotAFair) = some false
  kx_InvalidGuests_InvalidIndex : PySem.W.kitOne K (.ref C_InvalidGuests) (.ref C_InvalidIndex) = some false
  kx_InvalidGuests_InvalidWish : PySem.W.kitOne K (.ref C_InvalidGuests) (.ref C_InvalidWish) = some false
  kx_InvalidGuests_InvalidMeetings : PySem.W.kitOne K (.ref C_InvalidGuests) (.ref C_InvalidMeetings) = some false
  kx_InvalidGuests_InvalidGuests : PySem.W.kitOne K (.ref C_InvalidGuests) (.ref C_InvalidGuests) = some true
  kx_InvalidGuests_InvalidHosts : PySem.W.kitOne K (.ref C_InvalidGuests) (.ref C_InvalidHosts) = some false
  kx_InvalidGuests_InvalidChanges : PySem.W.kitOne K (.ref C_InvalidGuests) (.ref C_InvalidChanges) = some false
  kx_InvalidGuests_InvalidGrowth : PySem.W.kitOne K (.ref C_InvalidGuests) (.ref C_InvalidGrowth) = some false
  kx_InvalidGuests_InvalidUrgent : PySem.W.kitOne K (.ref C_InvalidGuests) (.ref C_InvalidUrgent) = some false
  kx_InvalidGuests_TooFewRounds : PySem.W.kitOne K (.ref C_InvalidGuests) (.ref C_TooFewRounds) = some false
  kx_InvalidGuests_UnknownName : PySem.W.kitOne K (.ref C_InvalidGuests) (.ref C_UnknownName) = some false
  kx_InvalidGuests_InvalidAsked : PySem.W.kitOne K (.ref C_InvalidGuests) (.ref C_InvalidAsked) = some false
  kx_InvalidGuests_Broken : PySem.W.kitOne K (.ref C_InvalidGuests) (.ref C_Broken) = some false
  kx_InvalidGuests_NothingToUndo : PySem.W.kitOne K (.ref C_InvalidGuests) (.ref C_NothingToUndo) = some false
  kx_InvalidGuests_TooMany : PySem.W.kitOne K (.ref C_InvalidGuests) (.ref C_TooMany) = some false
  xm_InvalidGuests : PySem.W.exmAny K (.ref C_InvalidGuests) [.ref C_WrongValue, .ref C_WrongName, .ref C_NoAnswer] = some true
section
variable {K : PySem.W.Frag} {mg : Str → Option Value} {ct : CTab}
abbrev Tx.errs (T : Tx K mg ct) : List Addr := [T.C_InvalidText, T.C_InvalidHosts, T.C_InvalidGuests]
abbrev Tx.tabs (T : Tx K mg ct) : List (Addr × Addr) := [(T.c_l_right, T.P_l_right)]
theorem erqs (T : Tx K mg ct) : ∀ k, k < 3 → ErQ K (T.errs.getD k 0)
  | 0, _ => T.eq_InvalidText
  | 1, _ => T.eq_InvalidHosts
  | 2, _ => T.eq_InvalidGuests
  | _ + 3, h => absurd h (by omega)
theorem nfs_index (T : Tx K mg ct) : ∀ k, k < 3 → PySem.W.findIn K (.ref (T.errs.getD k 0)) "index" = some none
  | 0, _ => T.nf_InvalidText_index
  | 1, _ => T.nf_InvalidHosts_index
  | 2, _ => T.nf_InvalidGuests_index
  | _ + 3, h => absurd h (by omega)
theorem nfs_given (T : Tx K mg ct) : ∀ k, k < 3 → PySem.W.findIn K (.ref (T.errs.getD k 0)) "given" = some none
  | 0, _ => T.nf_InvalidText_given
  | 1, _ => T.nf_InvalidHosts_given
  | 2, _ => T.nf_InvalidGuests_given
  | _ + 3, h => absurd h (by omega)
theorem kxs_NoAnswer (T : Tx K mg ct) : ∀ k, k < 3 → PySem.W.kitOne K (.ref (T.errs.getD k 0)) (.ref T.C_NoAnswer) = some (([false, false, false] : List Bool).getD k false)
  | 0, _ => T.kx_InvalidText_NoAnswer
  | 1, _ => T.kx_InvalidHosts_NoAnswer
  | 2, _ => T.kx_InvalidGuests_NoAnswer
  | _ + 3, h => absurd h (by omega)
theorem kxs_WrongName (T : Tx K mg ct) : ∀ k, k < 3 → PySem.W.kitOne K (.ref (T.errs.getD k 0)) (.ref T.C_WrongName) = some (([false, false, false] : List Bool).getD k false)
  | 0, _ => T.kx_InvalidText_WrongName
  | 1, _ => T.kx_InvalidHosts_WrongName
  | 2, _ => T.kx_InvalidGuests_WrongName
  | _ + 3, h => absurd h (by omega)
theorem kxs_WrongValue (T : Tx K mg ct) : ∀ k, k < 3 → PySem.W.kitOne K (.ref (T.errs.getD k 0)) (.ref T.C_WrongValue) = some (([true, true, true] : List Bool).getD k false)
  | 0, _ => T.kx_InvalidText_WrongValue
  | 1, _ => T.kx_InvalidHosts_WrongValue
  | 2, _ => T.kx_InvalidGuests_WrongValue
  | _ + 3, h => absurd h (by omega)
theorem kxs_ArithmeticError (T : Tx K mg ct) : ∀ k, k < 3 → PySem.W.kitOne K (.ref (T.errs.getD k 0)) (.type "ArithmeticError") = some (([false, false, false] : List Bool).getD k false)
  | 0, _ => T.kx_InvalidText_ArithmeticError
  | 1, _ => T.kx_InvalidHosts_ArithmeticError
  | 2, _ => T.kx_InvalidGuests_ArithmeticError
  | _ + 3, h => absurd h (by omega)
theorem kxs_LookupError (T : Tx K mg ct) : ∀ k, k < 3 → PySem.W.kitOne K (.ref (T.errs.getD k 0)) (.type "LookupError") = some (([false, false, false] : List Bool).getD k false)
  | 0, _ => T.kx_InvalidText_LookupError
  | 1, _ => T.kx_InvalidHosts_LookupError
  | 2, _ => T.kx_InvalidGuests_LookupError
  | _ + 3, h => absurd h (by omega)
theorem kxs_ValueError (T : Tx K mg ct) : ∀ k, k < 3 → PySem.W.kitOne K (.ref (T.errs.getD k 0)) (.type "ValueError") = some (([true, true, true] : List Bool).getD k false)
  | 0, _ => T.kx_InvalidText_ValueError
  | 1, _ => T.kx_InvalidHosts_ValueError
  | 2, _ => T.kx_InvalidGuests_ValueError
  | _ + 3, h => absurd h (by omega)
theorem kxs_InvalidName (T : Tx K mg ct) : ∀ k, k < 3 → PySem.W.kitOne K (.ref (T.errs.getD k 0)) (.ref T.C_InvalidName) = some (([false, false, false] : List Bool).getD k false)
  | 0, _ => T.kx_InvalidText_InvalidName
  | 1, _ => T.kx_InvalidHosts_InvalidName
  | 2, _ => T.kx_InvalidGuests_InvalidName
  | _ + 3, h => absurd h (by omega)
theorem kxs_InvalidNumber (T : Tx K mg ct) : ∀ k, k < 3 → PySem.W.kitOne K (.ref (T.errs.getD k 0)) (.ref T.C_InvalidNumber) = some (([false, false, false] : List Bool).getD k false)
  | 0, _ => T.kx_InvalidText_InvalidNumber
  | 1, _ => T.kx_InvalidHosts_InvalidNumber
  | 2, _ => T.kx_InvalidGuests_InvalidNumber
  | _ + 3, h => absurd h (by omega)
theorem kxs_InvalidText (T : Tx K mg ct) : ∀ k, k < 3 → PySem.W.kitOne K (.ref (T.errs.getD k 0)) (.ref T.C_InvalidText) = some (([true, false, false] : List Bool).getD k false)
  | 0, _ => T.kx_InvalidText_InvalidText
  | 1, _ => T.kx_InvalidHosts_InvalidText
  | 2, _ => T.kx_InvalidGuests_InvalidText
  | _ + 3, h => absurd h (by omega)
theorem kxs_InvalidSchedule (T : Tx K mg ct) : ∀ k, k < 3 → PySem.W.kitOne K (.ref (T.errs.getD k 0)) (.ref T.C_InvalidSchedule) = some (([false, false, false] : List Bool).getD k false)
  | 0, _ => T.kx_InvalidText_InvalidSchedule
  | 1, _ => T.kx_InvalidHosts_InvalidSchedule
  | 2, _ => T.kx_InvalidGuests_InvalidSchedule
  | _ + 3, h => absurd h (by omega)
theorem kxs_InvalidRound (T : Tx K mg ct) : ∀ k, k < 3 → PySem.W.kitOne K (.ref (T.errs.getD k 0)) (.ref T.C_InvalidRound) = some (([false, false, false] : List Bool).getD k false)
  | 0, _ => T.kx_InvalidText_InvalidRound
  | 1, _ => T.kx_InvalidHosts_InvalidRound
  | 2, _ => T.kx_InvalidGuests_InvalidRound
  | _ + 3, h => absurd h (by omega)
theorem kxs_InvalidTables (T : Tx K mg ct) : ∀ k, k < 3 → PySem.W.kitOne K (.ref (T.errs.getD k 0)) (.ref T.C_InvalidTables) = some (([false, false, false] : List Bool).getD k false)
  | 0, _ => T.kx_InvalidText_InvalidTables
  | 1, _ => T.kx_InvalidHosts_InvalidTables
  | 2, _ => T.kx_InvalidGuests_InvalidTables
  | _ + 3, h => absurd h (by omega)
theorem kxs_NotAFair (T : Tx K mg ct) : ∀ k, k < 3 → PySem.W.kitOne K (.ref (T.errs.getD k 0)) (.ref T.C_NotAFair) = some (([false, false, false] : List Bool).getD k false)
  | 0, _ => T.kx_InvalidText_NotAFair
  | 1, _ => T.kx_InvalidHosts_NotAFair
  | 2, _ => T.kx_InvalidGuests_NotAFair
  | _ + 3, h => absurd h (by omega)
theorem kxs_InvalidIndex (T : Tx K mg ct) : ∀ k, k < 3 → PySem.W.kitOne K (.ref (T.errs.getD k 0)) (.ref T.C_InvalidIndex) = some (([false, false, false] : List Bool).getD k false)
  | 0, _ => T.kx_InvalidText_InvalidIndex
  | 1, _ => T.kx_InvalidHosts_InvalidIndex
  | 2, _ => T.kx_InvalidGuests_InvalidIndex
  | _ + 3, h => absurd h (by omega)
theorem kxs_InvalidWish (T : Tx K mg ct) : ∀ k, k < 3 → PySem.W.kitOne K (.ref (T.errs.getD k 0)) (.ref T.C_InvalidWish) = some (([false, false, false] : List Bool).getD k false)
  | 0, _ => T.kx_InvalidText_InvalidWish
  | 1, _ => T.kx_InvalidHosts_InvalidWish
  | 2, _ => T.kx_InvalidGuests_InvalidWish
  | _ + 3, h => absurd h (by omega)
theorem kxs_InvalidMeetings (T : Tx K mg ct) : ∀ k, k < 3 → PySem.W.kitOne K (.ref (T.errs.getD k 0)) (.ref T.C_InvalidMeetings) = some (([false, false, false] : List Bool).getD k false)
  | 0, _ => T.kx_InvalidText_InvalidMeetings
  | 1, _ => T.kx_InvalidHosts_InvalidMeetings
  | 2, _ => T.kx_InvalidGuests_InvalidMeetings
  | _ + 3, h => absurd h (by omega)
theorem kxs_InvalidGuests (T : Tx K mg ct) : ∀ k, k < 3 → PySem.W.kitOne K (.ref (T.errs.getD k 0)) (.ref T.C_InvalidGuests) = some (([false, false, true] : List Bool).getD k false)
  | 0, _ => T.kx_InvalidText_InvalidGuests
  | 1, _ => T.kx_InvalidHosts_InvalidGuests
  | 2, _ => T.kx_InvalidGuests_InvalidGuests
  | _ + 3, h => absurd h (by omega)
theorem kxs_InvalidHosts (T : Tx K mg ct) : ∀ k, k < 3 → PySem.W.kitOne K (.ref (T.errs.getD k 0)) (.ref T.C_InvalidHosts) = some (([false, true, false] : List Bool).getD k false)
  | 0, _ => T.kx_InvalidText_InvalidHosts
  | 1, _ => T.kx_InvalidHosts_InvalidHosts
  | 2, _ => T.kx_InvalidGuests_InvalidHosts
  | _ + 3, h => absurd h (by omega)
theorem kxs_InvalidChanges (T : Tx K mg ct) : ∀ k, k < 3 → PySem.W.kitOne K (.ref (T.errs.getD k 0)) (.ref T.C_InvalidChanges) = some (([false, false, false] : List Bool).getD k false)
  | 0, _ => T.kx_InvalidText_InvalidChanges
  | 1, _ => T.kx_InvalidHosts_InvalidChanges
  | 2, _ => T.kx_InvalidGuests_InvalidChanges
  | _ + 3, h => absurd h (by omega)
theorem kxs_InvalidGrowth (T : Tx K mg ct) : ∀ k, k < 3 → PySem.W.kitOne K (.ref (T.errs.getD k 0)) (.ref T.C_InvalidGrowth) = some (([false, false, false] : List Bool).getD k false)
  | 0, _ => T.kx_InvalidText_InvalidGrowth
  | 1, _ => T.kx_InvalidHosts_InvalidGrowth
  | 2, _ => T.kx_InvalidGuests_InvalidGrowth
  | _ + 3, h => absurd h (by omega)
theorem kxs_InvalidUrgent (T : Tx K mg ct) : ∀ k, k < 3 → PySem.W.kitOne K (.ref (T.errs.getD k 0)) (.ref T.C_InvalidUrgent) = some (([false, false, false] : List Bool).getD k false)
  | 0, _ => T.kx_InvalidText_InvalidUrgent
  | 1, _ => T.kx_InvalidHosts_InvalidUrgent
  | 2, _ => T.kx_InvalidGuests_InvalidUrgent
  | _ + 3, h => absurd h (by omega)
theorem kxs_TooFewRounds (T : Tx K mg ct) : ∀ k, k < 3 → PySem.W.kitOne K (.ref (T.errs.getD k 0)) (.ref T.C_TooFewRounds) = some (([false, false, false] : List Bool).getD k false)
  | 0, _ => T.kx_InvalidText_TooFewRounds
  | 1, _ => T.kx_InvalidHosts_TooFewRounds
  | 2, _ => T.kx_InvalidGuests_TooFewRounds
  | _ + 3, h => absurd h (by omega)
theorem kxs_UnknownName (T : Tx K mg ct) : ∀ k, k < 3 → PySem.W.kitOne K (.ref (T.errs.getD k 0)) (.ref T.C_UnknownName) = some (([false, false, false] : List Bool).getD k false)
  | 0, _ => T.kx_InvalidText_UnknownName
  | 1, _ => T.kx_InvalidHosts_UnknownName
  | 2, _ => T.kx_InvalidGuests_UnknownName
  | _ + 3, h => absurd h (by omega)
theorem kxs_InvalidAsked (T : Tx K mg ct) : ∀ k, k < 3 → PySem.W.kitOne K (.ref (T.errs.getD k 0)) (.ref T.C_InvalidAsked) = some (([false, false, false] : List Bool).getD k false)
  | 0, _ => T.kx_InvalidText_InvalidAsked
  | 1, _ => T.kx_InvalidHosts_InvalidAsked
  | 2, _ => T.kx_InvalidGuests_InvalidAsked
  | _ + 3, h => absurd h (by omega)
theorem kxs_Broken (T : Tx K mg ct) : ∀ k, k < 3 → PySem.W.kitOne K (.ref (T.errs.getD k 0)) (.ref T.C_Broken) = some (([false, false, false] : List Bool).getD k false)
  | 0, _ => T.kx_InvalidText_Broken
  | 1, _ => T.kx_InvalidHosts_Broken
  | 2, _ => T.kx_InvalidGuests_Broken
  | _ + 3, h => absurd h (by omega)
theorem kxs_NothingToUndo (T : Tx K mg ct) : ∀ k, k < 3 → PySem.W.kitOne K (.ref (T.errs.getD k 0)) (.ref T.C_NothingToUndo) = some (([false, false, false] : List Bool).getD k false)
  | 0, _ => T.kx_InvalidText_NothingToUndo
  | 1, _ => T.kx_InvalidHosts_NothingToUndo
  | 2, _ => T.kx_InvalidGuests_NothingToUndo
  | _ + 3, h => absurd h (by omega)
theorem kxs_TooMany (T : Tx K mg ct) : ∀ k, k < 3 → PySem.W.kitOne K (.ref (T.errs.getD k 0)) (.ref T.C_TooMany) = some (([false, false, false] : List Bool).getD k false)
  | 0, _ => T.kx_InvalidText_TooMany
  | 1, _ => T.kx_InvalidHosts_TooMany
  | 2, _ => T.kx_InvalidGuests_TooMany
  | _ + 3, h => absurd h (by omega)
theorem xms (T : Tx K mg ct) : ∀ k, k < 3 → PySem.W.exmAny K (.ref (T.errs.getD k 0)) [.ref T.C_WrongValue, .ref T.C_WrongName, .ref T.C_NoAnswer] = some true
  | 0, _ => T.xm_InvalidText
  | 1, _ => T.xm_InvalidHosts
  | 2, _ => T.xm_InvalidGuests
  | _ + 3, h => absurd h (by omega)
end
section
variable {P : Program} {w : World} {K : PySem.W.Frag} {mg : Str → Option Value} {base : Heap} {ct : CTab}
/-! ### is_integer -/
noncomputable def d_is_integer : DnS :=
    (sSeq (sIf (bOr (bNot (bT (dN (f2 fIsi) (aCons (dVar 0) (aCons (dC (tyD "int")) aNil))))) (bT (dN (f2 fIsi) (aCons (dVar 0) (aCons (dC (tyD "bool")) aNil))))) (sRet (dC (.bool false))) sNext)
    (sRet (dAnd (dOp fLe (dVar 1) (dVar 0)) (dOr (dOp (fIs false) (dVar 2) (dC .none)) (dOp fLe (dVar 0) (dVar 2))))))
noncomputable def F_is_integer : Fd := fun ws st => nox (fnD 3 (d_is_integer) ws st)
theorem ok_is_integer (T : Tx K mg ct) : FnOk P w K mg base CX0 1 T.f_is_integer T.d_is_integer ["value", "least", "most"] (spD ⟨K, ct, ceL T.errs⟩ 3 F_is_integer) := by
  refine fnKD (k := 0) T.F_is_integer sc_is_integer rfl fun cdv A outer s H E hr => ⟨_, (pss_cons (ps_if (PW.pt (pw_or (pt_not (pt_val (pe_callB (call_isiK K) (by rfl) T.n_isinstance (by decide +kernel) (pa_cons (pv 0) (pa_cons (pe_bltn (v := .ty "int") (by rfl) T.n_int (by decide +kernel) rfl) pa_nil))))) (pw_or1 (pt_val (pe_callB (call_isiK K) (by rfl) T.n_isinstance (by decide +kernel) (pa_cons (pv 0) (pa_cons (pe_bltn (v := .ty "bool") (by rfl) T.n_bool (by decide +kernel) rfl) pa_nil)))))))
        (pss_one (ps_ret pe_bl))
        pss_nil)
      (pss_one (ps_ret (pe_and (pe_cmpR op_le (pv 1) (pv 0) (nomark _)) (pe_one (pe_or (pe_cmpR op_isN (pv 2) pe_non (nomark _)) (pe_one (pe_cmpR op_le (pv 0) (pv 2) (nomark _))))))))), ?_⟩
  exact (es_seq (es_if (et_or (et_not (et_b (ev_cb (q_isi T.kt) (ea_cons ev_var (ea_cons (ev_c fun _ => .ty _) ea_nil))))) (et_b (ev_cb (q_isi T.kt) (ea_cons ev_var (ea_cons (ev_c fun _ => .ty _) ea_nil)))))
        (es_ret ev_bl)
        es_next)
      (es_ret (ev_and (ev_op q_le ev_var ev_var) (ev_or (ev_op q_isN ev_var ev_non) (ev_op q_le ev_var ev_var)))))
/-! ### is_name -/
noncomputable def c_is_name_1 : Dn :=
    (dLc (iSeq srcS (dVar 0)) (gN 1) (fun _ st => .ok true st) (dOp (fInS false) (dVar 1) (dC (.str "abcdefghijklmnopqrstuvwxyz0123456789"))) [1])
noncomputable def d_is_name : DnS :=
    (sSeq (sIf (bOr (bNot (bT (dN (f2 fIsi) (aCons (dVar 0) (aCons (dC (tyD "str")) aNil))))) (bNot (bT (dChain fLe fLe (dC (.int 1)) (dN (f1 fLenS) (aCons (dVar 0) aNil)) (dC (.int 8)))))) (sRet (dC (.bool false))) sNext)
    (sRet (dAnd (dOp (fInS false) (dOp fIxS (dVar 0) (dC (.int 0))) (dC (.str "abcdefghijklmnopqrstuvwxyz"))) (dN (f1 (fBls fun bs => bs.all id)) (aCons c_is_name_1 aNil)))))
noncomputable def F_is_name : Fd := fun ws st => nox (fnD 2 (d_is_name) ws st)
theorem ok_is_name (T : Tx K mg ct) : FnOk P w K mg base CX0 1 T.f_is_name T.d_is_name ["value"] (spD ⟨K, ct, ceL T.errs⟩ 1 F_is_name) := by
  refine fnK (k := 0) T.F_is_name sc_is_name rfl fun cdv A outer s H E hr => ⟨_, (pss_cons (ps_if (PW.pt (pw_or (pt_not (pt_val (pe_callB (call_isiK K) (by rfl) T.n_isinstance (by decide +kernel) (pa_cons (pv 0) (pa_cons (pe_bltn (v := .ty "str") (by rfl) T.n_str (by decide +kernel) rfl) pa_nil))))) (pw_or1 (pt_not (pt_chain op_le op_le pe_int (pe_callB call_len (by rfl) T.n_len PySem.boot_len (pa_cons (pv 0) pa_nil)) (pe_glob (v := .int 8) rfl T.c_LONGEST_NAME.choose_spec ⟨_, rfl⟩))))))
        (pss_one (ps_ret pe_bl))
        pss_nil)
      (pss_one (ps_ret (pe_and (pe_cmpR op_in_sign (pe_ix ix_str (pv 0) pe_int (fun _ _ => rfl)) (pe_glob (v := .str "abcdefghijklmnopqrstuvwxyz") rfl T.c_FIRST_SIGNS.choose_spec ⟨_, rfl⟩) rfl) (pe_one (pe_callB (cr_allK K rfl) (by rfl) T.n_all (by decide +kernel) (pa_cons (pe_lc (own := [("sign", 1)]) (g := gName 1) (tt := tYes) rfl sc_is_name.nd (pi_str (pv 0)) (blkOk_by (own := [("sign", 1)]) (N := ["value", "sign"]) (sc := defScope s_is_name) (by decide +kernel)) (fun _ _ _ _ _ => (pg_name (i := 1) sc_is_name.nd rfl (Or.inl rfl))) (fun _ _ _ _ _ => pts_nil) (fun _ _ _ _ _ => (pe_cmpR op_in_sign (pv 1) (pe_glob (v := .str "abcdefghijklmnopqrstuvwxyz0123456789") rfl T.c_SIGNS.choose_spec ⟨_, rfl⟩) rfl))) pa_nil))))))), ?_⟩
  exact (es_seq (es_if (et_or (et_not (et_b (ev_cb (q_isi T.kt) (ea_cons ev_var (ea_cons (ev_c fun _ => .ty _) ea_nil))))) (et_not (et_t (ev_chain q_le q_le ev_int (ev_cb q_lenS (ea_cons ev_var ea_nil)) ev_int))))
        (es_ret ev_bl)
        es_next)
      (es_ret (ev_and (ev_op q_inS (ev_op q_ixS ev_var ev_int) ev_str) (ev_cb q_all (ea_cons (ev_lc (ei_str ev_var) (eg_name (vs := [1]) rfl) et_yes (ev_op q_inS ev_var ev_str)) ea_nil)))))
/-! ### is_pair -/
noncomputable def d_is_pair : DnS :=
    (sRet (dAnd (dN (f2 fIsi) (aCons (dVar 0) (aCons (dC (tyD "tuple")) aNil))) (dOp (fEq false) (dN (f1 fLen) (aCons (dVar 0) aNil)) (dC (.int 2)))))
noncomputable def F_is_pair : Fd := fun ws st => nox (fnD 1 (d_is_pair) ws st)
theorem ok_is_pair (T : Tx K mg ct) : FnOk P w K mg base CX0 1 T.f_is_pair T.d_is_pair ["value"] (spD ⟨K, ct, ceL T.errs⟩ 1 F_is_pair) := by
  refine fnK (k := 0) T.F_is_pair sc_is_pair rfl fun cdv A outer s H E hr => ⟨_, (pss_one (ps_ret (pe_and (pe_callB (call_isiK K) (by rfl) T.n_isinstance (by decide +kernel) (pa_cons (pv 0) (pa_cons (pe_bltn (v := .ty "tuple") (by rfl) T.n_tuple (by decide +kernel) rfl) pa_nil))) (pe_one (pe_cmpR op_eq (pe_callB (call_lenQ K) (by rfl) T.n_len PySem.boot_len (pa_cons (pv 0) pa_nil)) pe_int (nomark _)))))), ?_⟩
  exact (es_ret (ev_and (ev_cb (q_isi T.kt) (ea_cons ev_var (ea_cons (ev_c fun _ => .ty _) ea_nil))) (ev_op q_eq (ev_cb q_len (ea_cons ev_var ea_nil)) ev_int)))
/-! ### _names_of -/
noncomputable def c_names_of_1 : Dn :=
    (dLc (iSeq srcT (dVar 0)) (gN 1) (fun _ st => .ok true st) (dOp fIxT (dVar 1) (dC (.int 0))) [1])
noncomputable def d_names_of : DnS :=
    (sRet (dN (f1 fTupOf) (aCons c_names_of_1 aNil)))
noncomputable def F_names_of : Fd := fun ws st => nox (fnD 2 (d_names_of) ws st)
theorem ok_names_of (T : Tx K mg ct) : FnOk P w K mg base CX0 1 T.f_names_of T.d_names_of ["side"] (spD ⟨K, ct, ceL T.errs⟩ 1 F_names_of) := by
  refine fnK (k := 0) T.F_names_of sc_names_of rfl fun cdv A outer s H E hr => ⟨_, (pss_one (ps_ret (pe_callTy (call_tupOf K) (by rfl) T.n_tuple (by decide +kernel) (pa_cons (pe_lc (own := [("member", 1)]) (g := gName 1) (tt := tYes) rfl sc_names_of.nd (pi_tupK K (pv 0)) (blkOk_by (own := [("member", 1)]) (N := ["side", "member"]) (sc := defScope s_names_of) (by decide +kernel)) (fun _ _ _ _ _ => (pg_name (i := 1) sc_names_of.nd rfl (Or.inl rfl))) (fun _ _ _ _ _ => pts_nil) (fun _ _ _ _ _ => (pe_ix (ix_tupK K) (pv 1) pe_int (fun _ _ => rfl)))) pa_nil)))), ?_⟩
  exact (es_ret (ev_cb q_tupOf (ea_cons (ev_lc (ei_tup ev_var) (eg_name (vs := [1]) rfl) et_yes (ev_op q_ixT ev_var ev_int)) ea_nil)))
/-! ### _text_of -/
noncomputable def c_text_of_1 : Dn :=
    (dLc (iSeq srcT (dVar 0)) (gT 2 (gsCons (gN 4) (gsCons (gN 5) gsNil))) (fun _ st => .ok true st) (dJs [(dC (.str "host ")), (dFmt (dVar 4)), (dC (.str " ")), (dFmt (dVar 5))]) [4, 5])
noncomputable def c_text_of_2 : Dn :=
    (dLc (iSeq srcT (dVar 1)) (gT 2 (gsCons (gN 4) (gsCons (gN 5) gsNil))) (fun _ st => .ok true st) (dJs [(dC (.str "guest ")), (dFmt (dVar 4)), (dC (.str " ")), (dFmt (dVar 5))]) [4, 5])
noncomputable def d_text_of : DnS :=
    (sSeq (sSet 3 (dLoc c_text_of_1))
    (sSeq (sDrop (dM isLst (fun w ws st => fChg (gExt st) w ws st) (dVar 3) (aCons c_text_of_2 aNil)))
    (sSeq (sIf (bT (dOp (fIs true) (dVar 2) (dC .none))) (sDrop (dM isLst (fChg gApp) (dVar 3) (aCons (dJs [(dC (.str "tables ")), (dFmt (dVar 2))]) aNil))) sNext)
    (sRet (dJoin (dC (.str "\n")) (dVar 3))))))
noncomputable def F_text_of : Fd := fun ws st => nox (fnD 6 (d_text_of) ws st)
theorem ok_text_of (T : Tx K mg ct) : FnOk P w K mg base CX0 1 T.f_text_of T.d_text_of ["hosts", "guests", "tables"] (spD ⟨K, ct, ceL T.errs⟩ 3 F_text_of) := by
  refine fnK (k := 0) T.F_text_of sc_text_of rfl fun cdv A outer s H E hr => ⟨_, (pss_cons (ps_setLc (i := 3) (own := [("name", 4), ("bound", 5)]) (g := gTup K 2 (gCons (gName 4) (gCons (gName 5) gNil))) (tt := tYes) rfl sc_text_of.nd rfl rfl (sw_true rfl rfl rfl (by decide +kernel)) (pi_tupK K (pv 0)) (blkOk_by (own := [("name", 4), ("bound", 5)]) (N := ["hosts", "guests", "tables", "lines", "name", "bound"]) (sc := defScope s_text_of) (by decide +kernel)) (fun _ _ _ _ _ => (pg_tupK K rfl (pgs_cons (pg_name (i := 4) sc_text_of.nd rfl (Or.inl rfl)) (pgs_cons (pg_name (i := 5) sc_text_of.nd rfl (Or.inl rfl)) pgs_nil)))) (fun _ _ _ _ _ => pts_nil) (fun _ _ _ _ _ => (pe_joined (PJ.cons pe_str (PJ.cons (pe_fmt (pv 4)) (PJ.cons pe_str (PJ.cons (pe_fmt (pv 5)) PJ.nil)))))))
      (pss_cons (ps_expr (pe_bmN K PySem.F.plainAttrs_list PySem.F.slot_list_extend PySem.F.type_list_extend mt_extend (pv 3) (pa_cons (pe_lc (own := [("name", 4), ("bound", 5)]) (g := gTup K 2 (gCons (gName 4) (gCons (gName 5) gNil))) (tt := tYes) rfl sc_text_of.nd (pi_tupK K (pv 1)) (blkOk_by (own := [("name", 4), ("bound", 5)]) (N := ["hosts", "guests", "tables", "lines", "name", "bound"]) (sc := defScope s_text_of) (by decide +kernel)) (fun _ _ _ _ _ => (pg_tupK K rfl (pgs_cons (pg_name (i := 4) sc_text_of.nd rfl (Or.inl rfl)) (pgs_cons (pg_name (i := 5) sc_text_of.nd rfl (Or.inl rfl)) pgs_nil)))) (fun _ _ _ _ _ => pts_nil) (fun _ _ _ _ _ => (pe_joined (PJ.cons pe_str (PJ.cons (pe_fmt (pv 4)) (PJ.cons pe_str (PJ.cons (pe_fmt (pv 5)) PJ.nil))))))) pa_nil)))
      (pss_cons (ps_if (pt_cmpR op_notN (pv 2) pe_non (nomark _))
        (pss_one (ps_expr (pe_bmN K PySem.F.plainAttrs_list PySem.F.slot_list_append PySem.F.type_list_append mt_append (pv 3) (pa_cons (pe_joined (PJ.cons pe_str (PJ.cons (pe_fmt (pv 2)) PJ.nil))) pa_nil))))
        pss_nil)
      (pss_one (ps_ret (pe_join pe_str (pv 3))))))), ?_⟩
  exact (es_seq (es_set (ev_loc (ev_lc (ei_tup ev_var) (eg_tup (egs_cons (eg_name (vs := [4, 5]) rfl) (egs_cons (eg_name (vs := [4, 5]) rfl) egs_nil))) et_yes (ev_joined (Ejs.cons ev_str (Ejs.cons (ev_fmt ev_var) (Ejs.cons ev_str (Ejs.cons (ev_fmt ev_var) Ejs.nil))))))))
      (es_seq (es_drop (ev_bm q_ext ev_var (ea_cons (ev_lc (ei_tup ev_var) (eg_tup (egs_cons (eg_name (vs := [4, 5]) rfl) (egs_cons (eg_name (vs := [4, 5]) rfl) egs_nil))) et_yes (ev_joined (Ejs.cons ev_str (Ejs.cons (ev_fmt ev_var) (Ejs.cons ev_str (Ejs.cons (ev_fmt ev_var) Ejs.nil)))))) ea_nil)))
      (es_seq (es_if (et_t (ev_op q_notN ev_var ev_non))
        (es_drop (ev_bm q_app ev_var (ea_cons (ev_joined (Ejs.cons ev_str (Ejs.cons (ev_fmt ev_var) Ejs.nil))) ea_nil)))
        es_next)
      (es_ret (ev_join ev_str ev_var)))))
/-! ### _number -/
noncomputable def c_number_1 : Dn :=
    (dDc (iR r2S (aCons (dC (.int 1)) (aCons (dOp fAdd (dVar 1) (dC (.int 1))) aNil))) (gN 3) (fun _ st => .ok true st) (dN (f1 fStrI) (aCons (dVar 3) aNil)) (dVar 3) [3])
noncomputable def d_number : DnS :=
    (sSeq (sSet 2 c_number_1)
    (sRet (dGet1 (dVar 2) (dVar 0))))
noncomputable def F_number : Fd := fun ws st => nox (fnD 4 (d_number) ws st)
theorem ok_number (T : Tx K mg ct) : FnOk P w K mg base CX0 1 T.f_number T.d_number ["digits", "most"] (spD ⟨K, ct, ceL T.errs⟩ 2 F_number) := by
  refine fnK (k := 0) T.F_number sc_number rfl fun cdv A outer s H E hr => ⟨_, (pss_cons (DC.ps_setDc (i := 2) (own := [("number", 3)]) (g := gName 3) (tt := tYes) rfl sc_number.nd rfl rfl (DC.sw_dict rfl rfl rfl (by decide +kernel)) (pi_range2 rfl T.n_range (pa_cons pe_int (pa_cons (pe_op op_add (pv 1) pe_int) pa_nil))) (blkOk_by (own := [("number", 3)]) (N := ["digits", "most", "written", "number"]) (sc := defScope s_number) (by decide +kernel)) (fun _ _ _ _ _ => (pg_name (i := 3) sc_number.nd rfl (Or.inl rfl))) (fun _ _ _ _ _ => pts_nil) (fun _ _ _ _ _ => (pe_callTy call_str_int (by rfl) T.n_str (by decide +kernel) (pa_cons (pv 3) pa_nil))) (fun _ _ _ _ _ => (pv 3)))
      (pss_one (ps_ret (pe_dget1 (un1 hr) (pv 2) (pv 0) ⟨rfl, rfl, rfl, rfl⟩)))), ?_⟩
  exact (es_seq (es_set (ev_dc (ei_r2 (ea_cons ev_int (ea_cons (ev_op q_add ev_var ev_int) ea_nil))) (eg_name (vs := [3]) rfl) et_yes (ev_cb q_strI (ea_cons ev_var ea_nil)) ev_var))
      (es_ret (ev_dget1 ev_var ev_var)))
/-! ### Fair.__contains__ -/
noncomputable def d_Fairu_containsu : DnS :=
    (sRet (dAnd (dN (f2 fIsi) (aCons (dVar 1) (aCons (dC (tyD "str")) aNil))) (dOp (fIn false) (dVar 1) (dFld 0 ns_Fair "_names" (dVar 0)))))
noncomputable def F_Fairu_containsu : Fd := fun ws st => nox (fnD 2 (d_Fairu_containsu) ws st)
theorem ok_Fairu_containsu (T : Tx K mg ct) : FnOk P w K mg base CX0 1 T.f_Fairu_containsu T.d_Fairu_containsu ["self", "value"] (spD ⟨K, ct, ceL T.errs⟩ 2 F_Fairu_containsu) := by
  refine fnK (k := 0) T.F_Fairu_containsu sc_Fairu_containsu rfl fun cdv A outer s H E hr => ⟨_, (pss_one (ps_ret (pe_and (pe_callB (call_isiK K) (by rfl) T.n_isinstance (by decide +kernel) (pa_cons (pv 1) (pa_cons (pe_bltn (v := .ty "str") (by rfl) T.n_str (by decide +kernel) rfl) pa_nil))) (pe_one (pe_cmpR (op_inK K) (pv 1) (pe_fldK K (pv 0) rfl) rfl))))), ?_⟩
  exact (es_ret (ev_and (ev_cb (q_isi T.kt) (ea_cons ev_var (ea_cons (ev_c fun _ => .ty _) ea_nil))) (ev_op q_in ev_var (ev_fld T.ct_Fair T.cl_Fair.cl T.na_Fair_names ev_var))))
/-! ### Fair.__str__ -/
noncomputable def d_Fairu_stru : DnS :=
    (sRet (dN (f1 fStrS) (aCons (dFld 0 ns_Fair "_text" (dVar 0)) aNil)))
noncomputable def F_Fairu_stru : Fd := fun ws st => nox (fnD 1 (d_Fairu_stru) ws st)
theorem ok_Fairu_stru (T : Tx K mg ct) : FnOk P w K mg base CX0 1 T.f_Fairu_stru T.d_Fairu_stru ["self"] (spD ⟨K, ct, ceL T.errs⟩ 1 F_Fairu_stru) := by
  refine fnK (k := 0) T.F_Fairu_stru sc_Fairu_stru rfl fun cdv A outer s H E hr => ⟨_, (pss_one (ps_ret (pe_callTy SkE.call_str_str (by rfl) T.n_str (by decide +kernel) (pa_cons (pe_fldK K (pv 0) rfl) pa_nil)))), ?_⟩
  exact (es_ret (ev_cb q_strS (ea_cons (ev_fld T.ct_Fair T.cl_Fair.cl T.na_Fair_text ev_var) ea_nil)))
/-! ### _law_jug -/
noncomputable def b_l_jug_1 : DnS :=
    (sSeq (sSet 3 (dOp fAdd (dOp fMul (dVar 3) (dC (.int 2862933555777941757))) (dOp fMod (dN (f1 (f1I fun i => .int i)) (aCons (dVar 4) aNil)) (dC (.int 9223372036854775337)))))
    (sSet 3 (dOp fMod (dN (f1 (f1I fun i => .int i)) (aCons (dOp fAdd (dVar 3) (dC (.int 5))) aNil)) (dC (.int 9223372036854775783)))))
noncomputable def d_l_jug : DnS :=
    (sSeq (sSet 2 (dIf (bT (dOp fLt (dVar 1) (dN (f1 fLen) (aCons (dVar 0) aNil)))) (dOp fIxL (dVar 0) (dVar 1)) (dOp fAdd (dC (.int 40)) (dVar 1))))
    (sSeq (sSet 3 (dOp fMul (dC (.int 1299709)) (dOp fAdd (dVar 1) (dC (.int 2)))))
    (sSeq (sFor (iSeq srcW (dOp fCat (dSl fSlL (dVar 0) oNone (oSome (dC (.int 3)))) (dN fLst (aCons (dVar 2) aNil)))) (gN 4) b_l_jug_1)
    (sRet (dN fLst (aCons (dIf (bT (dOp fGe (dN (f1 (f1I fun i => .int (if i < 0 then -i else i))) (aCons (dVar 2) aNil)) (dOp fPow (dC (.int 10)) (dC (.int 18))))) (dN (f1 (f1I fun i => .int (if i < 0 then -i else i))) (aCons (dVar 2) aNil)) (dC (.int 0))) (aCons (dVar 3) (aCons (dC (.int 0)) aNil))))))))
noncomputable def F_l_jug : Fd := fun ws st => nox (fnD 5 (d_l_jug) ws st)
theorem ok_l_jug (T : Tx K mg ct) : FnOk P w K mg base CX0 1 T.f_l_jug T.d_l_jug ["_law_script", "_law_at"] (spD ⟨K, ct, ceL T.errs⟩ 2 F_l_jug) := by
  refine fnK (k := 0) T.F_l_jug sc_l_jug rfl fun cdv A outer s H E hr => ⟨_, (pss_cons (ps_set (i := 2) sc_l_jug.nd rfl (Or.inl rfl) (pe_ifExp (pt_cmpR op_lt (pv 1) (pe_callB (call_lenQ K) (by rfl) T.n_len PySem.boot_len (pa_cons (pv 0) pa_nil)) (nomark _)) (pe_ix (ix_listK K) (pv 0) (pv 1) (fun _ _ => rfl)) (pe_op op_add pe_int (pv 1))))
      (pss_cons (ps_set (i := 3) sc_l_jug.nd rfl (Or.inl rfl) (pe_op op_mulB pe_int (pe_op op_add (pv 1) pe_int)))
      (pss_cons (ps_for PassesOwn.never rfl (pi_listK K (pe_op op_cat (pe_slice (sl_listK K) (pv 0) po_none (po_some pe_int)) (pe_lst (pa_cons (pv 2) pa_nil)))) (pg_name (i := 4) sc_l_jug.nd rfl (Or.inl rfl))
        (pss_cons (ps_set (i := 3) sc_l_jug.nd rfl (Or.inl rfl) (pe_op op_add (pe_op op_mulB (pv 3) pe_int) (pe_op op_mod (pe_callTy call_int1 (by rfl) T.n_int (by decide +kernel) (pa_cons (pv 4) pa_nil)) pe_int)))
      (pss_one (ps_set (i := 3) sc_l_jug.nd rfl (Or.inl rfl) (pe_op op_mod (pe_callTy call_int1 (by rfl) T.n_int (by decide +kernel) (pa_cons (pe_op op_add (pv 3) pe_int) pa_nil)) pe_int)))))
      (pss_one (ps_ret (pe_lst (pa_cons (pe_ifExp (pt_cmpR op_ge (pe_callB call_abs (by rfl) T.n_abs (by decide +kernel) (pa_cons (pv 2) pa_nil)) (pe_op op_pow pe_int pe_int) (nomark _)) (pe_callB call_abs (by rfl) T.n_abs (by decide +kernel) (pa_cons (pv 2) pa_nil)) pe_int) (pa_cons (pv 3) (pa_cons pe_int pa_nil))))))))), ?_⟩
  exact (es_seq (es_set (ev_if (et_t (ev_op q_lt ev_var (ev_cb q_len (ea_cons ev_var ea_nil)))) (ev_op q_ixL ev_var ev_var) (ev_op q_add ev_int ev_var)))
      (es_seq (es_set (ev_op q_mul ev_int (ev_op q_add ev_var ev_int)))
      (es_seq (es_for (ei_list (ev_op q_cat (ev_sl q_slL ev_var eo_none (eo_some ev_int)) (ev_lst (ea_cons ev_var ea_nil)))) (eg_name (vs := [4]) rfl)
        (es_seq (es_set (ev_op q_add (ev_op q_mul ev_var ev_int) (ev_op q_mod (ev_cb q_int (ea_cons ev_var ea_nil)) ev_int)))
      (es_set (ev_op q_mod (ev_cb q_int (ea_cons (ev_op q_add ev_var ev_int) ea_nil)) ev_int))))
      (es_ret (ev_lst (ea_cons (ev_if (et_t (ev_op q_ge (ev_cb q_abs (ea_cons ev_var ea_nil)) (ev_op q_pow ev_int ev_int))) (ev_cb q_abs (ea_cons ev_var ea_nil)) ev_int) (ea_cons ev_var (ea_cons ev_int ea_nil))))))))
/-! ### _law_pour -/
noncomputable def d_l_pour : DnS :=
    (sSeq (sIf (bT (dOp fGt (dOp fIxL (dVar 0) (dC (.int 0))) (dC (.int 0)))) (sSeq (sAsg (dN (f2 fDivm) (aCons (dOp fIxL (dVar 0) (dC (.int 0))) (aCons (dVar 1) aNil))) (gT 2 (gsCons (gSb fSetL (dVar 0) (dC (.int 0))) (gsCons (gN 2) gsNil))))
    (sRet (dVar 2))) sNext)
    (sSeq (sAsg (dOp fAdd (dOp fIxL (dVar 0) (dC (.int 2))) (dC (.int 1))) (gSb fSetL (dVar 0) (dC (.int 2))))
    (sSeq (sSet 3 (dOp fAdd (dOp fMul (dOp fIxL (dVar 0) (dC (.int 1))) (dC (.int 3202034522624059733))) (dOp fMul (dOp fMul (dC (.int 104395301)) (dOp fIxL (dVar 0) (dC (.int 2)))) (dOp fIxL (dVar 0) (dC (.int 2))))))
    (sSeq (sAsg (dOp fMod (dN (f1 (f1I fun i => .int i)) (aCons (dOp fAdd (dVar 3) (dC (.int 1))) aNil)) (dC (.int 9223372036854775783))) (gSb fSetL (dVar 0) (dC (.int 1))))
    (sRet (dOp fMod (dN (f1 (f1I fun i => .int i)) (aCons (dOp fDiv (dOp fIxL (dVar 0) (dC (.int 1))) (dC (.int 16777216))) aNil)) (dVar 1)))))))
noncomputable def F_l_pour : Fd := fun ws st => nox (fnD 4 (d_l_pour) ws st)
theorem ok_l_pour (T : Tx K mg ct) : FnOk P w K mg base CX0 1 T.f_l_pour T.d_l_pour ["_law_jug_here", "_law_many"] (spD ⟨K, ct, ceL T.errs⟩ 2 F_l_pour) := by
  refine fnK (k := 0) T.F_l_pour sc_l_pour rfl fun cdv A outer s H E hr => ⟨_, (pss_cons (ps_if (pt_cmpR op_gt (pe_ix (ix_listK K) (pv 0) pe_int (fun _ _ => rfl)) pe_int (nomark _))
        (pss_cons (ps_asg (pe_callB call_divmodW (by rfl) T.n_divmod (by decide +kernel) (pa_cons (pe_ix (ix_listK K) (pv 0) pe_int (fun _ _ => rfl)) (pa_cons (pv 1) pa_nil))) (pg_tupK K rfl (pgs_cons (pg_sub (pv 0) pe_int set_list) (pgs_cons (pg_name (i := 2) sc_l_pour.nd rfl (Or.inl rfl)) pgs_nil))))
      (pss_one (ps_ret (pv 2))))
        pss_nil)
      (pss_cons (ps_asg (pe_op op_add (pe_ix (ix_listK K) (pv 0) pe_int (fun _ _ => rfl)) pe_int) (pg_sub (pv 0) pe_int set_list))
      (pss_cons (ps_set (i := 3) sc_l_pour.nd rfl (Or.inl rfl) (pe_op op_add (pe_op op_mulB (pe_ix (ix_listK K) (pv 0) pe_int (fun _ _ => rfl)) pe_int) (pe_op op_mulB (pe_op op_mulB pe_int (pe_ix (ix_listK K) (pv 0) pe_int (fun _ _ => rfl))) (pe_ix (ix_listK K) (pv 0) pe_int (fun _ _ => rfl)))))
      (pss_cons (ps_asg (pe_op op_mod (pe_callTy call_int1 (by rfl) T.n_int (by decide +kernel) (pa_cons (pe_op op_add (pv 3) pe_int) pa_nil)) pe_int) (pg_sub (pv 0) pe_int set_list))
      (pss_one (ps_ret (pe_op op_mod (pe_callTy call_int1 (by rfl) T.n_int (by decide +kernel) (pa_cons (pe_op op_fdivW (pe_ix (ix_listK K) (pv 0) pe_int (fun _ _ => rfl)) pe_int) pa_nil)) (pv 1)))))))), ?_⟩
  exact (es_seq (es_if (et_t (ev_op q_gt (ev_op q_ixL ev_var ev_int) ev_int))
        (es_seq (es_asg (ev_cb q_divm (ea_cons (ev_op q_ixL ev_var ev_int) (ea_cons ev_var ea_nil))) (eg_tup (egs_cons (eg_sub (vs := [2]) q_setL ev_var ev_int) (egs_cons (eg_name (vs := [2]) rfl) egs_nil))))
      (es_ret ev_var))
        es_next)
      (es_seq (es_asg (ev_op q_add (ev_op q_ixL ev_var ev_int) ev_int) (eg_sub (vs := []) q_setL ev_var ev_int))
      (es_seq (es_set (ev_op q_add (ev_op q_mul (ev_op q_ixL ev_var ev_int) ev_int) (ev_op q_mul (ev_op q_mul ev_int (ev_op q_ixL ev_var ev_int)) (ev_op q_ixL ev_var ev_int))))
      (es_seq (es_asg (ev_op q_mod (ev_cb q_int (ea_cons (ev_op q_add ev_var ev_int) ea_nil)) ev_int) (eg_sub (vs := []) q_setL ev_var ev_int))
      (es_ret (ev_op q_mod (ev_cb q_int (ea_cons (ev_op q_div (ev_op q_ixL ev_var ev_int) ev_int) ea_nil)) ev_var))))))
/-! ### _law_bases -/
noncomputable def d_l_bases (x : XI) : DnS :=
    (sSeq (sSet 1 (dN fLst (aCons (dIsX x [true, true, true] (dVar 0)) (aCons (dIsX x [false, false, false] (dVar 0)) (aCons (dIsX x [false, false, false] (dVar 0)) aNil)))))
    (sSeq (sSet 2 (dN fLst (aCons (dIsX x [true, true, true] (dVar 0)) (aCons (dIsX x [false, false, false] (dVar 0)) (aCons (dIsX x [false, false, false] (dVar 0)) aNil)))))
    (sRet (dIf (bT (dOp (fEqD false) (dVar 1) (dVar 2))) (dVar 1) (dN fLst aNil)))))
noncomputable def F_l_bases : XI → Fd := fun x ws st => nox (fnD 3 (d_l_bases x) ws st)
theorem ok_l_bases (T : Tx K mg ct) : FnE P w K mg base (ceL T.errs) 1 T.f_l_bases T.d_l_bases ["_law_e"] (fun x => spD ⟨K, ct, ceL T.errs⟩ 1 (F_l_bases x)) := by
  refine fnE (cf := ⟨K, ct, ceL T.errs⟩) (k := 0) T.F_l_bases sc_l_bases rfl fun cdv A outer s H E p x hgd hr hx => ⟨_, (pss_cons (ps_set (i := 1) sc_l_bases.nd rfl (Or.inl rfl) (pe_lst (pa_cons (pe_callB (call_isX hx) (by rfl) T.n_isinstance (by decide +kernel) (pa_cons (pv 0) (pa_cons (pe_glob (v := .ref T.C_WrongValue) rfl T.gE_WrongValue rfl) pa_nil))) (pa_cons (pe_callB (call_isX hx) (by rfl) T.n_isinstance (by decide +kernel) (pa_cons (pv 0) (pa_cons (pe_glob (v := .ref T.C_WrongName) rfl T.gE_WrongName rfl) pa_nil))) (pa_cons (pe_callB (call_isX hx) (by rfl) T.n_isinstance (by decide +kernel) (pa_cons (pv 0) (pa_cons (pe_glob (v := .ref T.C_NoAnswer) rfl T.gE_NoAnswer rfl) pa_nil))) pa_nil)))))
      (pss_cons (ps_set (i := 2) sc_l_bases.nd rfl (Or.inl rfl) (pe_lst (pa_cons (pe_callB (call_isX hx) (by rfl) T.n_isinstance (by decide +kernel) (pa_cons (pv 0) (pa_cons (pe_bltn (v := .ty "ValueError") (by rfl) T.n_ValueError (by decide +kernel) rfl) pa_nil))) (pa_cons (pe_callB (call_isX hx) (by rfl) T.n_isinstance (by decide +kernel) (pa_cons (pv 0) (pa_cons (pe_bltn (v := .ty "LookupError") (by rfl) T.n_LookupError (by decide +kernel) rfl) pa_nil))) (pa_cons (pe_callB (call_isX hx) (by rfl) T.n_isinstance (by decide +kernel) (pa_cons (pv 0) (pa_cons (pe_bltn (v := .ty "ArithmeticError") (by rfl) T.n_ArithmeticError (by decide +kernel) rfl) pa_nil))) pa_nil)))))
      (pss_one (ps_ret (pe_ifExp (pt_cmpR (op_eqDK K (uH hr)) (pv 1) (pv 2) (nomark _)) (pv 1) (pe_lst pa_nil)))))), ?_⟩
  exact (es_seq (es_set (ev_lst (ea_cons (ev_isX (l := T.errs) rfl (erqs T) (kxs_WrongValue T) (fun _ h => h) rfl rfl rfl ev_var) (ea_cons (ev_isX (l := T.errs) rfl (erqs T) (kxs_WrongName T) (fun _ h => h) rfl rfl rfl ev_var) (ea_cons (ev_isX (l := T.errs) rfl (erqs T) (kxs_NoAnswer T) (fun _ h => h) rfl rfl rfl ev_var) ea_nil)))))
      (es_seq (es_set (ev_lst (ea_cons (ev_isX (l := T.errs) rfl (erqs T) (kxs_ValueError T) (fun _ h => h) rfl rfl rfl ev_var) (ea_cons (ev_isX (l := T.errs) rfl (erqs T) (kxs_LookupError T) (fun _ h => h) rfl rfl rfl ev_var) (ea_cons (ev_isX (l := T.errs) rfl (erqs T) (kxs_ArithmeticError T) (fun _ h => h) rfl rfl rfl ev_var) ea_nil)))))
      (es_ret (ev_if (et_t (ev_op q_eqD ev_var ev_var)) ev_var (ev_lst ea_nil)))))
/-! ### _law_is_name -/
noncomputable def c_l_is_name_1 : Dn :=
    (dLc (iSeq srcS (dVar 0)) (gN 2) (bT (dOp (fInS true) (dVar 2) (dOp fAddS (dVar 1) (dC (.str "0123456789"))))) (dVar 2) [2])
noncomputable def d_l_is_name : DnS :=
    (sSeq (sIf (bOr (bNot (bT (dN (f2 fIsi) (aCons (dVar 0) (aCons (dC (tyD "str")) aNil))))) (bNot (bT (dChain fLe fLe (dC (.int 1)) (dN (f1 fLenS) (aCons (dVar 0) aNil)) (dC (.int 8)))))) (sRet (dC (.bool false))) sNext)
    (sSeq (sSet 1 (dC (.str "abcdefghijklmnopqrstuvwxyz")))
    (sRet (dAnd (dOp (fInS false) (dOp fIxS (dVar 0) (dC (.int 0))) (dVar 1)) (dOp (fEqD false) c_l_is_name_1 (dN fLst aNil))))))
noncomputable def F_l_is_name : Fd := fun ws st => nox (fnD 3 (d_l_is_name) ws st)
theorem ok_l_is_name (T : Tx K mg ct) : FnOk P w K mg base CX0 1 T.f_l_is_name T.d_l_is_name ["_law_thing"] (spD ⟨K, ct, ceL T.errs⟩ 1 F_l_is_name) := by
  refine fnK (k := 0) T.F_l_is_name sc_l_is_name rfl fun cdv A outer s H E hr => ⟨_, (pss_cons (ps_if (PW.pt (pw_or (pt_not (pt_val (pe_callB (call_isiK K) (by rfl) T.n_isinstance (by decide +kernel) (pa_cons (pv 0) (pa_cons (pe_bltn (v := .ty "str") (by rfl) T.n_str (by decide +kernel) rfl) pa_nil))))) (pw_or1 (pt_not (pt_chain op_le op_le pe_int (pe_callB call_len (by rfl) T.n_len PySem.boot_len (pa_cons (pv 0) pa_nil)) pe_int)))))
        (pss_one (ps_ret pe_bl))
        pss_nil)
      (pss_cons (ps_set (i := 1) sc_l_is_name.nd rfl (Or.inr rfl) pe_str)
      (pss_one (ps_ret (pe_and (pe_cmpR op_in_sign (pe_ix ix_str (pv 0) pe_int (fun _ _ => rfl)) (pv 1) rfl) (pe_one (pe_cmpR (op_eqDK K hr.units) (pe_lc (own := [("_law_sign", 2)]) (g := gName 2) rfl sc_l_is_name.nd (pi_str (pv 0)) (blkOk_by (own := [("_law_sign", 2)]) (N := ["_law_thing", "_law_small", "_law_sign"]) (sc := defScope s_l_is_name) (by decide +kernel)) (fun _ _ _ _ _ => (pg_name (i := 2) sc_l_is_name.nd rfl (Or.inl rfl))) (fun _ _ _ _ _ => (pts_one (pt_cmpR op_notIn_sign (pv 2) (pe_op op_add_str (pv 1) pe_str) rfl))) (fun _ _ _ _ _ => (pv 2))) (pe_lst pa_nil) (nomark _)))))))), ?_⟩
  exact (es_seq (es_if (et_or (et_not (et_b (ev_cb (q_isi T.kt) (ea_cons ev_var (ea_cons (ev_c fun _ => .ty _) ea_nil))))) (et_not (et_t (ev_chain q_le q_le ev_int (ev_cb q_lenS (ea_cons ev_var ea_nil)) ev_int))))
        (es_ret ev_bl)
        es_next)
      (es_seq (es_set ev_str)
      (es_ret (ev_and (ev_op q_inS (ev_op q_ixS ev_var ev_int) ev_var) (ev_op q_eqD (ev_lc (ei_str ev_var) (eg_name (vs := [2]) rfl) (et_t (ev_op q_notInS ev_var (ev_op q_addS ev_var ev_str))) ev_var) (ev_lst ea_nil))))))
/-! ### _law_keeps -/
noncomputable def d_l_keeps (x : XI) : DnS :=
    (sSeq (sIf (bT (dOp (fIn false) (dVar 1) (dN fLst (aCons (dUn (f1I fun i => .int (-i)) (dC (.int 1))) (aCons (dC (.int 19)) aNil))))) (sRet (dC .none)) sNext)
    (sRet (dIf (bOr (bT (dChain fLt fLt (dC (.int 8)) (dVar 1) (dC (.int 16)))) (bT (dOp (fEq false) (dVar 1) (dC (.int 20))))) (dXf x "index" 3 (dVar 0)) (dXf x "given" 3 (dVar 0)))))
noncomputable def F_l_keeps : XI → Fd := fun x ws st => nox (fnD 2 (d_l_keeps x) ws st)
theorem ok_l_keeps (T : Tx K mg ct) : FnE P w K mg base (ceL T.errs) 1 T.f_l_keeps T.d_l_keeps ["_law_e", "_law_at"] (fun x => spD ⟨K, ct, ceL T.errs⟩ 2 (F_l_keeps x)) := by
  refine fnE (cf := ⟨K, ct, ceL T.errs⟩) (k := 0) T.F_l_keeps sc_l_keeps rfl fun cdv A outer s H E p x hgd hr hx => ⟨_, (pss_cons (ps_if (pt_cmpR (op_inK K) (pv 1) (pe_lst (pa_cons (pe_un un_neg pe_int) (pa_cons pe_int pa_nil))) rfl)
        (pss_one (ps_ret pe_non))
        pss_nil)
      (pss_one (ps_ret (pe_ifExp (PW.pt (pw_or (pt_chain op_lt op_lt pe_int (pv 1) pe_int) (pw_or1 (pt_cmpR op_eq (pv 1) pe_int (nomark _))))) (pe_xfX hx (pv 0)) (pe_xfX hx (pv 0)))))), ?_⟩
  exact (es_seq (es_if (et_t (ev_op q_in ev_var (ev_lst (ea_cons (ev_un q_neg ev_int) (ea_cons ev_int ea_nil)))))
        (es_ret ev_non)
        es_next)
      (es_ret (ev_if (et_or (et_t (ev_chain q_lt q_lt ev_int ev_var ev_int)) (et_t (ev_op q_eq ev_var ev_int))) (ev_xf (l := T.errs) rfl (erqs T) (nfs_index T) rfl rfl rfl ev_var) (ev_xf (l := T.errs) rfl (erqs T) (nfs_given T) rfl rfl rfl ev_var))))
/-! ### _is_member -/
noncomputable def d_is_member : DnS :=
    (sRet (dAnd (dCall 1 F_is_pair [] (aCons (dVar 0) aNil)) (dAnd (dCall 1 F_is_name [] (aCons (dOp fIxT (dVar 0) (dC (.int 0))) aNil)) (dCall 3 F_is_integer [] (aCons (dOp fIxT (dVar 0) (dC (.int 1))) (aCons (dC (.int 1)) (aCons (dC (.int 4)) aNil)))))))
noncomputable def F_is_member : Fd := fun ws st => nox (fnD 1 (d_is_member) ws st)
theorem ok_is_member (T : Tx K mg ct) : FnOk P w K mg base CX0 2 T.f_is_member T.d_is_member ["value"] (spD ⟨K, ct, ceL T.errs⟩ 1 F_is_member) := by
  refine fnK (k := 1) T.F_is_member sc_is_member rfl fun cdv A outer s H E hr => ⟨_, (pss_one (ps_ret (pe_and (pe_call (ok_is_pair T) (hr.mono (by decide)) rfl T.v_is_pair T.k_is_pair T.b_is_pair .nil pass0 (pa_cons (pv 0) pa_nil)) (pe_and (pe_call (ok_is_name T) (hr.mono (by decide)) rfl T.v_is_name T.k_is_name T.b_is_name .nil pass0 (pa_cons (pe_ix (ix_tupK K) (pv 0) pe_int (fun _ _ => rfl)) pa_nil)) (pe_one (pe_call (ok_is_integer T) (hr.mono (by decide)) rfl T.v_is_integer T.k_is_integer T.b_is_integer .nil pass0 (pa_cons (pe_ix (ix_tupK K) (pv 0) pe_int (fun _ _ => rfl)) (pa_cons pe_int (pa_cons (pe_glob (v := .int 4) rfl T.c_MOST_BOUND.choose_spec ⟨_, rfl⟩) pa_nil))))))))), ?_⟩
  exact (es_ret (ev_and (ev_call no_ds (ea_cons ev_var ea_nil)) (ev_and (ev_call no_ds (ea_cons (ev_op q_ixT ev_var ev_int) ea_nil)) (ev_call no_ds (ea_cons (ev_op q_ixT ev_var ev_int) (ea_cons ev_int (ea_cons ev_int ea_nil)))))))
/-! ### _parts_of -/
noncomputable def b_parts_of_1 : DnS :=
    (sSeq (sAsg (dPart (dVar 4) (dC (.str " "))) (gT 3 (gsCons (gN 5) (gsCons (gN 6) (gsCons (gN 7) gsNil)))))
    (sSeq (sAsg (dPart (dVar 7) (dC (.str " "))) (gT 3 (gsCons (gN 8) (gsCons (gN 6) (gsCons (gN 9) gsNil)))))
    (sSeq (sIf (bT (dOp (fEq false) (dVar 5) (dC (.str "host")))) (sDrop (dM isLst (fChg gApp) (dVar 1) (aCons (dN fTup (aCons (dVar 8) (aCons (dCall 2 F_number [] (aCons (dVar 9) (aCons (dC (.int 4)) aNil))) aNil))) aNil))) sNext)
    (sSeq (sIf (bT (dOp (fEq false) (dVar 5) (dC (.str "guest")))) (sDrop (dM isLst (fChg gApp) (dVar 2) (aCons (dN fTup (aCons (dVar 8) (aCons (dCall 2 F_number [] (aCons (dVar 9) (aCons (dC (.int 4)) aNil))) aNil))) aNil))) sNext)
    (sIf (bT (dOp (fEq false) (dVar 5) (dC (.str "tables")))) (sSet 3 (dCall 2 F_number [] (aCons (dVar 7) (aCons (dC (.int 12)) aNil)))) sNext)))))
noncomputable def d_parts_of : DnS :=
    (sSeq (sSet 1 (dLoc (dN fLst aNil)))
    (sSeq (sSet 2 (dLoc (dN fLst aNil)))
    (sSeq (sSet 3 (dC .none))
    (sSeq (sFor (iSeq srcW (dSplit (dVar 0) (dC (.str "\n")))) (gN 4) b_parts_of_1)
    (sRet (dN fTup (aCons (dN (f1 fTupOf) (aCons (dVar 1) aNil)) (aCons (dN (f1 fTupOf) (aCons (dVar 2) aNil)) (aCons (dVar 3) aNil)))))))))
noncomputable def F_parts_of : Fd := fun ws st => nox (fnD 10 (d_parts_of) ws st)
theorem ok_parts_of (T : Tx K mg ct) : FnOk P w K mg base CX0 2 T.f_parts_of T.d_parts_of ["text"] (spD ⟨K, ct, ceL T.errs⟩ 1 F_parts_of) := by
  refine fnK (k := 1) T.F_parts_of sc_parts_of rfl fun cdv A outer s H E hr => ⟨_, (pss_cons (ps_set (i := 1) sc_parts_of.nd rfl (Or.inl rfl) (pe_lst pa_nil))
      (pss_cons (ps_set (i := 2) sc_parts_of.nd rfl (Or.inl rfl) (pe_lst pa_nil))
      (pss_cons (ps_set (i := 3) sc_parts_of.nd rfl (Or.inl rfl) pe_non)
      (pss_cons (ps_for PassesOwn.never rfl (pi_listK K (pe_split (pv 0) pe_str)) (pg_name (i := 4) sc_parts_of.nd rfl (Or.inl rfl))
        (pss_cons (ps_asg (pe_partition (pv 4) pe_str) (pg_tupK K rfl (pgs_cons (pg_name (i := 5) sc_parts_of.nd rfl (Or.inl rfl)) (pgs_cons (pg_name (i := 6) sc_parts_of.nd rfl (Or.inl rfl)) (pgs_cons (pg_name (i := 7) sc_parts_of.nd rfl (Or.inl rfl)) pgs_nil)))))
      (pss_cons (ps_asg (pe_partition (pv 7) pe_str) (pg_tupK K rfl (pgs_cons (pg_name (i := 8) sc_parts_of.nd rfl (Or.inl rfl)) (pgs_cons (pg_name (i := 6) sc_parts_of.nd rfl (Or.inl rfl)) (pgs_cons (pg_name (i := 9) sc_parts_of.nd rfl (Or.inl rfl)) pgs_nil)))))
      (pss_cons (ps_if (pt_cmpR op_eq (pv 5) pe_str (nomark _))
        (pss_one (ps_expr (pe_bmN K PySem.F.plainAttrs_list PySem.F.slot_list_append PySem.F.type_list_append mt_append (pv 1) (pa_cons (pe_tup (pa_cons (pv 8) (pa_cons (pe_call (ok_number T) (hr.mono (by decide)) rfl T.v_number T.k_number T.b_number .nil pass0 (pa_cons (pv 9) (pa_cons (pe_glob (v := .int 4) rfl T.c_MOST_BOUND.choose_spec ⟨_, rfl⟩) pa_nil))) pa_nil))) pa_nil))))
        pss_nil)
      (pss_cons (ps_if (pt_cmpR op_eq (pv 5) pe_str (nomark _))
        (pss_one (ps_expr (pe_bmN K PySem.F.plainAttrs_list PySem.F.slot_list_append PySem.F.type_list_append mt_append (pv 2) (pa_cons (pe_tup (pa_cons (pv 8) (pa_cons (pe_call (ok_number T) (hr.mono (by decide)) rfl T.v_number T.k_number T.b_number .nil pass0 (pa_cons (pv 9) (pa_cons (pe_glob (v := .int 4) rfl T.c_MOST_BOUND.choose_spec ⟨_, rfl⟩) pa_nil))) pa_nil))) pa_nil))))
        pss_nil)
      (pss_one (ps_if (pt_cmpR op_eq (pv 5) pe_str (nomark _))
        (pss_one (ps_set (i := 3) sc_parts_of.nd rfl (Or.inl rfl) (pe_call (ok_number T) (hr.mono (by decide)) rfl T.v_number T.k_number T.b_number .nil pass0 (pa_cons (pv 7) (pa_cons (pe_glob (v := .int 12) rfl T.c_MOST_TABLES.choose_spec ⟨_, rfl⟩) pa_nil)))))
        pss_nil)))))))
      (pss_one (ps_ret (pe_tup (pa_cons (pe_callTy (call_tupOf K) (by rfl) T.n_tuple (by decide +kernel) (pa_cons (pv 1) pa_nil)) (pa_cons (pe_callTy (call_tupOf K) (by rfl) T.n_tuple (by decide +kernel) (pa_cons (pv 2) pa_nil)) (pa_cons (pv 3) pa_nil)))))))))), ?_⟩
  exact (es_seq (es_set (ev_loc (ev_lst ea_nil)))
      (es_seq (es_set (ev_loc (ev_lst ea_nil)))
      (es_seq (es_set ev_non)
      (es_seq (es_for (ei_list (ev_split ev_var ev_str)) (eg_name (vs := [4]) rfl)
        (es_seq (es_asg (ev_part ev_var ev_str) (eg_tup (egs_cons (eg_name (vs := [5, 6, 7]) rfl) (egs_cons (eg_name (vs := [5, 6, 7]) rfl) (egs_cons (eg_name (vs := [5, 6, 7]) rfl) egs_nil)))))
      (es_seq (es_asg (ev_part ev_var ev_str) (eg_tup (egs_cons (eg_name (vs := [8, 6, 9]) rfl) (egs_cons (eg_name (vs := [8, 6, 9]) rfl) (egs_cons (eg_name (vs := [8, 6, 9]) rfl) egs_nil)))))
      (es_seq (es_if (et_t (ev_op q_eq ev_var ev_str))
        (es_drop (ev_bm q_app ev_var (ea_cons (ev_tup (ea_cons ev_var (ea_cons (ev_call no_ds (ea_cons ev_var (ea_cons ev_int ea_nil))) ea_nil))) ea_nil)))
        es_next)
      (es_seq (es_if (et_t (ev_op q_eq ev_var ev_str))
        (es_drop (ev_bm q_app ev_var (ea_cons (ev_tup (ea_cons ev_var (ea_cons (ev_call no_ds (ea_cons ev_var (ea_cons ev_int ea_nil))) ea_nil))) ea_nil)))
        es_next)
      (es_if (et_t (ev_op q_eq ev_var ev_str))
        (es_set (ev_call no_ds (ea_cons ev_var (ea_cons ev_int ea_nil))))
        es_next))))))
      (es_ret (ev_tup (ea_cons (ev_cb q_tupOf (ea_cons ev_var ea_nil)) (ea_cons (ev_cb q_tupOf (ea_cons ev_var ea_nil)) (ea_cons ev_var ea_nil)))))))))
/-! ### _law_odd -/
noncomputable def d_l_odd : DnS :=
    (sSeq (sSet 1 (dN fLst (aCons (dC .none) (aCons (dC (.bool true)) (aCons (dC (.bool false)) (aCons (dC (.str "")) (aCons (dC (.str "a")) (aCons (dC (.str "A")) (aCons (dC (.int 0)) (aCons (dUn (f1I fun i => .int (-i)) (dC (.int 1))) (aCons (dC (.int 5)) (aCons (dOp fAdd (dOp fPow (dC (.int 10)) (dC (.int 30))) (dC (.int 1))) (aCons (dN fTup aNil) (aCons (dN fLst aNil) (aCons dEmp (aCons (dN fTup (aCons (dC (.int 1)) aNil)) (aCons (dN fTup (aCons (dC (.str "a")) aNil)) (aCons (dN fTup (aCons (dC (.str "a")) (aCons (dC (.int 1)) (aCons (dC (.int 1)) aNil)))) (aCons (dN fLst (aCons (dC (.str "a")) (aCons (dC (.int 1)) aNil))) (aCons (dN fLst (aCons (dC (.int 1)) aNil)) aNil))))))))))))))))))))
    (sRet (dOp fIxL (dVar 1) (dCall 2 F_l_pour [] (aCons (dVar 0) (aCons (dC (.int 18)) aNil))))))
noncomputable def F_l_odd : Fd := fun ws st => nox (fnD 2 (d_l_odd) ws st)
theorem ok_l_odd (T : Tx K mg ct) : FnOk P w K mg base CX0 2 T.f_l_odd T.d_l_odd ["_law_jug_here"] (spD ⟨K, ct, ceL T.errs⟩ 1 F_l_odd) := by
  refine fnK (k := 1) T.F_l_odd sc_l_odd rfl fun cdv A outer s H E hr => ⟨_, (pss_cons (ps_set (i := 1) sc_l_odd.nd rfl (Or.inl rfl) (pe_lst (pa_cons pe_non (pa_cons pe_bl (pa_cons pe_bl (pa_cons pe_str (pa_cons pe_str (pa_cons pe_str (pa_cons pe_int (pa_cons (pe_un un_neg pe_int) (pa_cons pe_int (pa_cons (pe_op op_add (pe_op op_pow pe_int pe_int) pe_int) (pa_cons (pe_tup pa_nil) (pa_cons (pe_lst pa_nil) (pa_cons pe_dnewK (pa_cons (pe_tup (pa_cons pe_int pa_nil)) (pa_cons (pe_tup (pa_cons pe_str pa_nil)) (pa_cons (pe_tup (pa_cons pe_str (pa_cons pe_int (pa_cons pe_int pa_nil)))) (pa_cons (pe_lst (pa_cons pe_str (pa_cons pe_int pa_nil))) (pa_cons (pe_lst (pa_cons pe_int pa_nil)) pa_nil))))))))))))))))))))
      (pss_one (ps_ret (pe_ix (ix_listK K) (pv 1) (pe_call (ok_l_pour T) (hr.mono (by decide)) rfl T.v_l_pour T.k_l_pour T.b_l_pour .nil pass0 (pa_cons (pv 0) (pa_cons pe_int pa_nil))) (fun _ _ => rfl))))), ?_⟩
  exact (es_seq (es_set (ev_lst (ea_cons ev_non (ea_cons ev_bl (ea_cons ev_bl (ea_cons ev_str (ea_cons ev_str (ea_cons ev_str (ea_cons ev_int (ea_cons (ev_un q_neg ev_int) (ea_cons ev_int (ea_cons (ev_op q_add (ev_op q_pow ev_int ev_int) ev_int) (ea_cons (ev_tup ea_nil) (ea_cons (ev_lst ea_nil) (ea_cons ev_emp (ea_cons (ev_tup (ea_cons ev_int ea_nil)) (ea_cons (ev_tup (ea_cons ev_str ea_nil)) (ea_cons (ev_tup (ea_cons ev_str (ea_cons ev_int (ea_cons ev_int ea_nil)))) (ea_cons (ev_lst (ea_cons ev_str (ea_cons ev_int ea_nil))) (ea_cons (ev_lst (ea_cons ev_int ea_nil)) ea_nil))))))))))))))))))))
      (es_ret (ev_op q_ixL ev_var (ev_call no_ds (ea_cons ev_var (ea_cons ev_int ea_nil))))))
/-! ### _law_class -/
noncomputable def d_l_class (x : XI) : DnS :=
    (sSeq (sSet 1 (dN fLst (aCons (dIsX x [true, false, false] (dVar 0)) (aCons (dIsX x [false, false, false] (dVar 0)) (aCons (dIsX x [false, false, false] (dVar 0)) aNil)))))
    (sSeq (sSet 1 (dOp fCat (dVar 1) (dN fLst (aCons (dIsX x [false, false, false] (dVar 0)) (aCons (dIsX x [false, false, false] (dVar 0)) (aCons (dIsX x [false, false, false] (dVar 0)) aNil))))))
    (sSeq (sSet 1 (dOp fCat (dVar 1) (dN fLst (aCons (dIsX x [false, false, false] (dVar 0)) (aCons (dIsX x [false, false, false] (dVar 0)) (aCons (dIsX x [false, false, false] (dVar 0)) aNil))))))
    (sSeq (sSet 1 (dOp fCat (dVar 1) (dN fLst (aCons (dIsX x [false, true, false] (dVar 0)) (aCons (dIsX x [false, false, true] (dVar 0)) (aCons (dIsX x [false, false, false] (dVar 0)) aNil))))))
    (sSeq (sSet 1 (dOp fCat (dVar 1) (dN fLst (aCons (dIsX x [false, false, false] (dVar 0)) (aCons (dIsX x [false, false, false] (dVar 0)) (aCons (dIsX x [false, false, false] (dVar 0)) aNil))))))
    (sSeq (sSet 1 (dOp fCat (dVar 1) (dN fLst (aCons (dIsX x [false, false, false] (dVar 0)) (aCons (dIsX x [false, false, false] (dVar 0)) (aCons (dIsX x [false, false, false] (dVar 0)) aNil))))))
    (sSeq (sSet 1 (dOp fCat (dVar 1) (dN fLst (aCons (dIsX x [false, false, false] (dVar 0)) (aCons (dIsX x [false, false, false] (dVar 0)) (aCons (dIsX x [false, false, false] (dVar 0)) aNil))))))
    (sSeq (sIf (bT (dOp (fEq true) (dM isLst fCntB (dVar 1) (aCons (dC (.bool true)) aNil)) (dC (.int 1)))) (sRet (dUn (f1I fun i => .int (-i)) (dC (.int 1)))) sNext)
    (sSeq (sSet 2 (dM isLst fIdxB (dVar 1) (aCons (dC (.bool true)) aNil)))
    (sRet (dIf (bT (dOp (fEqD false) (dCallX 1 F_l_bases x (aCons (dVar 0) aNil)) (dN fLst (aCons (dOp fLt (dVar 2) (dC (.int 16))) (aCons (dOp (fEq false) (dVar 2) (dC (.int 16))) (aCons (dOp fGt (dVar 2) (dC (.int 16))) aNil)))))) (dVar 2) (dUn (f1I fun i => .int (-i)) (dC (.int 1))))))))))))))
noncomputable def F_l_class : XI → Fd := fun x ws st => nox (fnD 3 (d_l_class x) ws st)
theorem ok_l_class (T : Tx K mg ct) : FnE P w K mg base (ceL T.errs) 2 T.f_l_class T.d_l_class ["_law_e"] (fun x => spD ⟨K, ct, ceL T.errs⟩ 1 (F_l_class x)) := by
  refine fnE (cf := ⟨K, ct, ceL T.errs⟩) (k := 1) T.F_l_class sc_l_class rfl fun cdv A outer s H E p x hgd hr hx => ⟨_, (pss_cons (ps_set (i := 1) sc_l_class.nd rfl (Or.inl rfl) (pe_lst (pa_cons (pe_callB (call_isX hx) (by rfl) T.n_isinstance (by decide +kernel) (pa_cons (pv 0) (pa_cons (pe_glob (v := .ref T.C_InvalidText) rfl T.gE_InvalidText rfl) pa_nil))) (pa_cons (pe_callB (call_isX hx) (by rfl) T.n_isinstance (by decide +kernel) (pa_cons (pv 0) (pa_cons (pe_glob (v := .ref T.C_InvalidNumber) rfl T.gE_InvalidNumber rfl) pa_nil))) (pa_cons (pe_callB (call_isX hx) (by rfl) T.n_isinstance (by decide +kernel) (pa_cons (pv 0) (pa_cons (pe_glob (v := .ref T.C_InvalidName) rfl T.gE_InvalidName rfl) pa_nil))) pa_nil)))))
      (pss_cons (ps_set (i := 1) sc_l_class.nd rfl (Or.inl rfl) (pe_op op_cat (pv 1) (pe_lst (pa_cons (pe_callB (call_isX hx) (by rfl) T.n_isinstance (by decide +kernel) (pa_cons (pv 0) (pa_cons (pe_glob (v := .ref T.C_InvalidTables) rfl T.gE_InvalidTables rfl) pa_nil))) (pa_cons (pe_callB (call_isX hx) (by rfl) T.n_isinstance (by decide +kernel) (pa_cons (pv 0) (pa_cons (pe_glob (v := .ref T.C_InvalidRound) rfl T.gE_InvalidRound rfl) pa_nil))) (pa_cons (pe_callB (call_isX hx) (by rfl) T.n_isinstance (by decide +kernel) (pa_cons (pv 0) (pa_cons (pe_glob (v := .ref T.C_InvalidSchedule) rfl T.gE_InvalidSchedule rfl) pa_nil))) pa_nil))))))
      (pss_cons (ps_set (i := 1) sc_l_class.nd rfl (Or.inl rfl) (pe_op op_cat (pv 1) (pe_lst (pa_cons (pe_callB (call_isX hx) (by rfl) T.n_isinstance (by decide +kernel) (pa_cons (pv 0) (pa_cons (pe_glob (v := .ref T.C_InvalidWish) rfl T.gE_InvalidWish rfl) pa_nil))) (pa_cons (pe_callB (call_isX hx) (by rfl) T.n_isinstance (by decide +kernel) (pa_cons (pv 0) (pa_cons (pe_glob (v := .ref T.C_InvalidIndex) rfl T.gE_InvalidIndex rfl) pa_nil))) (pa_cons (pe_callB (call_isX hx) (by rfl) T.n_isinstance (by decide +kernel) (pa_cons (pv 0) (pa_cons (pe_glob (v := .ref T.C_NotAFair) rfl T.gE_NotAFair rfl) pa_nil))) pa_nil))))))
      (pss_cons (ps_set (i := 1) sc_l_class.nd rfl (Or.inl rfl) (pe_op op_cat (pv 1) (pe_lst (pa_cons (pe_callB (call_isX hx) (by rfl) T.n_isinstance (by decide +kernel) (pa_cons (pv 0) (pa_cons (pe_glob (v := .ref T.C_InvalidHosts) rfl T.gE_InvalidHosts rfl) pa_nil))) (pa_cons (pe_callB (call_isX hx) (by rfl) T.n_isinstance (by decide +kernel) (pa_cons (pv 0) (pa_cons (pe_glob (v := .ref T.C_InvalidGuests) rfl T.gE_InvalidGuests rfl) pa_nil))) (pa_cons (pe_callB (call_isX hx) (by rfl) T.n_isinstance (by decide +kernel) (pa_cons (pv 0) (pa_cons (pe_glob (v := .ref T.C_InvalidMeetings) rfl T.gE_InvalidMeetings rfl) pa_nil))) pa_nil))))))
      (pss_cons (ps_set (i := 1) sc_l_class.nd rfl (Or.inl rfl) (pe_op op_cat (pv 1) (pe_lst (pa_cons (pe_callB (call_isX hx) (by rfl) T.n_isinstance (by decide +kernel) (pa_cons (pv 0) (pa_cons (pe_glob (v := .ref T.C_InvalidUrgent) rfl T.gE_InvalidUrgent rfl) pa_nil))) (pa_cons (pe_callB (call_isX hx) (by rfl) T.n_isinstance (by decide +kernel) (pa_cons (pv 0) (pa_cons (pe_glob (v := .ref T.C_InvalidGrowth) rfl T.gE_InvalidGrowth rfl) pa_nil))) (pa_cons (pe_callB (call_isX hx) (by rfl) T.n_isinstance (by decide +kernel) (pa_cons (pv 0) (pa_cons (pe_glob (v := .ref T.C_InvalidChanges) rfl T.gE_InvalidChanges rfl) pa_nil))) pa_nil))))))
      (pss_cons (ps_set (i := 1) sc_l_class.nd rfl (Or.inl rfl) (pe_op op_cat (pv 1) (pe_lst (pa_cons (pe_callB (call_isX hx) (by rfl) T.n_isinstance (by decide +kernel) (pa_cons (pv 0) (pa_cons (pe_glob (v := .ref T.C_InvalidAsked) rfl T.gE_InvalidAsked rfl) pa_nil))) (pa_cons (pe_callB (call_isX hx) (by rfl) T.n_isinstance (by decide +kernel) (pa_cons (pv 0) (pa_cons (pe_glob (v := .ref T.C_UnknownName) rfl T.gE_UnknownName rfl) pa_nil))) (pa_cons (pe_callB (call_isX hx) (by rfl) T.n_isinstance (by decide +kernel) (pa_cons (pv 0) (pa_cons (pe_glob (v := .ref T.C_TooFewRounds) rfl T.gE_TooFewRounds rfl) pa_nil))) pa_nil))))))
      (pss_cons (ps_set (i := 1) sc_l_class.nd rfl (Or.inl rfl) (pe_op op_cat (pv 1) (pe_lst (pa_cons (pe_callB (call_isX hx) (by rfl) T.n_isinstance (by decide +kernel) (pa_cons (pv 0) (pa_cons (pe_glob (v := .ref T.C_TooMany) rfl T.gE_TooMany rfl) pa_nil))) (pa_cons (pe_callB (call_isX hx) (by rfl) T.n_isinstance (by decide +kernel) (pa_cons (pv 0) (pa_cons (pe_glob (v := .ref T.C_NothingToUndo) rfl T.gE_NothingToUndo rfl) pa_nil))) (pa_cons (pe_callB (call_isX hx) (by rfl) T.n_isinstance (by decide +kernel) (pa_cons (pv 0) (pa_cons (pe_glob (v := .ref T.C_Broken) rfl T.gE_Broken rfl) pa_nil))) pa_nil))))))
      (pss_cons (ps_if (pt_cmpR op_ne (pe_bmN K PySem.F.plainAttrs_list PySem.F.slot_list_count PySem.F.type_list_count mt_cntB (pv 1) (pa_cons pe_bl pa_nil)) pe_int (nomark _))
        (pss_one (ps_ret (pe_un un_neg pe_int)))
        pss_nil)
      (pss_cons (ps_set (i := 2) sc_l_class.nd rfl (Or.inl rfl) (pe_bmN K PySem.F.plainAttrs_list PySem.F.slot_list_index PySem.F.type_list_index mt_index (pv 1) (pa_cons pe_bl pa_nil)))
      (pss_one (ps_ret (pe_ifExp (pt_cmpR (op_eqDK K (uH hr)) (pe_callE hx (ok_l_bases T) (hr.mono (by decide)) rfl T.v_l_bases T.k_l_bases T.b_l_bases (pa_cons (pv 0) pa_nil)) (pe_lst (pa_cons (pe_cmpR op_lt (pv 2) pe_int (nomark _)) (pa_cons (pe_cmpR op_eq (pv 2) pe_int (nomark _)) (pa_cons (pe_cmpR op_gt (pv 2) pe_int (nomark _)) pa_nil)))) (nomark _)) (pv 2) (pe_un un_neg pe_int))))))))))))), ?_⟩
  exact (es_seq (es_set (ev_lst (ea_cons (ev_isX (l := T.errs) rfl (erqs T) (kxs_InvalidText T) (fun _ h => h) rfl rfl rfl ev_var) (ea_cons (ev_isX (l := T.errs) rfl (erqs T) (kxs_InvalidNumber T) (fun _ h => h) rfl rfl rfl ev_var) (ea_cons (ev_isX (l := T.errs) rfl (erqs T) (kxs_InvalidName T) (fun _ h => h) rfl rfl rfl ev_var) ea_nil)))))
      (es_seq (es_set (ev_op q_cat ev_var (ev_lst (ea_cons (ev_isX (l := T.errs) rfl (erqs T) (kxs_InvalidTables T) (fun _ h => h) rfl rfl rfl ev_var) (ea_cons (ev_isX (l := T.errs) rfl (erqs T) (kxs_InvalidRound T) (fun _ h => h) rfl rfl rfl ev_var) (ea_cons (ev_isX (l := T.errs) rfl (erqs T) (kxs_InvalidSchedule T) (fun _ h => h) rfl rfl rfl ev_var) ea_nil))))))
      (es_seq (es_set (ev_op q_cat ev_var (ev_lst (ea_cons (ev_isX (l := T.errs) rfl (erqs T) (kxs_InvalidWish T) (fun _ h => h) rfl rfl rfl ev_var) (ea_cons (ev_isX (l := T.errs) rfl (erqs T) (kxs_InvalidIndex T) (fun _ h => h) rfl rfl rfl ev_var) (ea_cons (ev_isX (l := T.errs) rfl (erqs T) (kxs_NotAFair T) (fun _ h => h) rfl rfl rfl ev_var) ea_nil))))))
      (es_seq (es_set (ev_op q_cat ev_var (ev_lst (ea_cons (ev_isX (l := T.errs) rfl (erqs T) (kxs_InvalidHosts T) (fun _ h => h) rfl rfl rfl ev_var) (ea_cons (ev_isX (l := T.errs) rfl (erqs T) (kxs_InvalidGuests T) (fun _ h => h) rfl rfl rfl ev_var) (ea_cons (ev_isX (l := T.errs) rfl (erqs T) (kxs_InvalidMeetings T) (fun _ h => h) rfl rfl rfl ev_var) ea_nil))))))
      (es_seq (es_set (ev_op q_cat ev_var (ev_lst (ea_cons (ev_isX (l := T.errs) rfl (erqs T) (kxs_InvalidUrgent T) (fun _ h => h) rfl rfl rfl ev_var) (ea_cons (ev_isX (l := T.errs) rfl (erqs T) (kxs_InvalidGrowth T) (fun _ h => h) rfl rfl rfl ev_var) (ea_cons (ev_isX (l := T.errs) rfl (erqs T) (kxs_InvalidChanges T) (fun _ h => h) rfl rfl rfl ev_var) ea_nil))))))
      (es_seq (es_set (ev_op q_cat ev_var (ev_lst (ea_cons (ev_isX (l := T.errs) rfl (erqs T) (kxs_InvalidAsked T) (fun _ h => h) rfl rfl rfl ev_var) (ea_cons (ev_isX (l := T.errs) rfl (erqs T) (kxs_UnknownName T) (fun _ h => h) rfl rfl rfl ev_var) (ea_cons (ev_isX (l := T.errs) rfl (erqs T) (kxs_TooFewRounds T) (fun _ h => h) rfl rfl rfl ev_var) ea_nil))))))
      (es_seq (es_set (ev_op q_cat ev_var (ev_lst (ea_cons (ev_isX (l := T.errs) rfl (erqs T) (kxs_TooMany T) (fun _ h => h) rfl rfl rfl ev_var) (ea_cons (ev_isX (l := T.errs) rfl (erqs T) (kxs_NothingToUndo T) (fun _ h => h) rfl rfl rfl ev_var) (ea_cons (ev_isX (l := T.errs) rfl (erqs T) (kxs_Broken T) (fun _ h => h) rfl rfl rfl ev_var) ea_nil))))))
      (es_seq (es_if (et_t (ev_op q_ne (ev_bm q_cntB ev_var (ea_cons ev_bl ea_nil)) ev_int))
        (es_ret (ev_un q_neg ev_int))
        es_next)
      (es_seq (es_set (ev_bm q_idxB ev_var (ea_cons ev_bl ea_nil)))
      (es_ret (ev_if (et_t (ev_op q_eqD (ev_callE rfl rfl rfl (ea_cons ev_var ea_nil)) (ev_lst (ea_cons (ev_op q_lt ev_var ev_int) (ea_cons (ev_op q_eq ev_var ev_int) (ea_cons (ev_op q_gt ev_var ev_int) ea_nil)))))) ev_var (ev_un q_neg ev_int))))))))))))
/-! ### _law_drawn -/
noncomputable def b_l_drawn_1 : DnS :=
    (sSet 1 (dOp fAddS (dVar 1) (dOp fIxS (dVar 2) (dCall 2 F_l_pour [] (aCons (dVar 0) (aCons (dIf (bAnd (bT (dOp (fEq false) (dVar 3) (dC (.int 0)))) (bT (dOp fGt (dCall 2 F_l_pour [] (aCons (dVar 0) (aCons (dC (.int 4)) aNil))) (dC (.int 0))))) (dC (.int 26)) (dC (.int 36))) aNil))))))
noncomputable def d_l_drawn : DnS :=
    (sSeq (sParL [1, 2] (aCons (dC (.str "")) (aCons (dC (.str "abcdefghijklmnopqrstuvwxyz0123456789")) aNil)))
    (sSeq (sFor (iR r1S (aCons (dOp fIxL (dN fLst (aCons (dC (.int 1)) (aCons (dC (.int 2)) (aCons (dC (.int 3)) (aCons (dC (.int 7)) (aCons (dC (.int 8)) (aCons (dC (.int 9)) (aCons (dC (.int 10)) (aCons (dC (.int 0)) aNil))))))))) (dCall 2 F_l_pour [] (aCons (dVar 0) (aCons (dC (.int 8)) aNil)))) aNil)) (gN 3) b_l_drawn_1)
    (sSeq (sIf (bT (dOp (fEq false) (dCall 2 F_l_pour [] (aCons (dVar 0) (aCons (dC (.int 3)) aNil))) (dC (.int 0)))) (sSeq (sSet 3 (dCall 2 F_l_pour [] (aCons (dVar 0) (aCons (dOp fAdd (dN (f1 fLenS) (aCons (dVar 1) aNil)) (dC (.int 1))) aNil))))
    (sSet 1 (dOp fAddS (dOp fAddS (dSl fSlS (dVar 1) oNone (oSome (dVar 3))) (dOp fIxL (dN fLst (aCons (dC (.str "A")) (aCons (dC (.str " ")) (aCons (dC (.str "\n")) (aCons (dC (.str "_")) (aCons (dC (.str "-")) (aCons (dC (.str ".")) (aCons (dC (.str "~")) aNil)))))))) (dCall 2 F_l_pour [] (aCons (dVar 0) (aCons (dC (.int 7)) aNil))))) (dSl fSlS (dVar 1) (oSome (dOp fAdd (dVar 3) (dCall 2 F_l_pour [] (aCons (dVar 0) (aCons (dC (.int 2)) aNil))))) oNone)))) sNext)
    (sRet (dVar 1)))))
noncomputable def F_l_drawn : Fd := fun ws st => nox (fnD 4 (d_l_drawn) ws st)
theorem ok_l_drawn (T : Tx K mg ct) : FnOk P w K mg base CX0 2 T.f_l_drawn T.d_l_drawn ["_law_jug_here"] (spD ⟨K, ct, ceL T.errs⟩ 1 F_l_drawn) := by
  refine fnK (k := 1) T.F_l_drawn sc_l_drawn rfl fun cdv A outer s H E hr => ⟨_, (pss_cons (ps_asg (pe_tup (pa_cons pe_str (pa_cons pe_str pa_nil))) (pg_tupK K rfl (pgs_cons (pg_name (i := 1) sc_l_drawn.nd rfl (Or.inl rfl)) (pgs_cons (pg_name (i := 2) sc_l_drawn.nd rfl (Or.inl rfl)) pgs_nil))))
      (pss_cons (ps_for PassesOwn.never rfl (pi_range1 rfl T.n_range (pa_cons (pe_ix (ix_listK K) (pe_lst (pa_cons pe_int (pa_cons pe_int (pa_cons pe_int (pa_cons pe_int (pa_cons pe_int (pa_cons pe_int (pa_cons pe_int (pa_cons pe_int pa_nil))))))))) (pe_call (ok_l_pour T) (hr.mono (by decide)) rfl T.v_l_pour T.k_l_pour T.b_l_pour .nil pass0 (pa_cons (pv 0) (pa_cons pe_int pa_nil))) (fun _ _ => rfl)) pa_nil)) (pg_name (i := 3) sc_l_drawn.nd rfl (Or.inl rfl))
        (pss_one (ps_set (i := 1) sc_l_drawn.nd rfl (Or.inl rfl) (pe_op op_add_str (pv 1) (pe_ix ix_str (pv 2) (pe_call (ok_l_pour T) (hr.mono (by decide)) rfl T.v_l_pour T.k_l_pour T.b_l_pour .nil pass0 (pa_cons (pv 0) (pa_cons (pe_ifExp (PW.pt (pw_and (pt_cmpR op_eq (pv 3) pe_int (nomark _)) (pw_and1 (pt_cmpR op_gt (pe_call (ok_l_pour T) (hr.mono (by decide)) rfl T.v_l_pour T.k_l_pour T.b_l_pour .nil pass0 (pa_cons (pv 0) (pa_cons pe_int pa_nil))) pe_int (nomark _))))) pe_int pe_int) pa_nil))) (fun _ _ => rfl))))))
      (pss_cons (ps_if (pt_cmpR op_eq (pe_call (ok_l_pour T) (hr.mono (by decide)) rfl T.v_l_pour T.k_l_pour T.b_l_pour .nil pass0 (pa_cons (pv 0) (pa_cons pe_int pa_nil))) pe_int (nomark _))
        (pss_cons (ps_set (i := 3) sc_l_drawn.nd rfl (Or.inl rfl) (pe_call (ok_l_pour T) (hr.mono (by decide)) rfl T.v_l_pour T.k_l_pour T.b_l_pour .nil pass0 (pa_cons (pv 0) (pa_cons (pe_op op_add (pe_callB call_len (by rfl) T.n_len PySem.boot_len (pa_cons (pv 1) pa_nil)) pe_int) pa_nil))))
      (pss_one (ps_set (i := 1) sc_l_drawn.nd rfl (Or.inl rfl) (pe_op op_add_str (pe_op op_add_str (pe_slice sl_str (pv 1) po_none (po_some (pv 3))) (pe_ix (ix_listK K) (pe_lst (pa_cons pe_str (pa_cons pe_str (pa_cons pe_str (pa_cons pe_str (pa_cons pe_str (pa_cons pe_str (pa_cons pe_str pa_nil)))))))) (pe_call (ok_l_pour T) (hr.mono (by decide)) rfl T.v_l_pour T.k_l_pour T.b_l_pour .nil pass0 (pa_cons (pv 0) (pa_cons pe_int pa_nil))) (fun _ _ => rfl))) (pe_slice sl_str (pv 1) (po_some (pe_op op_add (pv 3) (pe_call (ok_l_pour T) (hr.mono (by decide)) rfl T.v_l_pour T.k_l_pour T.b_l_pour .nil pass0 (pa_cons (pv 0) (pa_cons pe_int pa_nil))))) po_none)))))
        pss_nil)
      (pss_one (ps_ret (pv 1)))))), ?_⟩
  exact (es_seq (es_parT (is := [1, 2]) (by decide) (ea_cons ev_str (ea_cons ev_str ea_nil)))
      (es_seq (es_for (ei_r1 (ea_cons (ev_op q_ixL (ev_lst (ea_cons ev_int (ea_cons ev_int (ea_cons ev_int (ea_cons ev_int (ea_cons ev_int (ea_cons ev_int (ea_cons ev_int (ea_cons ev_int ea_nil))))))))) (ev_call no_ds (ea_cons ev_var (ea_cons ev_int ea_nil)))) ea_nil)) (eg_name (vs := [3]) rfl)
        (es_set (ev_op q_addS ev_var (ev_op q_ixS ev_var (ev_call no_ds (ea_cons ev_var (ea_cons (ev_if (et_and (et_t (ev_op q_eq ev_var ev_int)) (et_t (ev_op q_gt (ev_call no_ds (ea_cons ev_var (ea_cons ev_int ea_nil))) ev_int))) ev_int ev_int) ea_nil)))))))
      (es_seq (es_if (et_t (ev_op q_eq (ev_call no_ds (ea_cons ev_var (ea_cons ev_int ea_nil))) ev_int))
        (es_seq (es_set (ev_call no_ds (ea_cons ev_var (ea_cons (ev_op q_add (ev_cb q_lenS (ea_cons ev_var ea_nil)) ev_int) ea_nil))))
      (es_set (ev_op q_addS (ev_op q_addS (ev_sl q_slS ev_var eo_none (eo_some ev_var)) (ev_op q_ixL (ev_lst (ea_cons ev_str (ea_cons ev_str (ea_cons ev_str (ea_cons ev_str (ea_cons ev_str (ea_cons ev_str (ea_cons ev_str ea_nil)))))))) (ev_call no_ds (ea_cons ev_var (ea_cons ev_int ea_nil))))) (ev_sl q_slS ev_var (eo_some (ev_op q_add ev_var (ev_call no_ds (ea_cons ev_var (ea_cons ev_int ea_nil))))) eo_none))))
        es_next)
      (es_ret ev_var))))
/-! ### _fault -/
noncomputable def b_fault_1 : DnS :=
    (sSeq (sIf (bOr (bT (dOp (fEq false) (dVar 3) (dC (.int 4)))) (bOr (bNot (bT (dCall 1 F_is_member [] (aCons (dVar 4) aNil)))) (bT (dOp (fIn false) (dOp fIxT (dVar 4) (dC (.int 0))) (dVar 2))))) (sRet (dN fTup (aCons (dVar 3) aNil))) sNext)
    (sDrop (dM isLst (fChg gApp) (dVar 2) (aCons (dOp fIxT (dVar 4) (dC (.int 0))) aNil))))
noncomputable def d_fault : DnS :=
    (sSeq (sIf (bOr (bNot (bT (dN (f2 fIsi) (aCons (dVar 0) (aCons (dC (tyD "tuple")) aNil))))) (bNot (bTru (dVar 0)))) (sRet (dN fTup (aCons (dC .none) aNil))) sNext)
    (sSeq (sSet 2 (dLoc (dN (f1 fLstOf) (aCons (dVar 1) aNil))))
    (sSeq (sFor (iEnu true (dVar 0)) (gT 2 (gsCons (gN 3) (gsCons (gN 4) gsNil))) b_fault_1)
    (sRet (dN fTup aNil)))))
noncomputable def F_fault : Fd := fun ws st => nox (fnD 5 (d_fault) ws st)
theorem ok_fault (T : Tx K mg ct) : FnOk P w K mg base CX0 3 T.f_fault T.d_fault ["side", "taken"] (spD ⟨K, ct, ceL T.errs⟩ 2 F_fault) := by
  refine fnK (k := 2) T.F_fault sc_fault rfl fun cdv A outer s H E hr => ⟨_, (pss_cons (ps_if (PW.pt (pw_or (pt_not (pt_val (pe_callB (call_isiK K) (by rfl) T.n_isinstance (by decide +kernel) (pa_cons (pv 0) (pa_cons (pe_bltn (v := .ty "tuple") (by rfl) T.n_tuple (by decide +kernel) rfl) pa_nil))))) (pw_or1 (pt_not (pt_truK K (pv 0) (by intro _; rfl))))))
        (pss_one (ps_ret (pe_tup (pa_cons pe_non pa_nil))))
        pss_nil)
      (pss_cons (ps_set (i := 2) sc_fault.nd rfl (Or.inl rfl) (pe_callTy (call_lstOf K) (by rfl) T.n_list (by decide +kernel) (pa_cons (pv 1) pa_nil)))
      (pss_cons (ps_for PassesOwn.never rfl (pi_enTK K rfl T.n_enumerate (pv 0)) (pg_tupK K rfl (pgs_cons (pg_name (i := 3) sc_fault.nd rfl (Or.inl rfl)) (pgs_cons (pg_name (i := 4) sc_fault.nd rfl (Or.inl rfl)) pgs_nil)))
        (pss_cons (ps_if (PW.pt (pw_or (pt_cmpR op_eq (pv 3) (pe_glob (v := .int 4) rfl T.c_MOST_SIDE.choose_spec ⟨_, rfl⟩) (nomark _)) (pw_or (pt_not (pt_val (pe_call (ok_is_member T) (hr.mono (by decide)) rfl T.v_is_member T.k_is_member T.b_is_member .nil pass0 (pa_cons (pv 4) pa_nil)))) (pw_or1 (pt_cmpR (op_inK K) (pe_ix (ix_tupK K) (pv 4) pe_int (fun _ _ => rfl)) (pv 2) rfl)))))
        (pss_one (ps_ret (pe_tup (pa_cons (pv 3) pa_nil))))
        pss_nil)
      (pss_one (ps_expr (pe_bmN K PySem.F.plainAttrs_list PySem.F.slot_list_append PySem.F.type_list_append mt_append (pv 2) (pa_cons (pe_ix (ix_tupK K) (pv 4) pe_int (fun _ _ => rfl)) pa_nil))))))
      (pss_one (ps_ret (pe_tup pa_nil)))))), ?_⟩
  exact (es_seq (es_if (et_or (et_not (et_b (ev_cb (q_isi T.kt) (ea_cons ev_var (ea_cons (ev_c fun _ => .ty _) ea_nil))))) (et_not (et_truK ev_var)))
        (es_ret (ev_tup (ea_cons ev_non ea_nil)))
        es_next)
      (es_seq (es_set (ev_loc (ev_cb q_lstOf (ea_cons ev_var ea_nil))))
      (es_seq (es_for (ei_enT ev_var) (eg_tup (egs_cons (eg_name (vs := [3, 4]) rfl) (egs_cons (eg_name (vs := [3, 4]) rfl) egs_nil)))
        (es_seq (es_if (et_or (et_t (ev_op q_eq ev_var ev_int)) (et_or (et_not (et_b (ev_call no_ds (ea_cons ev_var ea_nil)))) (et_t (ev_op q_in (ev_op q_ixT ev_var ev_int) ev_var))))
        (es_ret (ev_tup (ea_cons ev_var ea_nil)))
        es_next)
      (es_drop (ev_bm q_app ev_var (ea_cons (ev_op q_ixT ev_var ev_int) ea_nil)))))
      (es_ret (ev_tup ea_nil)))))
/-! ### Fair.__init__ -/
noncomputable def d_Fairu_initu : DnS :=
    (sSeq (sSet 4 (dCall 2 F_fault [] (aCons (dVar 1) (aCons (dN fTup aNil) aNil))))
    (sSeq (sIf (bTru (dVar 4)) (sRs (eS 1) "index" (aCons (dOp fIxT (dVar 4) (dC (.int 0))) aNil)) sNext)
    (sSeq (sSet 4 (dCall 2 F_fault [] (aCons (dVar 2) (aCons (dCall 1 F_names_of [] (aCons (dVar 1) aNil)) aNil))))
    (sSeq (sIf (bTru (dVar 4)) (sRs (eS 2) "index" (aCons (dOp fIxT (dVar 4) (dC (.int 0))) aNil)) sNext)
    (sSeq (sIf (bAnd (bT (dOp (fIs true) (dVar 3) (dC .none))) (bNot (bT (dCall 3 F_is_integer [] (aCons (dVar 3) (aCons (dC (.int 1)) (aCons (dC (.int 12)) aNil))))))) sNo sNext)
    (sSeq (sFldD 0 "_hosts" (dVar 0) (dVar 1))
    (sSeq (sFldD 0 "_guests" (dVar 0) (dVar 2))
    (sSeq (sFldD 0 "_tables" (dVar 0) (dVar 3))
    (sSeq (sFldD 0 "_names" (dVar 0) (dOp fCatT (dCall 1 F_names_of [] (aCons (dVar 1) aNil)) (dCall 1 F_names_of [] (aCons (dVar 2) aNil))))
    (sFldD 0 "_text" (dVar 0) (dCall 3 F_text_of [] (aCons (dVar 1) (aCons (dVar 2) (aCons (dVar 3) aNil))))))))))))))
noncomputable def F_Fairu_initu : Fd := fnD 5 d_Fairu_initu
theorem ok_Fairu_initu (T : Tx K mg ct) : FnOk P w K mg base (L2.CX P w) 4 T.f_Fairu_initu T.d_Fairu_initu ["self", "hosts", "guests", "tables"] (spD ⟨K, ct, ceL T.errs⟩ 4 F_Fairu_initu) := by
  refine fnXD (cf := ⟨K, ct, ceL T.errs⟩) (k := 3) T.F_Fairu_initu sc_Fairu_initu rfl fun cdv A outer s H E hr => ⟨_, (pss_cons (ps_set (i := 4) sc_Fairu_initu.nd rfl (Or.inl rfl) (pe_call (ok_fault T) (hr.mono (by decide)) rfl T.v_fault T.k_fault T.b_fault .nil (passN (E := E)) (pa_cons (pv 1) (pa_cons (pe_tup pa_nil) pa_nil))))
      (pss_cons (ps_if (pt_truK K (pv 4) (by intro _; rfl))
        (pss_one (ps_rs rfl (takes_of rfl rfl rfl rfl) XE.okVE XE.fldN_index T.er_InvalidHosts hr (pa_cons (pe_ix (ix_tupK K) (pv 4) pe_int (fun _ _ => rfl)) pa_nil) rfl))
        pss_nil)
      (pss_cons (ps_set (i := 4) sc_Fairu_initu.nd rfl (Or.inl rfl) (pe_call (ok_fault T) (hr.mono (by decide)) rfl T.v_fault T.k_fault T.b_fault .nil (passN (E := E)) (pa_cons (pv 2) (pa_cons (pe_call (ok_names_of T) (hr.mono (by decide)) rfl T.v_names_of T.k_names_of T.b_names_of .nil (passN (E := E)) (pa_cons (pv 1) pa_nil)) pa_nil))))
      (pss_cons (ps_if (pt_truK K (pv 4) (by intro _; rfl))
        (pss_one (ps_rs rfl (takes_of rfl rfl rfl rfl) XE.okVE XE.fldN_index T.er_InvalidGuests hr (pa_cons (pe_ix (ix_tupK K) (pv 4) pe_int (fun _ _ => rfl)) pa_nil) rfl))
        pss_nil)
      (pss_cons (ps_if (PW.pt (pw_and (pt_cmpR op_notN (pv 3) pe_non (nomark _)) (pw_and1 (pt_not (pt_val (pe_call (ok_is_integer T) (hr.mono (by decide)) rfl T.v_is_integer T.k_is_integer T.b_is_integer .nil (passN (E := E)) (pa_cons (pv 3) (pa_cons pe_int (pa_cons (pe_glob (v := .int 12) rfl T.c_MOST_TABLES.choose_spec ⟨_, rfl⟩) pa_nil)))))))))
        (pss_one ps_never)
        pss_nil)
      (pss_cons (ps_fld (pv 0) (pv 1) rfl)
      (pss_cons (ps_fld (pv 0) (pv 2) rfl)
      (pss_cons (ps_fld (pv 0) (pv 3) rfl)
      (pss_cons (ps_fld (pv 0) (pe_op (op_catAK K) (pe_call (ok_names_of T) (hr.mono (by decide)) rfl T.v_names_of T.k_names_of T.b_names_of .nil (passN (E := E)) (pa_cons (pv 1) pa_nil)) (pe_call (ok_names_of T) (hr.mono (by decide)) rfl T.v_names_of T.k_names_of T.b_names_of .nil (passN (E := E)) (pa_cons (pv 2) pa_nil))) rfl)
      (pss_one (ps_fld (pv 0) (pe_call (ok_text_of T) (hr.mono (by decide)) rfl T.v_text_of T.k_text_of T.b_text_of .nil (passN (E := E)) (pa_cons (pv 1) (pa_cons (pv 2) (pa_cons (pv 3) pa_nil)))) rfl))))))))))), ?_⟩
  exact (es_seq (es_set (ev_call no_ds (ea_cons ev_var (ea_cons (ev_tup ea_nil) ea_nil))))
      (es_seq (es_if (et_truK ev_var)
        (es_rs rfl (ea_cons (ev_op q_ixT ev_var ev_int) ea_nil))
        es_next)
      (es_seq (es_set (ev_call no_ds (ea_cons ev_var (ea_cons (ev_call no_ds (ea_cons ev_var ea_nil)) ea_nil))))
      (es_seq (es_if (et_truK ev_var)
        (es_rs rfl (ea_cons (ev_op q_ixT ev_var ev_int) ea_nil))
        es_next)
      (es_seq (es_if (et_and (et_t (ev_op q_notN ev_var ev_non)) (et_not (et_b (ev_call no_ds (ea_cons ev_var (ea_cons ev_int (ea_cons ev_int ea_nil)))))))
        es_never
        es_next)
      (es_seq (es_fld T.ct_Fair T.cl_Fair.cl T.na_Fair_hosts ev_var ev_var)
      (es_seq (es_fld T.ct_Fair T.cl_Fair.cl T.na_Fair_guests ev_var ev_var)
      (es_seq (es_fld T.ct_Fair T.cl_Fair.cl T.na_Fair_tables ev_var ev_var)
      (es_seq (es_fld T.ct_Fair T.cl_Fair.cl T.na_Fair_names ev_var (ev_op q_catT (ev_call no_ds (ea_cons ev_var ea_nil)) (ev_call no_ds (ea_cons ev_var ea_nil))))
      (es_fld T.ct_Fair T.cl_Fair.cl T.na_Fair_text ev_var (ev_call no_ds (ea_cons ev_var (ea_cons ev_var (ea_cons ev_var ea_nil))))))))))))))
/-! ### Fair.read -/
noncomputable def d_Fair_read : DnS :=
    (sSeq (sIf (bNot (bT (dN (f2 fIsi) (aCons (dVar 1) (aCons (dC (tyD "str")) aNil))))) sNo sNext)
    (sSeq (sAsg (dCall 1 F_parts_of [] (aCons (dVar 1) aNil)) (gT 3 (gsCons (gN 2) (gsCons (gN 3) (gsCons (gN 4) gsNil)))))
    (sSeq (sIf (bOr (bTru (dCall 2 F_fault [] (aCons (dVar 2) (aCons (dN fTup aNil) aNil)))) (bTru (dCall 2 F_fault [] (aCons (dVar 3) (aCons (dCall 1 F_names_of [] (aCons (dVar 2) aNil)) aNil))))) (sRs (eS 0) "given" (aCons (dVar 1) aNil)) sNext)
    (sSeq (sIf (bT (dOp (fEq true) (dCall 3 F_text_of [] (aCons (dVar 2) (aCons (dVar 3) (aCons (dVar 4) aNil)))) (dVar 1))) sNo sNext)
    (sRet (dMakeV 0 4 0 (frzOb 0 ns_Fair) F_Fairu_initu [] (aCons (dVar 2) (aCons (dVar 3) (aCons (dVar 4) aNil)))))))))
noncomputable def F_Fair_read : Fd := fnD 5 d_Fair_read
theorem ok_Fair_read (T : Tx K mg ct) : FnOk P w K mg base (L2.CX P w) 6 T.f_Fair_read T.d_Fair_read ["cls", "text"] (spD ⟨K, ct, ceL T.errs⟩ 2 F_Fair_read) := by
  refine fnX (cf := ⟨K, ct, ceL T.errs⟩) (k := 5) T.F_Fair_read sc_Fair_read rfl fun cdv A outer s H E hr => ⟨_, (pss_cons (ps_if (pt_not (pt_val (pe_callB (call_isiK K) (by rfl) T.n_isinstance (by decide +kernel) (pa_cons (pv 1) (pa_cons (pe_bltn (v := .ty "str") (by rfl) T.n_str (by decide +kernel) rfl) pa_nil)))))
        (pss_one ps_never)
        pss_nil)
      (pss_cons (ps_asg (pe_call (ok_parts_of T) (hr.mono (by decide)) rfl T.v_parts_of T.k_parts_of T.b_parts_of .nil (passN (E := E)) (pa_cons (pv 1) pa_nil)) (pg_tupK K rfl (pgs_cons (pg_name (i := 2) sc_Fair_read.nd rfl (Or.inl rfl)) (pgs_cons (pg_name (i := 3) sc_Fair_read.nd rfl (Or.inl rfl)) (pgs_cons (pg_name (i := 4) sc_Fair_read.nd rfl (Or.inl rfl)) pgs_nil)))))
      (pss_cons (ps_if (PW.pt (pw_or (pt_truK K (pe_call (ok_fault T) (hr.mono (by decide)) rfl T.v_fault T.k_fault T.b_fault .nil (passN (E := E)) (pa_cons (pv 2) (pa_cons (pe_tup pa_nil) pa_nil))) (by intro _; rfl)) (pw_or1 (pt_truK K (pe_call (ok_fault T) (hr.mono (by decide)) rfl T.v_fault T.k_fault T.b_fault .nil (passN (E := E)) (pa_cons (pv 3) (pa_cons (pe_call (ok_names_of T) (hr.mono (by decide)) rfl T.v_names_of T.k_names_of T.b_names_of .nil (passN (E := E)) (pa_cons (pv 2) pa_nil)) pa_nil))) (by intro _; rfl)))))
        (pss_one (ps_rs rfl (takes_of rfl rfl rfl rfl) XE.okVE XE.fldN_given T.er_InvalidText hr (pa_cons (pv 1) pa_nil) rfl))
        pss_nil)
      (pss_cons (ps_if (pt_cmpR op_ne (pe_call (ok_text_of T) (hr.mono (by decide)) rfl T.v_text_of T.k_text_of T.b_text_of .nil (passN (E := E)) (pa_cons (pv 2) (pa_cons (pv 3) (pa_cons (pv 4) pa_nil)))) (pv 1) (nomark _))
        (pss_one ps_never)
        pss_nil)
      (pss_one (ps_ret (CM.pe_makeV (i := 0) T.M_Fair (ok_Fairu_initu T) (hr.mono (by decide)) T.b_Fairu_initu .nil (pass_of rfl rfl (takes_of rfl rfl rfl rfl)) rfl (Or.inl rfl) (pa_cons (pv 2) (pa_cons (pv 3) (pa_cons (pv 4) pa_nil)))))))))), ?_⟩
  exact (es_seq (es_if (et_not (et_b (ev_cb (q_isi T.kt) (ea_cons ev_var (ea_cons (ev_c fun _ => .ty _) ea_nil)))))
        es_never
        es_next)
      (es_seq (es_asg (ev_call no_ds (ea_cons ev_var ea_nil)) (eg_tup (egs_cons (eg_name (vs := [2, 3, 4]) rfl) (egs_cons (eg_name (vs := [2, 3, 4]) rfl) (egs_cons (eg_name (vs := [2, 3, 4]) rfl) egs_nil)))))
      (es_seq (es_if (et_or (et_truK (ev_call no_ds (ea_cons ev_var (ea_cons (ev_tup ea_nil) ea_nil)))) (et_truK (ev_call no_ds (ea_cons ev_var (ea_cons (ev_call no_ds (ea_cons ev_var ea_nil)) ea_nil)))))
        (es_rs rfl (ea_cons ev_var ea_nil))
        es_next)
      (es_seq (es_if (et_t (ev_op q_ne (ev_call no_ds (ea_cons ev_var (ea_cons ev_var (ea_cons ev_var ea_nil)))) ev_var))
        es_never
        es_next)
      (es_ret (ev_makeV T.ct_Fair (fin_frz T.ct_Fair) no_ds (ea_cons ev_var (ea_cons ev_var (ea_cons ev_var ea_nil)))))))))
/-! ### _law_told -/
noncomputable def u_l_told_1 : XI → DnS :=
    fun x =>
    (sSeq (sSet 4 (dCallX 1 F_l_class x (aCons (dVar 3) aNil)))
    (sRet (dN fLst (aCons (dOp fIxL (dOp fCat (dVar 1) (dN fLst (aCons (dC (.str "odd")) aNil))) (dVar 4)) (aCons (dN (f1 fRepr) (aCons (dCallX 2 F_l_keeps x (aCons (dVar 3) (aCons (dVar 4) aNil))) aNil)) aNil)))))
noncomputable def b_l_told (f : Nat) (lam : Sto → Rt W) : DnS :=
    (sSeq (sSet 1 (dN fLst (aCons (dC (.str "text")) (aCons (dC (.str "number")) (aCons (dC (.str "name")) (aCons (dC (.str "tables")) (aCons (dC (.str "round")) (aCons (dC (.str "schedule")) (aCons (dC (.str "wish")) (aCons (dC (.str "index")) (aCons (dC (.str "fair")) (aCons (dC (.str "hosts")) (aCons (dC (.str "guests")) aNil)))))))))))))
    (sSeq (sSet 1 (dOp fCat (dVar 1) (dN fLst (aCons (dC (.str "meetings")) (aCons (dC (.str "urgent")) (aCons (dC (.str "growth")) (aCons (dC (.str "changes")) (aCons (dC (.str "asked")) (aCons (dC (.str "unknown")) (aCons (dC (.str "few")) (aCons (dC (.str "many")) (aCons (dC (.str "undo")) (aCons (dC (.str "broken")) aNil)))))))))))))
    (sSeq (sTry f 3 2 3 lam u_l_told_1)
    (sRet (dN fLst (aCons (dC (.str "back")) (aCons (dN (f1 fRepr) (aCons (dVar 2) aNil)) aNil)))))))
theorem ok_l_told (T : Tx K mg ct) : ToldOk P w K mg base ⟨K, ct, ceL T.errs⟩ 7 "_law_told" s_l_told T.f_l_told ["_law_act", "_law_words", "_law_back", "_law_e", "_law_at"] "_law_act" b_l_told := fun cdv A outer s H E f lam m0 hgd hr act => by
  refine ⟨_, (pss_cons (ps_set (i := 1) sc_l_told.nd rfl (Or.inl rfl) (pe_lst (pa_cons pe_str (pa_cons pe_str (pa_cons pe_str (pa_cons pe_str (pa_cons pe_str (pa_cons pe_str (pa_cons pe_str (pa_cons pe_str (pa_cons pe_str (pa_cons pe_str (pa_cons pe_str pa_nil)))))))))))))
      (pss_cons (ps_set (i := 1) sc_l_told.nd rfl (Or.inl rfl) (pe_op op_cat (pv 1) (pe_lst (pa_cons pe_str (pa_cons pe_str (pa_cons pe_str (pa_cons pe_str (pa_cons pe_str (pa_cons pe_str (pa_cons pe_str (pa_cons pe_str (pa_cons pe_str (pa_cons pe_str pa_nil)))))))))))))
      (pss_cons (ps_told (f := f) (lam := lam) (m0 := m0) rfl rfl sc_l_told.nd (i := 3) (y := 2) rfl rfl ⟨rfl, by decide, T.gE_WrongValue⟩ ⟨rfl, by decide, T.gE_WrongName⟩ ⟨rfl, by decide, T.gE_NoAnswer⟩ rfl rfl rfl act (fun a oe C d pn hz hf => (pss_cons (ps_set (i := 4) sc_l_told.nd rfl (Or.inl rfl) (pe_callE ⟨rfl, List.mem_cons_self, rfl, hz, hf, hgd⟩ (ok_l_class T) ((uM hr).mono (by decide)) rfl T.v_l_class T.k_l_class T.b_l_class (pa_cons (pv 3) pa_nil)))
      (pss_one (ps_ret (pe_lst (pa_cons (pe_ix (ix_listK K) (pe_op op_cat (pv 1) (pe_lst (pa_cons pe_str pa_nil))) (pv 4) (fun _ _ => rfl)) (pa_cons (pe_callB (call_reprU K hgd (uH (uM hr))) (by rfl) T.n_repr (by decide +kernel) (pa_cons (pe_callE ⟨rfl, List.mem_cons_self, rfl, hz, hf, hgd⟩ (ok_l_keeps T) ((uM hr).mono (by decide)) rfl T.v_l_keeps T.k_l_keeps T.b_l_keeps (pa_cons (pv 3) (pa_cons (pv 4) pa_nil))) pa_nil)) pa_nil))))))))
      (pss_one (ps_ret (pe_lst (pa_cons pe_str (pa_cons (pe_callB (call_reprU K hgd hr.units) (by rfl) T.n_repr (by decide +kernel) (pa_cons (pv 2) pa_nil)) pa_nil)))))))), ?_⟩
  exact (es_seqF (EsF.of (es_set (ev_lst (ea_cons ev_str (ea_cons ev_str (ea_cons ev_str (ea_cons ev_str (ea_cons ev_str (ea_cons ev_str (ea_cons ev_str (ea_cons ev_str (ea_cons ev_str (ea_cons ev_str (ea_cons ev_str ea_nil))))))))))))))
      (es_seqF (EsF.of (es_set (ev_op q_cat ev_var (ev_lst (ea_cons ev_str (ea_cons ev_str (ea_cons ev_str (ea_cons ev_str (ea_cons ev_str (ea_cons ev_str (ea_cons ev_str (ea_cons ev_str (ea_cons ev_str (ea_cons ev_str ea_nil))))))))))))))
      (es_seqF (es_try (l := T.errs) rfl (xms T) (fun x => (es_seq (es_set (ev_callE rfl rfl rfl (ea_cons ev_var ea_nil)))
      (es_ret (ev_lst (ea_cons (ev_op q_ixL (ev_op q_cat ev_var (ev_lst (ea_cons ev_str ea_nil))) ev_var) (ea_cons (ev_cb q_repr (ea_cons (ev_callE rfl rfl rfl (ea_cons ev_var (ea_cons ev_var ea_nil))) ea_nil)) ea_nil)))))))
      (EsF.of (es_ret (ev_lst (ea_cons ev_str (ea_cons (ev_cb q_repr (ea_cons ev_var ea_nil)) ea_nil))))))))
/-! ### _law_right -/
noncomputable def c_l_right_1 (t_l_right : Nat) : Dn :=
    (dLc (iSeq srcW (dN fLst (aCons (dC (.str "y")) (aCons (dC (.str "y1")) (aCons (dC (.str "y2")) aNil))))) (gN 8) (bT (dOp fNeS (dVar 8) (dVar 2))) (dVar 8) [8])
noncomputable def m_l_right_2 (t_l_right : Nat) : Dn :=
    (dOp (fInOwn 0 ns_Fair F_Fairu_containsu) (dVar 2) (dMake 4 0 (frzOb 0 ns_Fair) F_Fairu_initu [.fz .none] (aCons (dN fTup (aCons (dN fTup (aCons (dOp fIxL (dVar 3) (dC (.int 0))) (aCons (dC (.int 1)) aNil))) (aCons (dN fTup (aCons (dVar 2) (aCons (dC (.int 2)) aNil))) aNil))) (aCons (dN fTup (aCons (dN fTup (aCons (dOp fIxL (dVar 3) (dC (.int 1))) (aCons (dC (.int 1)) aNil))) aNil)) aNil))))
noncomputable def m_l_right_3 (t_l_right : Nat) : Dn :=
    (dOp (fInOwn 0 ns_Fair F_Fairu_containsu) (dVar 2) (dMake 4 0 (frzOb 0 ns_Fair) F_Fairu_initu [] (aCons (dN fTup (aCons (dN fTup (aCons (dOp fIxL (dVar 3) (dC (.int 0))) (aCons (dC (.int 1)) aNil))) aNil)) (aCons (dN fTup (aCons (dN fTup (aCons (dVar 2) (aCons (dC (.int 4)) aNil))) aNil)) (aCons (dC (.int 3)) aNil)))))
noncomputable def m_l_right_4 (t_l_right : Nat) : Dn :=
    (dN (f1 (fStrOwn 0 ns_Fair F_Fairu_stru)) (aCons (dCMeth 0 2 F_Fair_read (dC (clsD 0)) (aCons (dVar 7) aNil)) aNil))
noncomputable def b_l_right_5 (t_l_right : Nat) : DnS :=
    (sSeq (sSet 2 (dIf (bT (dOp fGt (dCall 2 F_l_pour [] (aCons (dVar 0) (aCons (dC (.int 5)) aNil))) (dC (.int 0)))) (dCall 1 F_l_drawn [] (aCons (dVar 0) aNil)) (dCall 1 F_l_odd [] (aCons (dVar 0) aNil))))
    (sSeq (sSet 3 (c_l_right_1 t_l_right))
    (sSeq (sSet 4 (dMake 4 0 (frzOb 0 ns_Fair) F_Fairu_initu [.fz .none] (aCons (dN fTup (aCons (dN fTup (aCons (dOp fIxL (dVar 3) (dC (.int 0))) (aCons (dC (.int 1)) aNil))) aNil)) (aCons (dN fTup (aCons (dN fTup (aCons (dOp fIxL (dVar 3) (dC (.int 1))) (aCons (dC (.int 2)) aNil))) aNil)) aNil))))
    (sSeq (sIf (bT (dOp (fEq true) (dN (f1 fRepr) (aCons (dOp (fInOwn 0 ns_Fair F_Fairu_containsu) (dVar 2) (dVar 4)) aNil)) (dN (f1 fRepr) (aCons (dC (.bool false)) aNil)))) (sRet (dC (.bool false))) sNext)
    (sSeq (sSet 5 (dLoc (dN fLst (aCons (dTold 0 t_l_right (("_law_right" : Str) ++ ".<locals>." ++ "<lambda>") (m_l_right_2 t_l_right) 5 b_l_told) aNil))))
    (sSeq (sDrop (dM isLst (fChg gApp) (dVar 5) (aCons (dTold 0 t_l_right (("_law_right" : Str) ++ ".<locals>." ++ "<lambda>") (m_l_right_3 t_l_right) 5 b_l_told) aNil)))
    (sSeq (sSet 6 (dIf (bT (dCall 1 F_l_is_name [] (aCons (dVar 2) aNil))) (dOp fRep (dN fLst (aCons (dN fLst (aCons (dC (.str "back")) (aCons (dC (.str "True")) aNil))) aNil)) (dC (.int 2))) (dN fLst (aCons (dN fLst (aCons (dC (.str "hosts")) (aCons (dC (.str "1")) aNil))) (aCons (dN fLst (aCons (dC (.str "guests")) (aCons (dC (.str "0")) aNil))) aNil)))))
    (sSeq (sIf (bT (dOp (fEqD true) (dVar 5) (dVar 6))) (sRet (dC (.bool false))) sNext)
    (sIf (bT (dN (f2 fIsi) (aCons (dVar 2) (aCons (dC (tyD "str")) aNil)))) (sSeq (sSet 7 (dOp fAddS (dOp fAddS (dOp fAddS (dOp fAddS (dC (.str "host ")) (dVar 2)) (dC (.str " 3\nguest "))) (dOp fIxL (dVar 3) (dC (.int 0)))) (dC (.str " 1"))))
    (sSeq (sSet 6 (dIf (bT (dCall 1 F_l_is_name [] (aCons (dVar 2) aNil))) (dN fLst (aCons (dC (.str "back")) (aCons (dN (f1 fRepr) (aCons (dVar 7) aNil)) aNil))) (dN fLst (aCons (dC (.str "text")) (aCons (dN (f1 fRepr) (aCons (dVar 7) aNil)) aNil)))))
    (sIf (bT (dOp (fEqD true) (dTold 0 t_l_right (("_law_right" : Str) ++ ".<locals>." ++ "<lambda>") (m_l_right_4 t_l_right) 5 b_l_told) (dVar 6))) (sRet (dC (.bool false))) sNext))) sNext)))))))))
noncomputable def d_l_right (t_l_right : Nat) : DnS :=
    (sSeq (sFor (iR r1S (aCons (dC (.int 6)) aNil)) (gN 1) (b_l_right_5 t_l_right))
    (sRet (dC (.bool true))))
noncomputable def F_l_right (t_l_right : Nat) : Fd := fun ws st => nox (fnD 9 (d_l_right t_l_right) ws st)
theorem ok_l_right (T : Tx K mg ct) (TB : ∀ p ∈ T.tabs, LamX.TabB base mg p.1 p.2) : FnG P w K mg base CX0 9 T.f_l_right T.d_l_right ["_law_jug_here"] (spD ⟨K, ct, ceL T.errs⟩ 1 (F_l_right T.P_l_right)) := by
  refine fnQL (cf := ⟨K, ct, ceL T.errs⟩) (k := 8) T.F_l_right sc_l_right rfl T.cd_l_right fun cdv A outer s H E hcd hgd hr => ⟨_, (pss_cons (ps_for PassesOwn.never rfl (pi_range1 rfl T.n_range (pa_cons pe_int pa_nil)) (pg_name (i := 1) sc_l_right.nd rfl (Or.inl rfl))
        (pss_cons (ps_set (i := 2) sc_l_right.nd rfl (Or.inr rfl) (pe_ifExp (pt_cmpR op_gt (pe_call (ok_l_pour T) (hr.mono (by decide)) rfl T.v_l_pour T.k_l_pour T.b_l_pour .nil pass0 (pa_cons (pv 0) (pa_cons pe_int pa_nil))) pe_int (nomark _)) (pe_call (ok_l_drawn T) (hr.mono (by decide)) rfl T.v_l_drawn T.k_l_drawn T.b_l_drawn .nil pass0 (pa_cons (pv 0) pa_nil)) (pe_call (ok_l_odd T) (hr.mono (by decide)) rfl T.v_l_odd T.k_l_odd T.b_l_odd .nil pass0 (pa_cons (pv 0) pa_nil))))
      (pss_cons (ps_set (i := 3) sc_l_right.nd rfl (Or.inr rfl) (pe_lc (own := [("_law_each", 8)]) (g := gName 8) rfl sc_l_right.nd (pi_listK K (pe_lst (pa_cons pe_str (pa_cons pe_str (pa_cons pe_str pa_nil))))) (blkOk_by (own := [("_law_each", 8)]) (N := ["_law_jug_here", "_law_turn", "_law_word", "_law_others", "_law_base", "_law_told_here", "_law_due", "_law_page", "_law_each"]) (sc := defScope s_l_right) (by decide +kernel)) (fun _ _ _ _ _ => (pg_name (i := 8) sc_l_right.nd rfl (Or.inl rfl))) (fun _ _ _ _ _ => (pts_one (pt_cmpR (op_neS K hr.units) (pv 8) (pv 2) (nomark _)))) (fun _ _ _ _ _ => (pv 8))))
      (pss_cons (ps_set (i := 4) sc_l_right.nd rfl (Or.inl rfl) (pe_make T.M_Fair (ok_Fairu_initu T) (hr.mono (by decide)) rfl T.g_Fair T.bd_Fairu_initu_1.choose_spec.2 T.bd_Fairu_initu_1.choose_spec.1 passNo (pa_cons (pe_tup (pa_cons (pe_tup (pa_cons (pe_ix (ix_listK K) (pv 3) pe_int (fun _ _ => rfl)) (pa_cons pe_int pa_nil))) pa_nil)) (pa_cons (pe_tup (pa_cons (pe_tup (pa_cons (pe_ix (ix_listK K) (pv 3) pe_int (fun _ _ => rfl)) (pa_cons pe_int pa_nil))) pa_nil)) pa_nil))))
      (pss_cons (ps_if (pt_cmpR op_ne (pe_callB (call_reprU K hgd hr.units) (by rfl) T.n_repr (by decide +kernel) (pa_cons (pe_cmpR (op_inOwn T.mt_Fairu_containsu (ok_Fairu_containsu T) (hr.mono (by decide)) T.b_Fairu_containsu pass0) (pv 2) (pv 4) rfl) pa_nil)) (pe_callB (call_reprU K hgd hr.units) (by rfl) T.n_repr (by decide +kernel) (pa_cons pe_bl pa_nil)) (nomark _))
        (pss_one (ps_ret pe_bl))
        pss_nil)
      (pss_cons (ps_set (i := 5) sc_l_right.nd rfl (Or.inl rfl) (pe_lst (pa_cons (pe_told (k := 6) (kt := 0) rfl rfl T.F_l_told sc_l_told rfl (by first | exact Or.inl rfl | exact Or.inr (Or.inl rfl)) rfl T.v_l_told T.k_l_told T.b_l_told (ok_l_told T) (TB _ List.mem_cons_self) hcd (hr.mono (by decide)) hgd (LamX.lamS_by (sc := defScope s_l_right) (by decide +kernel)) rfl (fun _ _ _ _ _ => rfl)
          (fun A outer s H E f c hg2 hr2 => ⟨_, (pe_cmpR (op_inOwn T.mt_Fairu_containsu (ok_Fairu_containsu T) (hr2.mono (j := 1) (by decide)) T.b_Fairu_containsu (passN (E := E))) (pv 2) (pe_make T.M_Fair (ok_Fairu_initu T) (hr2.mono (j := 5) (by decide)) rfl T.g_Fair T.bd_Fairu_initu_1.choose_spec.2 T.bd_Fairu_initu_1.choose_spec.1 (pass_of rfl rfl (takes_of rfl rfl rfl rfl)) (pa_cons (pe_tup (pa_cons (pe_tup (pa_cons (pe_ix (ix_listK K) (pv 3) pe_int (fun _ _ => rfl)) (pa_cons pe_int pa_nil))) (pa_cons (pe_tup (pa_cons (pv 2) (pa_cons pe_int pa_nil))) pa_nil))) (pa_cons (pe_tup (pa_cons (pe_tup (pa_cons (pe_ix (ix_listK K) (pv 3) pe_int (fun _ _ => rfl)) (pa_cons pe_int pa_nil))) pa_nil)) pa_nil))) rfl), (ev_op (q_inOwn T.ct_Fair) ev_var (ev_make T.ct_Fair (fin_frz T.ct_Fair) non_ds (ea_cons (ev_tup (ea_cons (ev_tup (ea_cons (ev_op q_ixL ev_var ev_int) (ea_cons ev_int ea_nil))) (ea_cons (ev_tup (ea_cons ev_var (ea_cons ev_int ea_nil))) ea_nil))) (ea_cons (ev_tup (ea_cons (ev_tup (ea_cons (ev_op q_ixL ev_var ev_int) (ea_cons ev_int ea_nil))) ea_nil)) ea_nil))))⟩)) pa_nil)))
      (pss_cons (ps_expr (pe_bmN K PySem.F.plainAttrs_list PySem.F.slot_list_append PySem.F.type_list_append mt_append (pv 5) (pa_cons (pe_told (k := 6) (kt := 0) rfl rfl T.F_l_told sc_l_told rfl (by first | exact Or.inl rfl | exact Or.inr (Or.inl rfl)) rfl T.v_l_told T.k_l_told T.b_l_told (ok_l_told T) (TB _ List.mem_cons_self) hcd (hr.mono (by decide)) hgd (LamX.lamS_by (sc := defScope s_l_right) (by decide +kernel)) rfl (fun _ _ _ _ _ => rfl)
          (fun A outer s H E f c hg2 hr2 => ⟨_, (pe_cmpR (op_inOwn T.mt_Fairu_containsu (ok_Fairu_containsu T) (hr2.mono (j := 1) (by decide)) T.b_Fairu_containsu (passN (E := E))) (pv 2) (pe_make T.M_Fair (ok_Fairu_initu T) (hr2.mono (j := 5) (by decide)) rfl T.g_Fair T.b_Fairu_initu .nil (pass_of rfl rfl (takes_of rfl rfl rfl rfl)) (pa_cons (pe_tup (pa_cons (pe_tup (pa_cons (pe_ix (ix_listK K) (pv 3) pe_int (fun _ _ => rfl)) (pa_cons pe_int pa_nil))) pa_nil)) (pa_cons (pe_tup (pa_cons (pe_tup (pa_cons (pv 2) (pa_cons pe_int pa_nil))) pa_nil)) (pa_cons pe_int pa_nil)))) rfl), (ev_op (q_inOwn T.ct_Fair) ev_var (ev_make T.ct_Fair (fin_frz T.ct_Fair) no_ds (ea_cons (ev_tup (ea_cons (ev_tup (ea_cons (ev_op q_ixL ev_var ev_int) (ea_cons ev_int ea_nil))) ea_nil)) (ea_cons (ev_tup (ea_cons (ev_tup (ea_cons ev_var (ea_cons ev_int ea_nil))) ea_nil)) (ea_cons ev_int ea_nil)))))⟩)) pa_nil)))
      (pss_cons (ps_set (i := 6) sc_l_right.nd rfl (Or.inl rfl) (pe_ifExp (pt_val (pe_call (ok_l_is_name T) (hr.mono (by decide)) rfl T.v_l_is_name T.k_l_is_name T.b_l_is_name .nil pass0 (pa_cons (pv 2) pa_nil))) (pe_op op_rep (pe_lst (pa_cons (pe_lst (pa_cons pe_str (pa_cons pe_str pa_nil))) pa_nil)) pe_int) (pe_lst (pa_cons (pe_lst (pa_cons pe_str (pa_cons pe_str pa_nil))) (pa_cons (pe_lst (pa_cons pe_str (pa_cons pe_str pa_nil))) pa_nil)))))
      (pss_cons (ps_if (pt_cmpR (op_neDK K hr.units) (pv 5) (pv 6) (nomark _))
        (pss_one (ps_ret pe_bl))
        pss_nil)
      (pss_one (ps_if (pt_val (pe_callB (call_isiK K) (by rfl) T.n_isinstance (by decide +kernel) (pa_cons (pv 2) (pa_cons (pe_bltn (v := .ty "str") (by rfl) T.n_str (by decide +kernel) rfl) pa_nil))))
        (pss_cons (ps_set (i := 7) sc_l_right.nd rfl (Or.inr rfl) (pe_op op_add_str (pe_op op_add_str (pe_op op_add_str (pe_op op_add_str pe_str (pv 2)) pe_str) (pe_ix (ix_listK K) (pv 3) pe_int (fun _ _ => rfl))) pe_str))
      (pss_cons (ps_set (i := 6) sc_l_right.nd rfl (Or.inl rfl) (pe_ifExp (pt_val (pe_call (ok_l_is_name T) (hr.mono (by decide)) rfl T.v_l_is_name T.k_l_is_name T.b_l_is_name .nil pass0 (pa_cons (pv 2) pa_nil))) (pe_lst (pa_cons pe_str (pa_cons (pe_callB (call_reprU K hgd hr.units) (by rfl) T.n_repr (by decide +kernel) (pa_cons (pv 7) pa_nil)) pa_nil))) (pe_lst (pa_cons pe_str (pa_cons (pe_callB (call_reprU K hgd hr.units) (by rfl) T.n_repr (by decide +kernel) (pa_cons (pv 7) pa_nil)) pa_nil)))))
      (pss_one (ps_if (pt_cmpR (op_neDK K hr.units) (pe_told (k := 6) (kt := 0) rfl rfl T.F_l_told sc_l_told rfl (by first | exact Or.inl rfl | exact Or.inr (Or.inl rfl)) rfl T.v_l_told T.k_l_told T.b_l_told (ok_l_told T) (TB _ List.mem_cons_self) hcd (hr.mono (by decide)) hgd (LamX.lamS_by (sc := defScope s_l_right) (by decide +kernel)) rfl (fun _ _ _ _ _ => rfl)
          (fun A outer s H E f c hg2 hr2 => ⟨_, (pe_callTy (call_strOwn T.mt_Fairu_stru (ok_Fairu_stru T) (hr2.mono (j := 3) (by decide)) T.b_Fairu_stru (passN (E := E))) (by rfl) T.n_str (by decide +kernel) (pa_cons (ClX.pe_cmeth (pe_glob (v := .ref T.C_Fair) rfl T.g_Fair rfl) T.cr_Fair T.cm_Fair_read (rawN (ok_Fair_read T) T.b_Fair_read) (hr2.mono (j := 6) (by decide)) (pass_of rfl rfl (takes_of rfl rfl rfl rfl)) (pa_cons (pv 7) pa_nil)) pa_nil)), (ev_cb (q_strOwn T.ct_Fair) (ea_cons (ev_cmeth T.ct_Fair (ev_c fun _ => .cls T.ct_Fair) (ea_cons ev_var ea_nil)) ea_nil))⟩)) (pv 6) (nomark _))
        (pss_one (ps_ret pe_bl))
        pss_nil))))
        pss_nil)))))))))))
      (pss_one (ps_ret pe_bl))), ?_⟩
  exact (es_seq (es_for (ei_r1 (ea_cons ev_int ea_nil)) (eg_name (vs := [1]) rfl)
        (es_seq (es_set (ev_if (et_t (ev_op q_gt (ev_call no_ds (ea_cons ev_var (ea_cons ev_int ea_nil))) ev_int)) (ev_call no_ds (ea_cons ev_var ea_nil)) (ev_call no_ds (ea_cons ev_var ea_nil))))
      (es_seq (es_set (ev_lc (ei_list (ev_lst (ea_cons ev_str (ea_cons ev_str (ea_cons ev_str ea_nil))))) (eg_name (vs := [8]) rfl) (et_t (ev_op q_neS ev_var ev_var)) ev_var))
      (es_seq (es_set (ev_make T.ct_Fair (fin_frz T.ct_Fair) non_ds (ea_cons (ev_tup (ea_cons (ev_tup (ea_cons (ev_op q_ixL ev_var ev_int) (ea_cons ev_int ea_nil))) ea_nil)) (ea_cons (ev_tup (ea_cons (ev_tup (ea_cons (ev_op q_ixL ev_var ev_int) (ea_cons ev_int ea_nil))) ea_nil)) ea_nil))))
      (es_seq (es_if (et_t (ev_op q_ne (ev_cb q_repr (ea_cons (ev_op (q_inOwn T.ct_Fair) ev_var ev_var) ea_nil)) (ev_cb q_repr (ea_cons ev_bl ea_nil))))
        (es_ret ev_bl)
        es_next)
      (es_seq (es_set (ev_loc (ev_lst (ea_cons ev_told ea_nil))))
      (es_seq (es_drop (ev_bm q_app ev_var (ea_cons ev_told ea_nil)))
      (es_seq (es_set (ev_if (et_b (ev_call no_ds (ea_cons ev_var ea_nil))) (ev_op q_rep (ev_lst (ea_cons (ev_lst (ea_cons ev_str (ea_cons ev_str ea_nil))) ea_nil)) ev_int) (ev_lst (ea_cons (ev_lst (ea_cons ev_str (ea_cons ev_str ea_nil))) (ea_cons (ev_lst (ea_cons ev_str (ea_cons ev_str ea_nil))) ea_nil)))))
      (es_seq (es_if (et_t (ev_op q_neD ev_var ev_var))
        (es_ret ev_bl)
        es_next)
      (es_if (et_b (ev_cb (q_isi T.kt) (ea_cons ev_var (ea_cons (ev_c fun _ => .ty _) ea_nil))))
        (es_seq (es_set (ev_op q_addS (ev_op q_addS (ev_op q_addS (ev_op q_addS ev_str ev_var) ev_str) (ev_op q_ixL ev_var ev_int)) ev_str))
      (es_seq (es_set (ev_if (et_b (ev_call no_ds (ea_cons ev_var ea_nil))) (ev_lst (ea_cons ev_str (ea_cons (ev_cb q_repr (ea_cons ev_var ea_nil)) ea_nil))) (ev_lst (ea_cons ev_str (ea_cons (ev_cb q_repr (ea_cons ev_var ea_nil)) ea_nil)))))
      (es_if (et_t (ev_op q_neD ev_told ev_var))
        (es_ret ev_bl)
        es_next)))
        es_next))))))))))
      (es_ret ev_bl))
/-! ### law -/
noncomputable def b_law_1 (t_l_right : Nat) : DnS :=
    (sIf (bNot (bT (dCall 1 (F_l_right t_l_right) [] (aCons (dLoc (dCall 2 F_l_jug [] (aCons (dVar 0) (aCons (dVar 1) aNil)))) aNil)))) (sRet (dC (.bool false))) sNext)
noncomputable def d_law (t_l_right : Nat) : DnS :=
    (sSeq (sFor (iR r1S (aCons (dN (f2 (f2I (fun _ _ => true) fun i j => .int (if j > i then j else i))) (aCons (dC (.int 2)) (aCons (dN (f2 (f2I (fun _ _ => true) fun i j => .int (if j < i then j else i))) (aCons (dN (f1 fLen) (aCons (dVar 0) aNil)) (aCons (dC (.int 5)) aNil))) aNil))) aNil)) (gN 1) (b_law_1 t_l_right))
    (sRet (dC (.bool true))))
noncomputable def F_law (t_l_right : Nat) : Fd := fun ws st => nox (fnD 2 (d_law t_l_right) ws st)
theorem ok_law (T : Tx K mg ct) (TB : ∀ p ∈ T.tabs, LamX.TabB base mg p.1 p.2) : FnG P w K mg base CX0 10 T.f_law T.d_law ["_law_script"] (spD ⟨K, ct, ceL T.errs⟩ 1 (F_law T.P_l_right)) := by
  refine fnQ (k := 9) T.F_law sc_law rfl fun cdv A outer s H E hgd hr => ⟨_, (pss_cons (ps_for PassesOwn.never rfl (pi_range1 rfl T.n_range (pa_cons (pe_callB (call_max2 rfl) (by rfl) T.n_max (by decide +kernel) (pa_cons pe_int (pa_cons (pe_callB (call_min2 rfl) (by rfl) T.n_min (by decide +kernel) (pa_cons (pe_callB (call_lenQ K) (by rfl) T.n_len PySem.boot_len (pa_cons (pv 0) pa_nil)) (pa_cons pe_int pa_nil))) pa_nil))) pa_nil)) (pg_name (i := 1) sc_law.nd rfl (Or.inl rfl))
        (pss_one (ps_if (pt_not (pt_val (pe_callG (ok_l_right T TB) hgd (hr.mono (by decide)) rfl T.v_l_right T.k_l_right T.b_l_right .nil pass0 (pa_cons (pe_call (ok_l_jug T) (hr.mono (by decide)) rfl T.v_l_jug T.k_l_jug T.b_l_jug .nil pass0 (pa_cons (pv 0) (pa_cons (pv 1) pa_nil))) pa_nil))))
        (pss_one (ps_ret pe_bl))
        pss_nil)))
      (pss_one (ps_ret pe_bl))), ?_⟩
  exact (es_seq (es_for (ei_r1 (ea_cons (ev_cb q_max2 (ea_cons ev_int (ea_cons (ev_cb q_min2 (ea_cons (ev_cb q_len (ea_cons ev_var ea_nil)) (ea_cons ev_int ea_nil))) ea_nil))) ea_nil)) (eg_name (vs := [1]) rfl)
        (es_if (et_not (et_b (ev_call no_ds (ea_cons (ev_loc (ev_call no_ds (ea_cons ev_var (ea_cons ev_var ea_nil)))) ea_nil))))
        (es_ret ev_bl)
        es_next))
      (es_ret ev_bl))
end
end K08
/-! MU: names and words, pure. -/
namespace MU
open PySem PySem.Spec PyProof.Rows L2 MG QD
def lowB (c : Nat) : Bool := decide (97 ≤ c ∧ c ≤ 122)
def signB (c : Nat) : Bool := lowB c || decide (48 ≤ c ∧ c ≤ 57)
def nameL : List Nat → Bool
  | [] => false
  | c :: r => lowB c && decide (r.length ≤ 7) && r.all signB
def Nm (x : Str) : Prop := nameL x.cps.toList = true
abbrev SIGNS : Str := "abcdefghijklmnopqrstuvwxyz0123456789"
theorem signs_at : ∀ i : _root_.Fin 36, ∃ c : Nat, SIGNS.cps.toList[i.val]? = some c ∧ signB c = true ∧ (i.val < 26 → lowB c = true) := by
  have h : ∀ i : _root_.Fin 36, SIGNS.cps.toList[i.val]? = some (SIGNS.cps.toList.getD i.val 0) ∧ signB (SIGNS.cps.toList.getD i.val 0) = true ∧ (i.val < 26 → lowB (SIGNS.cps.toList.getD i.val 0) = true) := by decide +kernel
  exact fun i => ⟨_, h i⟩
theorem atI_nat {α : Type} {xs : List α} {i : Int} {x : α} (h0 : 0 ≤ i) (h : xs[i.toNat]? = some x) : atI xs i = some x := by
  have hk : i.toNat < xs.length := (List.getElem?_eq_some_iff.mp h).1
  unfold atI ixN
  rw [if_pos h0, if_pos (by omega)]
  exact h
theorem sign_pick {i : Int} (h0 : 0 ≤ i) (h : i < 36) : ∃ c, atI SIGNS.cps.toList i = some c ∧ signB c = true ∧ (i < 26 → lowB c = true) := by
  obtain ⟨c, h1, h2, h3⟩ := signs_at ⟨i.toNat, by omega⟩
  exact ⟨c, atI_nat h0 h1, h2, fun q => h3 (show i.toNat < 26 by omega)⟩
theorem app_cps (x y : Str) : (x ++ y).cps.toList = x.cps.toList ++ y.cps.toList := by
  show (x.cps ++ y.cps).toList = _
  rw [Array.toList_append]
def Grown (x : Str) (i : Nat) : Prop := ∃ c r, x.cps.toList = c :: r ∧ lowB c = true ∧ r.length = i ∧ r.all signB = true
theorem Grown.nm {x : Str} {i : Nat} (g : Grown x i) (h : i ≤ 7) : Nm x := by
  obtain ⟨c, r, e, h1, h2, h3⟩ := g
  unfold Nm
  rw [e]
  show (lowB c && decide (r.length ≤ 7) && r.all signB) = true
  rw [h1, h3, h2, decide_eq_true h] <;> rfl
theorem Grown.len {x : Str} {i : Nat} (g : Grown x i) : x.length = i + 1 := by
  obtain ⟨c, r, e, h1, h2, h3⟩ := g
  show x.cps.size = _
  rw [← Array.length_toList, e, List.length_cons, h2]
theorem Grown.more {x : Str} {i c : Nat} (g : Grown x i) (h : signB c = true) : Grown (x ++ ⟨#[c]⟩) (i + 1) := by
  obtain ⟨d, r, e, h1, h2, h3⟩ := g
  refine ⟨d, r ++ [c], ?_, h1, ?_, ?_⟩
  · rw [app_cps, e] <;> rfl
  · rw [List.length_append, h2] <;> rfl
  · rw [List.all_append, h3, Bool.true_and, List.all_cons, h] <;> rfl
def qn (j : Nat) : Str := ("q" : Str) ++ (toString (0 + (j : Int)) : String)
theorem int_small {i : Int} (h0 : 0 ≤ i) (h : i < 128) : i.natAbs.log2 < 1920 := by
  have q : ∀ j : _root_.Fin 128, j.val.log2 < 1920 := by decide +kernel
  exact q ⟨i.natAbs, by omega⟩
theorem in_low (c : Nat) : decide (c ∈ ("abcdefghijklmnopqrstuvwxyz" : Str).cps.toList) = lowB c := by
  by_cases h : c < 128
  · have q : ∀ j : _root_.Fin 128, decide (j.val ∈ ("abcdefghijklmnopqrstuvwxyz" : Str).cps.toList) = lowB j.val := by decide +kernel
    exact q ⟨c, h⟩
  · have e : lowB c = false := by unfold lowB; exact decide_eq_false (by omega)
    rw [e]
    refine decide_eq_false fun m => ?_
    have q : ∀ x ∈ ("abcdefghijklmnopqrstuvwxyz" : Str).cps.toList, x < 128 := by decide +kernel
    exact h (q c m)
theorem in_signs (c : Nat) : decide (c ∈ SIGNS.cps.toList) = signB c := by
  by_cases h : c < 128
  · have q : ∀ j : _root_.Fin 128, decide (j.val ∈ SIGNS.cps.toList) = signB j.val := by decide +kernel
    exact q ⟨c, h⟩
  · have e : signB c = false := by
      unfold signB lowB
      rw [decide_eq_false (by omega), decide_eq_false (by omega)] <;> rfl
    rw [e]
    refine decide_eq_false fun m => ?_
    have q : ∀ x ∈ SIGNS.cps.toList, x < 128 := by decide +kernel
    exact h (q c m)
theorem sum_le {c : Nat} : ∀ ys : List Str, (∀ y ∈ ys, y.length ≤ c) → (ys.map (·.length)).sum ≤ c * ys.length
  | [], _ => by simp
  | y :: ys, h => by
    have h1 := h y (List.mem_cons_self ..)
    have h2 := sum_le ys fun z hz => h z (List.mem_cons_of_mem _ hz)
    rw [List.map_cons, List.sum_cons, List.length_cons, Nat.mul_succ]
    omega
theorem Nm.len {x : Str} (h : Nm x) : 1 ≤ x.length ∧ x.length ≤ 8 := by
  have el : x.cps.toList.length = x.length := Array.length_toList
  unfold Nm at h
  cases e : x.cps.toList with
  | nil => rw [e] at h; cases h
  | cons a r =>
    rw [e] at h el
    have h' : (lowB a && decide (r.length ≤ 7) && r.all signB) = true := h
    simp only [Bool.and_eq_true, decide_eq_true_eq] at h'
    rw [List.length_cons] at el
    omega
theorem app_len (x y : Str) : (x ++ y).length = x.length + y.length := by
  show (x ++ y).cps.size = x.cps.size + y.cps.size
  rw [← Array.length_toList, app_cps, List.length_append, Array.length_toList, Array.length_toList]
def num (i : Int) : Str := Str.ofString (toString i)
theorem num_len {i : Int} (h0 : 0 ≤ i) (h : i < 100) : (num i).length ≤ 2 := by
  have q : ∀ j : _root_.Fin 100, (num (j.val : Int)).length ≤ 2 := by decide +kernel
  have := q ⟨i.toNat, by omega⟩
  rw [show ((⟨i.toNat, by omega⟩ : _root_.Fin 100).val : Int) = i by show ((i.toNat : Nat) : Int) = i; omega] at this
  exact this
theorem lgN {m : Int} {k : Nat} (hk : k ≠ 0) (h : m.natAbs < 2 ^ k) : m.natAbs.log2 < k := by
  by_cases e : m.natAbs = 0
  · rw [e]; show Nat.log2 0 < k; rw [Nat.log2_zero]; omega
  · exact (Nat.log2_lt e).mpr h
theorem cMul_ok {i j : Int} (hi : i.natAbs < 2 ^ 4000) (hj : j.natAbs < 2 ^ 4000) : cMul i j = true := by
  unfold cMul
  have := lgN (k := 4000) (by decide) hi
  have := lgN (k := 4000) (by decide) hj
  exact decide_eq_true (by omega)
theorem two4000 : 10 ^ 1000 < 2 ^ 4000 := by decide +kernel
theorem nat4000 {i : Int} {b : Nat} (h0 : -(b : Int) ≤ i) (h : i ≤ b) (hb : b ≤ 10 ^ 1000) : i.natAbs < 2 ^ 4000 := Nat.lt_of_le_of_lt (Nat.le_trans (by omega) hb) two4000
/-- the jug's three numbers -/
structure JOk (a b c : Int) (N : Nat) : Prop where
  a0 : 0 ≤ a
  b0 : 0 ≤ b
  b1 : b < 9223372036854775783
  c0 : 0 ≤ c
  c1 : c ≤ (N : Int)
def JAt (st : Sto) (n N : Nat) : Prop := ∃ a b c : Int, st[n]? = some (.lst [.int a, .int b, .int c]) ∧ JOk a b c N
theorem sz_le {n : Nat} (h : n ≤ 100000) : n ≤ sizeLine := Nat.le_trans h (by decide)
theorem signs_len : SIGNS.length = 36 := by decide +kernel
theorem signs_le : SIGNS.length ≤ sizeLine := by rw [signs_len]; exact sz_le (by decide)
theorem inV_str (x : Str) (xs : List Str) : inV (.str x) (xs.map V.str) = decide (x ∈ xs) := by
  unfold inV
  induction xs with
  | nil => rfl
  | cons y ys ih =>
    rw [List.map_cons, List.any_cons, ih]
    show ((y == x) || decide (x ∈ ys)) = decide (x ∈ y :: ys)
    by_cases e : y = x
    · subst e
      simp
    · have e' : (y == x) = false := beq_eq_false_iff_ne.mpr e
      rw [e', Bool.false_or]
      have : x ∈ y :: ys ↔ x ∈ ys := by
        rw [List.mem_cons]
        exact ⟨fun h => h.elim (fun h => absurd h.symm e) id, Or.inr⟩
      simp only [this]
theorem inD_str (x : Str) (l : List Str) : inD (.str x) (l.map PyData.str) = decide (x ∈ l) := by
  unfold inD
  rw [List.map_map]
  exact inV_str x l
theorem flatD_strs (l : List Str) : (l.map PyData.str).all flatD = true := by
  rw [List.all_eq_true]
  intro d hd
  obtain ⟨x, _, rfl⟩ := List.mem_map.mp hd
  rfl
theorem lcL_step {g : DnG} {e : Dn} {en0 en2 : En} {l ds acc : List D} {d y : D} {st st2 st3 : Sto} {w : QD.W} (h1 : g (.fz d) en0 st = .ok en2 st2) (h2 : e en2 st2 = .ok w st3) (h3 : datW w = some y) (hl : acc.length < sizeLine) :
    lcL ⟨l, none⟩ g (fun _ st => .ok true st) e en0 (d :: ds) acc st = lcL ⟨ds, none⟩ g (fun _ st => .ok true st) e en0 ds (acc ++ [y]) st3 := by
  rw [lcL_src (l1 := ds) (l2 := l)]
  conv => lhs; unfold lcL
  rw [if_pos (show Src.ok ⟨l, none⟩ st from trivial), h1, nox_ok, Rt.bind_ok, nox_ok, Rt.bind_ok, if_pos rfl, h2, nox_ok, Rt.bind_ok, h3]
  dsimp only
  rw [if_pos hl]
theorem lcL_nil {g : DnG} {t : DnT} {e : Dn} {en0 : En} {l acc : List D} {st : Sto} : lcL ⟨l, none⟩ g t e en0 [] acc st = .ok (.own acc) st := by
  unfold lcL
  rw [if_pos (show Src.ok ⟨l, none⟩ st from trivial)]
section
variable {a : Dn} {en : En} {st : Sto}
theorem dSl_eq {f : QD.W → Option Int → Option Int → Sto → Rt QD.W} {lo hi : DnO} : dSl f a lo hi en st = (a en st).bind fun x st1 => (lo en st1).bind fun l st2 => (hi en st2).bind fun u st3 => f x l u st3 := (rfl)
theorem oNone_eq : oNone en st = .ok none st := (rfl)
theorem oSome_eq : oSome a en st = (a en st).bind fun x st1 => match intW x with
  | some i => .ok (some i) st1
  | none => .no := (rfl)
theorem fTupOf_own {l : List D} : fTupOf (.own l) st = .ok (.fz (.tuple l)) st := (rfl)
end
end MU
/-! MA: jug, pour, word, words, parts. -/
namespace K08
open PySem PySem.Spec PyProof.Rows L2 MG QD MU
theorem pour_ok {st : Sto} {n N : Nat} {m : Int} (j : JAt st n N) (hN : N < 1000000) (m1 : 1 ≤ m) (m2 : m < 10000000000000000) :
    ∃ (r : Int) (o : Ob), F_l_pour [.loc n, .fz (.int m)] st = .ok (.fz (.int r)) (st.set n o) ∧ 0 ≤ r ∧ r < m ∧ JAt (st.set n o) n (N + 1) := by
  obtain ⟨a, b, c, h, ha, hb, hb1, hc, hc1⟩ := j
  have hl : n < st.length := (List.getElem?_eq_some_iff.mp h).1
  have lg : m.natAbs.log2 < 9000 := lgN (by decide) (Nat.lt_trans (show m.natAbs < 2 ^ 64 by omega) (by decide +kernel))
  unfold F_l_pour fnD d_l_pour
  by_cases c0 : 0 < a
  · refine ⟨a % m, .lst [.int (a / m), .int b, .int c], ?_, Int.emod_nonneg _ (by omega), Int.emod_lt_of_pos _ (by omega), ⟨a / m, b, c, List.getElem?_set_self hl, Int.ediv_nonneg ha (by omega), hb, hb1, hc, by omega⟩⟩
    simp [seqW_loc h, fSetL_eq h, show 0 < a from c0, show 0 < m by omega, lg]
  · refine ⟨((b * 3202034522624059733 + 104395301 * (c + 1) * (c + 1) + 1) % 9223372036854775783 / 16777216) % m, .lst [.int a, .int ((b * 3202034522624059733 + 104395301 * (c + 1) * (c + 1) + 1) % 9223372036854775783), .int (c + 1)], ?_, Int.emod_nonneg _ (by omega), Int.emod_lt_of_pos _ (by omega), ⟨_, _, _, List.getElem?_set_self hl, ha, Int.emod_nonneg _ (by decide), Int.emod_lt_of_pos _ (by decide), by omega, by omega⟩⟩
    have h1 : ∀ l, (st.set n (.lst l))[n]? = some (.lst l) := fun l => List.getElem?_set_self hl
    have e1 : cMul b 3202034522624059733 = true := cMul_ok (nat4000 (b := 9223372036854775783) (by omega) (by omega) (by decide +kernel)) (nat4000 (b := 3202034522624059733) (by omega) (by omega) (by decide +kernel))
    have e2 : cMul 104395301 (c + 1) = true := cMul_ok (nat4000 (b := 104395301) (by omega) (by omega) (by decide +kernel)) (nat4000 (b := 10000000) (by omega) (by omega) (by decide +kernel))
    have e3 : cMul (104395301 * (c + 1)) (c + 1) = true := cMul_ok (nat4000 (b := 104395301 * 10000000) (by omega) (by omega) (by decide +kernel)) (nat4000 (b := 10000000) (by omega) (by omega) (by decide +kernel))
    have e4 : ∀ x : Int, cMod x 9223372036854775783 = true := fun x => rfl
    have e5 : ∀ x : Int, cDiv x 16777216 = true := fun x => (by decide +kernel : cDiv 0 16777216 = true)
    have e6 : ∀ x : Int, cMod x m = true := fun x => decide_eq_true (by omega)
    have sq : ∀ l, seqW (st.set n (.lst l)) (.loc n) = some l := fun l => seqW_loc (h1 l)
    have sl : ∀ (l : List D) (k : Int) (d : D), fSetL (.loc n) (.fz (.int k)) (.fz d) (st.set n (.lst l)) = _ := fun l k d => fSetL_eq (h1 l) (d := d) rfl
    simp [seqW_loc h, fSetL_eq h, c0, e1, e2, e3, e4, e5, e6, sq, sl]
theorem jat_lt {st : Sto} {n N : Nat} (j : JAt st n N) : n < st.length := by
  obtain ⟨_, _, _, h, _⟩ := j
  exact (List.getElem?_eq_some_iff.mp h).1
theorem jat_mono {st : Sto} {n N M : Nat} (j : JAt st n N) (h : N ≤ M) : JAt st n M := by
  obtain ⟨a, b, c, e, k⟩ := j
  exact ⟨a, b, c, e, k.a0, k.b0, k.b1, k.c0, by have := k.c1; omega⟩
/-- the jug at n is poured from, k times at most; all else is as it was -/
def JR (n : Nat) (st : Sto) (st' : Sto) (M : Nat) : Prop := (∃ o, st' = st.set n o) ∧ JAt st' n M
theorem jr_refl {n : Nat} {st : Sto} {N : Nat} (j : JAt st n N) : JR n st st N := by
  obtain ⟨a, b, c, e, k⟩ := j
  refine ⟨⟨.lst [.int a, .int b, .int c], ?_⟩, ⟨a, b, c, e, k⟩⟩
  apply List.ext_getElem?
  intro i
  by_cases h : n = i
  · subst h
    rw [e, List.getElem?_set_self (List.getElem?_eq_some_iff.mp e).1]
  · rw [List.getElem?_set_ne h]
theorem jr_trans {n : Nat} {st st1 st2 : Sto} {N M : Nat} (a : JR n st st1 N) (b : JR n st1 st2 M) : JR n st st2 M := by
  obtain ⟨⟨o, rfl⟩, _⟩ := a
  obtain ⟨⟨p, rfl⟩, j⟩ := b
  exact ⟨⟨p, by rw [List.set_set]⟩, j⟩
theorem jr_len {n : Nat} {st st' : Sto} {M : Nat} (a : JR n st st' M) : st'.length = st.length := by
  obtain ⟨⟨o, rfl⟩, _⟩ := a
  exact List.length_set
theorem jr_get {n : Nat} {st st' : Sto} {M i : Nat} (a : JR n st st' M) (h : i ≠ n) : st'[i]? = st[i]? := by
  obtain ⟨⟨o, rfl⟩, _⟩ := a
  exact List.getElem?_set_ne (Ne.symm h)
theorem jr_mono {n : Nat} {st st' : Sto} {M M' : Nat} (a : JR n st st' M) (h : M ≤ M') : JR n st st' M' := ⟨a.1, jat_mono a.2 h⟩
/-- behind a list that is added -/
theorem jr_app {n : Nat} {st st' : Sto} {M : Nat} {x : List Ob} (h : n < st.length) (a : JR n (st ++ x) st' M) : ∃ st1, st' = st1 ++ x ∧ JR n st st1 M := by
  obtain ⟨⟨o, rfl⟩, j⟩ := a
  refine ⟨st.set n o, by rw [List.set_append_left _ _ h], ⟨o, rfl⟩, ?_⟩
  obtain ⟨a, b, c, e, k⟩ := j
  refine ⟨a, b, c, ?_, k⟩
  rw [List.set_append_left _ _ h, List.getElem?_append_left (by rw [List.length_set]; exact h)] at e
  exact e
theorem jat_app {n : Nat} {st : Sto} {N : Nat} {x : List Ob} (j : JAt st n N) : JAt (st ++ x) n N := by
  have h := jat_lt j
  obtain ⟨a, b, c, e, k⟩ := j
  exact ⟨a, b, c, by rw [List.getElem?_append_left h]; exact e, k⟩
theorem pour {st : Sto} {n N : Nat} {m : Int} (j : JAt st n N) (hN : N < 1000000) (m1 : 1 ≤ m) (m2 : m < 10000000000000000) :
    ∃ (r : Int) (st' : Sto), F_l_pour [.loc n, .fz (.int m)] st = .ok (.fz (.int r)) st' ∧ 0 ≤ r ∧ r < m ∧ JR n st st' (N + 1) := by
  obtain ⟨r, o, e, h0, h1, j'⟩ := pour_ok j hN m1 m2
  exact ⟨r, _, e, h0, h1, ⟨o, rfl⟩, j'⟩
/-! ### word -/
abbrev MENUD : List D := [.str "host", .str "guest", .str "tables", .str "tables1", .str "a", .str "ab", .str "z9", .str "x"]
/-! ### words -/
abbrev strsD (l : List Str) : List D := l.map PyData.str
theorem set_last {s : Sto} {k : Nat} {o p : Ob} (h : s.length = k) : (s ++ [o]).set k p = s ++ [p] := by
  rw [← h, List.set_append_right _ _ (Nat.le_refl _), Nat.sub_self]; rfl
theorem get_last {s : Sto} {k : Nat} {o : Ob} (h : s.length = k) : (s ++ [o])[k]? = some o := by
  rw [← h, List.getElem?_append_right (Nat.le_refl _), Nat.sub_self]; rfl
theorem in_found {s : Sto} {k : Nat} {xs : List Str} (h : s.length = k) (neg : Bool) (y : Str) : fIn neg (.fz (.str y)) (.loc k) (s ++ [Ob.lst (strsD xs)]) = .ok (.fz (.bool (if neg = true then !decide (y ∈ xs) else decide (y ∈ xs)))) (s ++ [Ob.lst (strsD xs)]) := by
  have sq : seqW (s ++ [Ob.lst (strsD xs)]) (.loc k) = some (strsD xs) := seqW_loc (get_last h)
  unfold fIn
  simp only [anyW_loc, sq, inD_str, flatD_strs, flatD, Bool.and_self, if_true]
theorem app_found {s : Sto} {k : Nat} {xs : List Str} (h : s.length = k) (hl : xs.length < 100) (y : Str) : fChg gApp (.loc k) [.fz (.str y)] (s ++ [Ob.lst (strsD xs)]) = .ok (.fz .none) (s ++ [Ob.lst (strsD (xs ++ [y]))]) := by
  have l : (strsD xs).length < sizeLine := by rw [List.length_map]; exact Nat.lt_of_lt_of_le hl (sz_le (by decide))
  unfold fChg
  simp only [get_last h, gApp, datW_fz, if_pos l, set_last h]
  rw [show strsD (xs ++ [y]) = strsD xs ++ [.str y] by simp]
def notIn (xs : List Str) : D → Bool
  | .str y => !decide (y ∈ xs)
  | _ => false
/-! ### parts -/
abbrev Side := List (Str × Int)
def memD (p : Str × Int) : D := .tuple [.str p.1, .int p.2]
def sideD (s : Side) : D := .tuple (s.map memD)
def deskD : Option Int → D
  | none => .none
  | some k => .int k
/-- sides and tables as the document wants them -/
structure Fairish (hs gs : Side) (t : Option Int) : Prop where
  h1 : 1 ≤ hs.length
  h4 : hs.length ≤ 4
  g1 : 1 ≤ gs.length
  g4 : gs.length ≤ 4
  nd : ((hs ++ gs).map (·.1)).Nodup
  nm : ∀ z ∈ hs ++ gs, Nm z.1
  bd : ∀ z ∈ hs ++ gs, 1 ≤ z.2 ∧ z.2 ≤ 4
  tb : ∀ k, t = some k → 1 ≤ k ∧ k ≤ 12
/-- names with drawn bounds -/
theorem pairs {n M : Nat} {en0 : En} (h0 : en0[0]? = some (some (.loc n))) (h7 : 7 < en0.length) : ∀ (xs : List Str) (acc : List D) (st : Sto) (N : Nat), JAt st n N → N + xs.length ≤ 1000000 → acc.length + xs.length ≤ 100 →
    ∃ (bs : List Int) (st' : Sto), bs.length = xs.length ∧ (∀ b ∈ bs, 1 ≤ b ∧ b ≤ 4) ∧ JR n st st' (N + xs.length) ∧
      lcL ⟨strsD xs, none⟩ (gN 7) (fun _ st => .ok true st) (dN fTup (aCons (dVar 7) (aCons (dOp fAdd (dC (.int 1)) (dCall 2 F_l_pour [] (aCons (dVar 0) (aCons (dC (.int 4)) aNil)))) aNil))) en0 (strsD xs) acc st = .ok (.own (acc ++ (xs.zip bs).map memD)) st'
  | [], acc, st, N, j, _, _ => ⟨[], st, rfl, (fun _ h => nomatch h), jr_mono (jr_refl j) (by omega), by rw [List.zip_nil_left, List.map_nil, List.append_nil]; exact lcL_nil⟩
  | x :: xs, acc, st, N, j, hN, hl => by
    rw [List.length_cons] at hN hl
    obtain ⟨r, s1, e1, a1, b1, j1⟩ := pour (m := 4) j (by omega) (by decide) (by decide)
    have h0' : (en0.set 7 (some (.fz (.str x))))[0]? = some (some (.loc n)) := by rw [List.getElem?_set_ne (by decide)]; exact h0
    have h7' : (en0.set 7 (some (.fz (.str x))))[7]? = some (some (.fz (.str x))) := List.getElem?_set_self h7
    obtain ⟨bs, s2, hb, hbd, j2, e2⟩ := pairs (M := M) h0 h7 xs (acc ++ [memD (x, 1 + r)]) s1 (N + 1) j1.2 (by omega) (by rw [List.length_append, List.length_singleton]; omega)
    refine ⟨(1 + r) :: bs, s2, by rw [List.length_cons, List.length_cons, hb], fun b hb' => ?_, jr_mono (jr_trans j1 j2) (by rw [List.length_cons]; omega), ?_⟩
    · rcases List.mem_cons.mp hb' with rfl | hb'
      · omega
      · exact hbd b hb'
    have el : dN fTup (aCons (dVar 7) (aCons (dOp fAdd (dC (.int 1)) (dCall 2 F_l_pour [] (aCons (dVar 0) (aCons (dC (.int 4)) aNil)))) aNil)) (en0.set 7 (some (.fz (.str x)))) st = .ok (.fz (memD (x, 1 + r))) s1 := by
      simp [h0', h7', e1, sz_le, memD]
    have lt : acc.length < sizeLine := Nat.lt_of_lt_of_le (show acc.length < 100 by omega) (sz_le (by decide))
    show lcL ⟨PyData.str x :: strsD xs, none⟩ _ _ _ _ (PyData.str x :: strsD xs) acc st = _
    rw [lcL_step (y := memD (x, 1 + r)) rfl el rfl lt]
    refine e2.trans ?_
    rw [List.append_assoc]
    rfl
end K08
/-! MB: fairs made. -/
namespace K08
open PySem PySem.Spec PyProof.Rows L2 MG QD MU
theorem isi_eq {w x : QD.W} {st : Sto} : fIsi w x st = match tykW st w, clsW x with
  | some a, some b => .ok (.fz (.bool (isT a b))) st
  | _, _ => .no := (rfl)
theorem cls_int : clsW (.fz (tyD "int")) = some (.b "int") := by
  show (bts.find? fun b => decide (Str.ofString b = Str.ofString "int")).map Tyk.b = _
  rw [show (bts.find? fun b => decide (Str.ofString b = Str.ofString "int")) = some "int" by decide +kernel]
  rfl
theorem cls_bool : clsW (.fz (tyD "bool")) = some (.b "bool") := by
  show (bts.find? fun b => decide (Str.ofString b = Str.ofString "bool")).map Tyk.b = _
  rw [show (bts.find? fun b => decide (Str.ofString b = Str.ofString "bool")) = some "bool" by decide +kernel]
  rfl
theorem cls_str : clsW (.fz (tyD "str")) = some (.b "str") := by
  show (bts.find? fun b => decide (Str.ofString b = Str.ofString "str")).map Tyk.b = _
  rw [show (bts.find? fun b => decide (Str.ofString b = Str.ofString "str")) = some "str" by decide +kernel]
  rfl
theorem cls_tup : clsW (.fz (tyD "tuple")) = some (.b "tuple") := by
  show (bts.find? fun b => decide (Str.ofString b = Str.ofString "tuple")).map Tyk.b = _
  rw [show (bts.find? fun b => decide (Str.ofString b = Str.ofString "tuple")) = some "tuple" by decide +kernel]
  rfl
theorem isi_int_int {i : Int} {st : Sto} : fIsi (.fz (.int i)) (.fz (tyD "int")) st = .ok (.fz (.bool true)) st := by rw [isi_eq, cls_int]; rfl
theorem isi_int_bool {i : Int} {st : Sto} : fIsi (.fz (.int i)) (.fz (tyD "bool")) st = .ok (.fz (.bool false)) st := by rw [isi_eq, cls_bool]; rfl
theorem isi_str {i : Str} {st : Sto} : fIsi (.fz (.str i)) (.fz (tyD "str")) st = .ok (.fz (.bool true)) st := by rw [isi_eq, cls_str]; rfl
theorem isi_tup {l : List D} {st : Sto} : fIsi (.fz (.tuple l)) (.fz (tyD "tuple")) st = .ok (.fz (.bool true)) st := by rw [isi_eq, cls_tup]; rfl
theorem is_integer {v a b : Int} {st : Sto} : F_is_integer [.fz (.int v), .fz (.int a), .fz (.int b)] st = .ok (.fz (.bool (decide (a ≤ v) && decide (v ≤ b)))) st := by
  unfold F_is_integer fnD d_is_integer
  by_cases h1 : a ≤ v <;> by_cases h2 : v ≤ b <;> simp [isi_int_int, isi_int_bool, h1, h2]
theorem is_pair {a b : D} {st : Sto} : F_is_pair [.fz (.tuple [a, b])] st = .ok (.fz (.bool true)) st := by
  unfold F_is_pair fnD d_is_pair
  simp [isi_tup, fEq, scaD, eqS, fLen]
theorem is_name {x : Str} (h : Nm x) {st : Sto} : F_is_name [.fz (.str x)] st = .ok (.fz (.bool true)) st := by
  obtain ⟨l1, l8⟩ := Nm.len h
  have ls : x.length ≤ sizeLine := sz_le (by omega)
  unfold Nm at h
  cases ex : x.cps.toList with
  | nil => rw [ex] at h; cases h
  | cons c r =>
    rw [ex] at h
    obtain ⟨h1, h2⟩ := Bool.and_eq_true_iff.mp h
    obtain ⟨h1, _⟩ := Bool.and_eq_true_iff.mp h1
    have all : ∀ d ∈ x.cps.toList, signB d = true := fun d hd => by
      rw [ex] at hd
      rcases List.mem_cons.mp hd with rfl | hd
      · unfold signB; rw [h1]; rfl
      · exact List.all_eq_true.mp h2 d hd
    have len : x.cps.toList.length = x.length := Array.length_toList
    have e : c_is_name_1 [some (.fz (.str x)), none] st = .ok (.own (x.cps.toList.map fun c => .bool (signB c))) st := by
      unfold c_is_name_1
      simp only [dLc_eq, iSeq_eq, dVar_eq, List.getElem?_cons_zero, Rt.bind_ok, srcS_fz]
      rw [lcL_map (f := fun d => match d with | .str z => .bool (signB (z.cps.getD 0 0)) | _ => .none) _ _ rfl (fun d hd => by
        obtain ⟨c, hc, rfl⟩ := List.mem_map.mp hd
        refine ⟨_, .fz (.bool (signB c)), rfl, ?_, rfl⟩
        have : fInS false (.fz (.str ⟨#[c]⟩)) (.fz (.str "abcdefghijklmnopqrstuvwxyz0123456789")) st = .ok (.fz (.bool (signB c))) st := by
          show Rt.ok (QD.W.fz (.bool (decide (c ∈ SIGNS.cps.toList)))) st = _
          rw [in_signs]
        simp [wipeE, this]) (by rw [List.length_map, len]; exact sz_le (by simp; omega))]
      rw [List.nil_append, List.map_map]
      rfl
    have bl : ∀ l : List Nat, blL (l.map fun c => PyData.bool (signB c)) = some (l.map signB) := fun l => by
      induction l with
      | nil => rfl
      | cons a l ih => show (blL (l.map fun c => PyData.bool (signB c))).map _ = _; rw [ih]; rfl
    have ea : fBls (fun bs => bs.all id) (.own (x.cps.toList.map fun c => .bool (signB c))) st = .ok (.fz (.bool true)) st := by
      unfold fBls
      rw [seqR_own, Option.bind_some, bl]
      have : (x.cps.toList.map signB).all id = true := by
        rw [List.all_eq_true]
        intro b hb
        obtain ⟨c, hc, rfl⟩ := List.mem_map.mp hb
        exact all c hc
      simp only [this]
    have e0 : fIxS (.fz (.str x)) (.fz (.int 0)) st = .ok (.fz (.str ⟨#[c]⟩)) st := by
      rw [fIxS_eq, if_pos ls, atI_0, ex]
      rfl
    have e1 : fInS false (.fz (.str ⟨#[c]⟩)) (.fz (.str "abcdefghijklmnopqrstuvwxyz")) st = .ok (.fz (.bool true)) st := by
      show Rt.ok (QD.W.fz (.bool (decide (c ∈ ("abcdefghijklmnopqrstuvwxyz" : Str).cps.toList)))) st = _
      rw [in_low, h1]
    have e2 : fLenS (.fz (.str x)) st = .ok (.fz (.int x.length)) st := by
      unfold fLenS
      simp only [strW_fz, if_pos ls]
    unfold F_is_name fnD d_is_name
    simp [-fIxS_eq, isi_str, e, ea, e0, e1, e2, show (1 : Int) ≤ (x.length : Int) by omega, show (x.length : Int) ≤ 8 by omega]
theorem names_of {s : Side} (h : s.length ≤ 100) {st : Sto} : F_names_of [.fz (sideD s)] st = .ok (.fz (.tuple (s.map fun z => .str z.1))) st := by
  have e : c_names_of_1 [some (.fz (sideD s)), none] st = .ok (.own (s.map fun z => .str z.1)) st := by
    unfold c_names_of_1 sideD
    simp only [dLc_eq, iSeq_eq, dVar_eq, List.getElem?_cons_zero, Rt.bind_ok, srcT_fz]
    rw [lcL_map (f := fun d => match d with | .tuple [.str x, _] => .str x | _ => .none) _ _ rfl (fun d hd => by
      obtain ⟨z, _, rfl⟩ := List.mem_map.mp hd
      refine ⟨_, .fz (.str z.1), rfl, ?_, rfl⟩
      simp [wipeE, memD]) (by simp; exact sz_le (by omega))]
    rw [List.nil_append, List.map_map]
    rfl
  unfold F_names_of fnD d_names_of
  simp [e, fTupOf_own]
theorem is_member {z : Str × Int} (h : Nm z.1) (h1 : 1 ≤ z.2) (h4 : z.2 ≤ 4) {st : Sto} : F_is_member [.fz (memD z)] st = .ok (.fz (.bool true)) st := by
  unfold F_is_member fnD d_is_member memD
  simp [is_pair, is_name h, is_integer, h1, h4]
/-! ### _fault: a right side has none -/
theorem fault {s : Side} {taken : List Str} (h1 : 1 ≤ s.length) (h4 : s.length ≤ 4) (ht : taken.length ≤ 8) (nd : (taken ++ s.map (·.1)).Nodup) (nm : ∀ z ∈ s, Nm z.1) (bd : ∀ z ∈ s, 1 ≤ z.2 ∧ z.2 ≤ 4) {st : Sto} :
    F_fault [.fz (sideD s), .fz (.tuple (strsD taken))] st = .ok (.fz (.tuple [])) st := by
  let I : Nat → En → Sto → Prop := fun i en s' => ∃ v3 v4, en = [some (.fz (sideD s)), some (.fz (.tuple (strsD taken))), some (.loc st.length), v3, v4] ∧ s' = st ++ [.lst (strsD (taken ++ (s.take i).map (·.1)))]
  have el : (enuD (s.map memD)).length = s.length := by unfold enuD; simp
  obtain ⟨en4, st4, e4, v3, v4, rfl, rfl⟩ := forL_inv (s := ⟨enuD (s.map memD), none⟩) (g := gT 2 (gsCons (gN 3) (gsCons (gN 4) gsNil))) (b := b_fault_1) I (enuD (s.map memD)) 0 [some (.fz (sideD s)), some (.fz (.tuple (strsD taken))), some (.loc st.length), none, none] (st ++ [.lst (strsD taken)]) ⟨none, none, rfl, by simp⟩
    (fun i en s' d hd hI => by
      obtain ⟨v3, v4, rfl, rfl⟩ := hI
      obtain ⟨hl, rfl, hg⟩ := enu_get hd
      rw [List.length_map] at hl
      have hz : (s.map memD).getD i .none = memD s[i] := by rw [List.getD_eq_getElem?_getD, List.getElem?_map, List.getElem?_eq_getElem hl]; rfl
      have mz : s[i] ∈ s := List.getElem_mem hl
      have ni : s[i].1 ∉ taken ++ (s.take (0 + i)).map (·.1) := by
        rw [Nat.zero_add]
        intro hm
        have hs : s = s.take i ++ s[i] :: s.drop (i + 1) := by rw [← List.drop_eq_getElem_cons hl, List.take_append_drop]
        rw [hs, List.map_append, List.map_cons, ← List.append_assoc, List.nodup_append] at nd
        exact nd.2.2 _ hm _ (List.mem_cons_self ..) rfl
      refine ⟨trivial, [some (.fz (sideD s)), some (.fz (.tuple (strsD taken))), some (.loc st.length), some (.fz (.int (i : Nat))), some (.fz (memD s[i]))], st ++ [.lst (strsD (taken ++ (s.take (0 + i)).map (·.1)))], by rw [hz]; rfl, [some (.fz (sideD s)), some (.fz (.tuple (strsD taken))), some (.loc st.length), some (.fz (.int (i : Nat))), some (.fz (memD s[i]))], st ++ [.lst (strsD (taken ++ (s.take (0 + i)).map (·.1) ++ [s[i].1]))], .inl ?_, some (.fz (.int (i : Nat))), some (.fz (memD s[i])), rfl, ?_⟩
      · have l100 : (taken ++ (s.take (0 + i)).map (·.1)).length < 100 := by rw [List.length_append, List.length_map, List.length_take]; omega
        unfold b_fault_1
        generalize taken ++ (s.take (0 + i)).map (·.1) = X at ni l100 ⊢
        have em := is_member (nm _ mz) (bd _ mz).1 (bd _ mz).2 (st := st ++ [.lst (strsD X)])
        generalize s[i] = z at em ni ⊢
        have e1 : dOp fIxT (dVar 4) (dC (.int 0)) [some (.fz (sideD s)), some (.fz (.tuple (strsD taken))), some (.loc st.length), some (.fz (.int (i : Nat))), some (.fz (memD z))] (st ++ [.lst (strsD X)]) = .ok (.fz (.str z.1)) (st ++ [.lst (strsD X)]) := by simp [memD]
        have e2 : fIn false (.fz (.str z.1)) (.loc st.length) (st ++ [Ob.lst (strsD X)]) = .ok (.fz (.bool false)) (st ++ [Ob.lst (strsD X)]) := by
          rw [in_found rfl]
          simp [ni]
        unfold memD at em
        have e3 := app_found (s := st) rfl l100 z.1
        simp [em, fEq, scaD, eqS, show ¬ ((i : Int) = 4) by omega, e2, memD, seqW_loc (get_last (s := st) (o := .lst (strsD X)) rfl), e3]
      · rw [List.append_assoc, Nat.zero_add, List.take_add_one, List.getElem?_eq_getElem hl, List.map_append]
        rfl)
    (fun en s h => trivial)
  obtain ⟨sE, hsE⟩ : ∃ sE, sE = st ++ [Ob.lst (strsD (taken ++ (s.take (0 + (enuD (s.map memD)).length)).map (·.1)))] := ⟨_, rfl⟩
  rw [← hsE] at e4
  have lE : sE.take st.length = st := by rw [hsE, List.take_left']; rfl
  have eF : sFor (iEnu true (dVar 0)) (gT 2 (gsCons (gN 3) (gsCons (gN 4) gsNil))) b_fault_1 [some (.fz (sideD s)), some (.fz (.tuple (strsD taken))), some (.loc st.length), none, none] (st ++ [.lst (strsD taken)]) = .go [some (.fz (sideD s)), some (.fz (.tuple (strsD taken))), some (.loc st.length), v3, v4] sE := by
    rw [sFor_eq, iEnu_eq]
    simp only [dVar_eq, List.getElem?_cons_zero, Rt.bind_ok, kndW_fz, sideD, kndD_tup, if_true, sBind_ok]
    exact e4
  have tr : ∀ l : Sto, truW l (.fz (sideD s)) = some true := fun l => by
    have : s ≠ [] := fun e => by subst e; simp at h1
    unfold truW sideD
    simp [this]
  unfold F_fault fnD d_fault
  have tr' : ∀ l : Sto, truW l (.fz (.tuple (s.map memD))) = some true := tr
  unfold sideD at eF ⊢
  simp [-sFor_eq, isi_tup, tr', fLstOf, eF, sz_le, lE]
/-! ### the text -/
theorem js2 {k : Str} {z : Str × Int} {en : En} {st : Sto} {i j : Nat} (hi : en[i]? = some (some (.fz (.str z.1)))) (hj : en[j]? = some (some (.fz (.int z.2)))) (hk : k.length ≤ 6) (h8 : z.1.length ≤ 8) (h1 : 1 ≤ z.2) (h4 : z.2 ≤ 4) :
    ∃ x : Str, x.length ≤ 17 ∧ dJs [(dC (.str k)), (dFmt (dVar i)), (dC (.str " ")), (dFmt (dVar j))] en st = .ok (.fz (.str x)) st := by
  have n2 : (num z.2).length ≤ 2 := num_len (by omega) (by omega)
  have l1 : (Str.empty ++ k).length ≤ sizeLine := by rw [app_len]; exact sz_le (by show 0 + _ ≤ _; omega)
  have l2 : (Str.empty ++ k ++ z.1).length ≤ sizeLine := by rw [app_len, app_len]; exact sz_le (by show 0 + _ + _ ≤ _; omega)
  have sp : (" " : Str).length = 1 := by decide +kernel
  have l3 : (Str.empty ++ k ++ z.1 ++ " ").length ≤ sizeLine := by rw [app_len, app_len, app_len, sp]; exact sz_le (by show 0 + _ + _ + _ ≤ _; omega)
  have l4 : (Str.empty ++ k ++ z.1 ++ " " ++ num z.2).length ≤ 17 := by rw [app_len, app_len, app_len, app_len, sp]; show 0 + _ + _ + _ + _ ≤ _; omega
  have f1 : dFmt (dVar i) en st = .ok (.fz (.str z.1)) st := by
    unfold dFmt
    simp only [dVar_eq, hi, Rt.bind_ok, if_pos (sz_le (show z.1.length ≤ 100000 by omega))]
  have f2 : dFmt (dVar j) en st = .ok (.fz (.str (num z.2))) st := by
    unfold dFmt
    simp only [dVar_eq, hj, Rt.bind_ok, if_pos (int_small (show 0 ≤ z.2 by omega) (by omega))]
    rfl
  refine ⟨_, l4, ?_⟩
  unfold dJs
  simp only [jsD, dC_eq, Rt.bind_ok, strW_fz, if_pos l1, f1, if_pos l2, if_pos l3, f2, if_pos (sz_le (show _ ≤ 100000 from Nat.le_trans l4 (by decide)))]
theorem rows_of {k : Str} {s : Side} {en : En} {st : Sto} (hk : k.length ≤ 6) (h4 : s.length ≤ 4) (nm : ∀ z ∈ s, Nm z.1) (bd : ∀ z ∈ s, 1 ≤ z.2 ∧ z.2 ≤ 4) (hl : 5 < en.length) :
    ∃ xs : List Str, xs.length = s.length ∧ (∀ x ∈ xs, x.length ≤ 17) ∧ lcL ⟨s.map memD, none⟩ (gT 2 (gsCons (gN 4) (gsCons (gN 5) gsNil))) (fun _ st => .ok true st) (dJs [(dC (.str k)), (dFmt (dVar 4)), (dC (.str " ")), (dFmt (dVar 5))]) en (s.map memD) [] st = .ok (.own (strsD xs)) st := by
  suffices H : ∀ (s : Side) (acc : List Str), (∀ z ∈ s, Nm z.1) → (∀ z ∈ s, 1 ≤ z.2 ∧ z.2 ≤ 4) → acc.length + s.length ≤ 10 → ∃ xs : List Str, xs.length = s.length ∧ (∀ x ∈ xs, x.length ≤ 17) ∧ lcL ⟨s.map memD, none⟩ (gT 2 (gsCons (gN 4) (gsCons (gN 5) gsNil))) (fun _ st => .ok true st) (dJs [(dC (.str k)), (dFmt (dVar 4)), (dC (.str " ")), (dFmt (dVar 5))]) en (s.map memD) (strsD acc) st = .ok (.own (strsD (acc ++ xs))) st by
    obtain ⟨xs, h1, h2, h3⟩ := H s [] nm bd (by simp; omega)
    exact ⟨xs, h1, h2, h3⟩
  intro s
  induction s with
  | nil => exact fun acc _ _ _ => ⟨[], rfl, (fun _ h => nomatch h), by rw [List.append_nil]; exact lcL_nil⟩
  | cons z s ih =>
    intro acc nm bd hl'
    rw [List.length_cons] at hl'
    have b := bd z (List.mem_cons_self ..)
    obtain ⟨x, lx, ex⟩ := js2 (k := k) (z := z) (en := (en.set 4 (some (.fz (.str z.1)))).set 5 (some (.fz (.int z.2)))) (st := st) (i := 4) (j := 5) (by rw [List.getElem?_set_ne (by decide), List.getElem?_set_self (by omega)]) (by rw [List.getElem?_set_self (by rw [List.length_set]; omega)]) hk (Nm.len (nm z (List.mem_cons_self ..))).2 b.1 b.2
    obtain ⟨xs, h1, h2, h3⟩ := ih (acc ++ [x]) (fun z hz => nm z (List.mem_cons_of_mem _ hz)) (fun z hz => bd z (List.mem_cons_of_mem _ hz)) (by rw [List.length_append, List.length_singleton]; omega)
    refine ⟨x :: xs, by rw [List.length_cons, List.length_cons, h1], fun y hy => ?_, ?_⟩
    · rcases List.mem_cons.mp hy with rfl | hy
      · exact lx
      · exact h2 y hy
    · rw [List.map_cons, lcL_step (en2 := (en.set 4 (some (.fz (.str z.1)))).set 5 (some (.fz (.int z.2)))) (y := .str x) rfl ex rfl (by rw [List.length_map]; exact Nat.lt_of_lt_of_le (show acc.length < 100 by omega) (sz_le (by decide)))]
      rw [show strsD acc ++ [.str x] = strsD (acc ++ [x]) by simp, h3, List.append_assoc]
      rfl
theorem strL_strs (xs : List Str) : strL (strsD xs) = some xs := strL_map xs
theorem text_of {hs gs : Side} {t : Option Int} (f : Fairish hs gs t) {st : Sto} : ∃ x : Str, F_text_of [.fz (sideD hs), .fz (sideD gs), .fz (deskD t)] st = .ok (.fz (.str x)) st := by
  obtain ⟨x1, l1, w1, e1⟩ := rows_of (k := "host ") (s := hs) (en := wipeE [some (.fz (sideD hs)), some (.fz (sideD gs)), some (.fz (deskD t)), none, none, none] [4, 5]) (st := st) (by decide +kernel) f.h4 (fun z hz => f.nm z (List.mem_append_left _ hz)) (fun z hz => f.bd z (List.mem_append_left _ hz)) (by simp [wipeE])
  obtain ⟨x2, l2, w2, e2⟩ := rows_of (k := "guest ") (s := gs) (en := wipeE [some (.fz (sideD hs)), some (.fz (sideD gs)), some (.fz (deskD t)), some (.loc st.length), none, none] [4, 5]) (st := st ++ [.lst (strsD x1)]) (by decide +kernel) f.g4 (fun z hz => f.nm z (List.mem_append_right _ hz)) (fun z hz => f.bd z (List.mem_append_right _ hz)) (by simp [wipeE])
  have c1 : c_text_of_1 [some (.fz (sideD hs)), some (.fz (sideD gs)), some (.fz (deskD t)), none, none, none] st = .ok (.own (strsD x1)) st := by
    unfold c_text_of_1
    rw [dLc_eq, iSeq_eq]
    exact e1
  have c2 : c_text_of_2 [some (.fz (sideD hs)), some (.fz (sideD gs)), some (.fz (deskD t)), some (.loc st.length), none, none] (st ++ [.lst (strsD x1)]) = .ok (.own (strsD x2)) (st ++ [.lst (strsD x1)]) := by
    unfold c_text_of_2
    rw [dLc_eq, iSeq_eq]
    exact e2
  have h4 := f.h4
  have g4 := f.g4
  have ext : fChg (gExt (st ++ [.lst (strsD x1)])) (.loc st.length) [.own (strsD x2)] (st ++ [.lst (strsD x1)]) = .ok (.fz .none) (st ++ [.lst (strsD (x1 ++ x2))]) := by
    have l : (strsD x1).length + (strsD x2).length ≤ sizeLine := by rw [List.length_map, List.length_map]; exact sz_le (by omega)
    unfold fChg
    simp only [get_last rfl, gExt, seqW_own, if_pos l, set_last rfl]
    rw [show strsD (x1 ++ x2) = strsD x1 ++ strsD x2 by simp]
  have jn : ∀ xs : List Str, xs.length ≤ 9 → (∀ x ∈ xs, x.length ≤ 17) → ∀ en : En, en[3]? = some (some (.loc st.length)) → ∃ y, dJoin (dC (.str "\n")) (dVar 3) en (st ++ [.lst (strsD xs)]) = .ok (.fz (.str y)) (st ++ [.lst (strsD xs)]) := fun xs hl hw en h3 => by
    have s1 := sum_le (c := 17) xs hw
    have nl : ("\n" : Str).length = 1 := by decide +kernel
    have c : (xs.map (·.length)).sum + xs.length * ("\n" : Str).length ≤ 16777216 := by rw [nl]; omega
    refine ⟨Txt.join "\n" xs, ?_⟩
    unfold dJoin
    simp only [dC_eq, Rt.bind_ok, strW_fz, dVar_eq, h3, anyW_loc, seqW_loc (get_last (s := st) (o := .lst (strsD xs)) rfl), Option.bind_some, strL_strs, if_pos c]
  have ls : ∀ l, (st ++ [Ob.lst l]).take st.length = st := fun l => by rw [List.take_left']; rfl
  have sq : ∀ l, seqW (st ++ [Ob.lst l]) (.loc st.length) = some l := fun l => seqW_loc (get_last rfl)
  cases t with
  | none =>
    obtain ⟨y, ey⟩ := jn (x1 ++ x2) (by rw [List.length_append]; omega) (fun x hx => (List.mem_append.mp hx).elim (w1 x) (w2 x)) [some (.fz (sideD hs)), some (.fz (sideD gs)), some (.fz (deskD none)), some (.loc st.length), none, none] rfl
    refine ⟨y, ?_⟩
    have nd : noneW (.fz (deskD none)) = true := rfl
    unfold F_text_of fnD d_text_of
    simp only [List.map_append] at ext ey
    simp [c1, c2, ext, nd, sq, ey, ls]
  | some k =>
    have kb := f.tb k rfl
    have nk : (num k).length ≤ 2 := num_len (by omega) (by omega)
    have tl : ("tables " : Str).length = 7 := by decide +kernel
    have q1 : (Str.empty ++ ("tables " : Str)).length ≤ sizeLine := by rw [app_len, tl]; exact sz_le (by show 0 + _ ≤ _; omega)
    have q2 : (Str.empty ++ ("tables " : Str) ++ num k).length ≤ 17 := by rw [app_len, app_len, tl]; show 0 + _ + _ ≤ _; omega
    have ej : dJs [(dC (.str "tables ")), (dFmt (dVar 2))] [some (.fz (sideD hs)), some (.fz (sideD gs)), some (.fz (deskD (some k))), some (.loc st.length), none, none] (st ++ [.lst (strsD (x1 ++ x2))]) = .ok (.fz (.str (Str.empty ++ ("tables " : Str) ++ num k))) (st ++ [.lst (strsD (x1 ++ x2))]) := by
      have f2 : dFmt (dVar 2) [some (.fz (sideD hs)), some (.fz (sideD gs)), some (.fz (deskD (some k))), some (.loc st.length), none, none] (st ++ [.lst (strsD (x1 ++ x2))]) = .ok (.fz (.str (num k))) (st ++ [.lst (strsD (x1 ++ x2))]) := by
        unfold dFmt
        simp only [dVar_eq, List.getElem?_cons_succ, List.getElem?_cons_zero, deskD, Rt.bind_ok, if_pos (int_small (show 0 ≤ k by omega) (by omega))]
        rfl
      unfold dJs
      simp only [jsD, dC_eq, Rt.bind_ok, strW_fz, if_pos q1, f2, if_pos (sz_le (show _ ≤ 100000 from Nat.le_trans q2 (by decide)))]
    have ap := app_found (s := st) (xs := x1 ++ x2) rfl (by rw [List.length_append]; omega) (Str.empty ++ ("tables " : Str) ++ num k)
    obtain ⟨y, ey⟩ := jn (x1 ++ x2 ++ [Str.empty ++ ("tables " : Str) ++ num k]) (by rw [List.length_append, List.length_append, List.length_singleton]; omega) (fun x hx => by
      rcases List.mem_append.mp hx with hx | hx
      · exact (List.mem_append.mp hx).elim (w1 x) (w2 x)
      · rw [List.mem_singleton] at hx; subst hx; exact q2) [some (.fz (sideD hs)), some (.fz (sideD gs)), some (.fz (deskD (some k))), some (.loc st.length), none, none] rfl
    refine ⟨y, ?_⟩
    have nd : noneW (.fz (deskD (some k))) = false := rfl
    generalize Str.empty ++ ("tables " : Str) ++ num k = z at ej ap ey
    unfold F_text_of fnD d_text_of
    simp only [List.map_append, List.append_assoc, List.map_cons, List.map_nil] at ext ey ap ej
    simp [c1, c2, ext, nd, sq, ey, ls, ej, ap]
/-! ### a fair is made -/
def fairD (hs gs : Side) (t : Option Int) (x : Str) : D := obD 0 [sideD hs, sideD gs, deskD t, .tuple (strsD ((hs ++ gs).map (·.1))), .str x]
theorem fld_step {f : Str} {d : D} {fs fs' : List (Str × D)} {b : Dn} {w : QD.W} {en : En} {st : Sto} (h0 : en[0]? = some (some (.loc st.length))) (hb : b en (st ++ [.ins 0 fs]) = .ok w (st ++ [.ins 0 fs])) (hd : datW w = some d) (hp : putD f d fs = fs') (hl : fs.length < 1000) :
    sFldD 0 f (dVar 0) b en (st ++ [.ins 0 fs]) = .go en (st ++ [.ins 0 fs']) := by
  have g := get_last (s := st) (o := .ins 0 fs) rfl
  have s' := set_last (s := st) (o := .ins 0 fs) (p := .ins 0 fs') rfl
  unfold sFldD
  simp [hb, h0, hd, g, hl, hp, s']
theorem putD_new {f : Str} {d : D} : ∀ {fs : List (Str × D)}, (∀ p ∈ fs, p.1 ≠ f) → putD f d fs = fs ++ [(f, d)]
  | [], _ => rfl
  | (g, x) :: r, h => by
    unfold putD
    rw [if_neg (h _ (List.mem_cons_self ..)), putD_new fun p hp => h p (List.mem_cons_of_mem _ hp)]
    rfl
/-! ### what a fair tells -/
theorem fair_ob {hs gs : Side} {t : Option Int} {x : Str} {st : Sto} : obW 0 ns_Fair st (.fz (fairD hs gs t x)) = some ns_Fair := rfl
end K08
/-! QW: runs forward: what must hold of how a piece ends (`wR`, `wS`), computed by simp from outside in. -/
namespace QD
open PySem PySem.Spec PyProof.Rows L2 MG
abbrev XP := Str → Option (Str × D) → Sto → Prop
abbrev noX : XP := fun _ _ _ => False
/-- keeps simp out of what comes after -/
inductive Tg {α : Type} (P : α → Sto → Prop) : Type
  | mk
inductive TgS (G : En → Sto → Prop) (R : W → Sto → Prop) (B C : En → Sto → Prop) : Type
  | mk
def wR {α : Type} (X : XP) (r : Rt α) (P : α → Sto → Prop) (_ : Tg P := .mk) : Prop := match r with
  | .ok a st => P a st
  | .ex c p st => X c p st
  | .no => False
/-- how a statement ends: it falls through, returns, breaks, continues -/
def wS (X : XP) (s : Sx) (G : En → Sto → Prop) (R : W → Sto → Prop) (B C : En → Sto → Prop) (_ : TgS G R B C := .mk) : Prop := match s with
  | .go en st => G en st
  | .rt w st => R w st
  | .bk en st => B en st
  | .ct en st => C en st
  | .ex c p st => X c p st
  | .no => False
section
variable {α β : Type} {X : XP} {P P' : α → Sto → Prop} {r r' : Rt α} {en : En} {st : Sto} {a b c : Dn} {x y : DnT} {xs : DnA} {G G' B B' C C' : En → Sto → Prop} {R R' : W → Sto → Prop} {s s' : Sx}
@[simp] theorem wR_ok {v : α} : wR X (.ok v st) P = P v st := (rfl)
@[simp] theorem wR_ex {c : Str} {p : Option (Str × D)} : wR X (.ex c p st : Rt α) P = X c p st := (rfl)
@[simp] theorem wR_no : wR X (.no : Rt α) P = False := (rfl)
@[simp] theorem wS_go : wS X (.go en st) G R B C = G en st := (rfl)
@[simp] theorem wS_rt {w : W} : wS X (.rt w st) G R B C = R w st := (rfl)
@[simp] theorem wS_bk : wS X (.bk en st) G R B C = B en st := (rfl)
@[simp] theorem wS_ct : wS X (.ct en st) G R B C = C en st := (rfl)
@[simp] theorem wS_ex {c : Str} {p : Option (Str × D)} : wS X (.ex c p st) G R B C = X c p st := (rfl)
@[simp] theorem wS_no : wS X .no G R B C = False := (rfl)
@[simp ↓] theorem wR_bind {f : α → Sto → Rt β} {P : β → Sto → Prop} : wR X (r.bind f) P = wR X r fun v st1 => wR X (f v st1) P := by cases r <;> rfl
@[simp ↓] theorem wS_sBind {f : α → Sto → Sx} : wS X (sBind r f) G R B C = wR X r fun v st1 => wS X (f v st1) G R B C := by cases r <;> rfl
@[simp] theorem wR_ite {p : Prop} [Decidable p] : wR X (if p then r else r') P = if p then wR X r P else wR X r' P := by split <;> rfl
@[simp] theorem wS_ite {p : Prop} [Decidable p] : wS X (if p then s else s') G R B C = if p then wS X s G R B C else wS X s' G R B C := by split <;> rfl
theorem wR_b2 {f : α → Sto → Rt β} {P : β → Sto → Prop} {Q : α → Sto → Prop} (h : ∀ v s, wR X (f v s) P = Q v s) : wR X (r.bind f) P = wR X r Q := by
  cases r with
  | ok v s => exact h v s
  | ex c q s => rfl
  | no => rfl
theorem wS_b2 {f : α → Sto → Sx} {Q : α → Sto → Prop} (h : ∀ v s, wS X (f v s) G R B C = Q v s) : wS X (sBind r f) G R B C = wR X r Q := by
  cases r with
  | ok v s => exact h v s
  | ex c q s => rfl
  | no => rfl
/-! what is known of a piece is used -/
theorem wR.use (h : wR noX r P') (k : ∀ v st, P' v st → P v st) : wR X r P := by
  cases r with
  | ok v st => exact k v st h
  | ex c p st => exact h.elim
  | no => exact h
theorem wS.use (h : wS noX s G' R' B' C') (kg : ∀ en st, G' en st → G en st) (kr : ∀ w st, R' w st → R w st) (kb : ∀ en st, B' en st → B en st) (kc : ∀ en st, C' en st → C en st) : wS X s G R B C := by
  cases s with
  | go en st => exact kg _ _ h
  | rt w st => exact kr _ _ h
  | bk en st => exact kb _ _ h
  | ct en st => exact kc _ _ h
  | ex c p st => exact h.elim
  | no => exact h
theorem wR.eq {v : α} {st1 : Sto} (h : wR noX r fun v' st' => v' = v ∧ st' = st1) : r = .ok v st1 := by
  cases r with
  | ok v st => obtain ⟨rfl, rfl⟩ := h; rfl
  | ex c p st => exact h.elim
  | no => exact h.elim
theorem wR.get (h : wR noX r P) : ∃ v st, r = .ok v st ∧ P v st := by
  cases r with
  | ok v st => exact ⟨v, st, rfl, h⟩
  | ex c p st => exact h.elim
  | no => exact h.elim
theorem wR.is {v : α} {st1 : Sto} (e : r = .ok v st1) (h : P v st1) : wR X r P := by rw [e]; exact h
/-! expressions -/
variable {Pw : W → Sto → Prop} {Pl : List W → Sto → Prop} {Pb : Bool → Sto → Prop}
@[simp ↓] theorem wR_dOp {f : W → W → Sto → Rt W} : wR X (dOp f a b en st) Pw = wR X (a en st) fun v st1 => wR X (b en st1) fun u st2 => wR X (f v u st2) Pw := by rw [dOp_eq]; exact wR_b2 fun _ _ => wR_bind
@[simp ↓] theorem wR_dUn {f : W → Sto → Rt W} : wR X (dUn f a en st) Pw = wR X (a en st) fun v st1 => wR X (f v st1) Pw := by rw [dUn_eq]; exact wR_b2 fun _ _ => rfl
@[simp ↓] theorem wR_aCons : wR X (aCons a xs en st) Pl = wR X (a en st) fun v st1 => wR X (xs en st1) fun vs st2 => Pl (v :: vs) st2 := by rw [aCons_eq]; exact wR_b2 fun _ _ => wR_b2 fun _ _ => rfl
@[simp ↓] theorem wR_dN {f : List W → Sto → Rt W} : wR X (dN f xs en st) Pw = wR X (xs en st) fun vs st1 => wR X (f vs st1) Pw := by rw [dN_eq]; exact wR_b2 fun _ _ => rfl
@[simp ↓] theorem wR_dLoc : wR X (dLoc a en st) Pw = wR X (a en st) fun v st1 => wR X (match v with
  | .own l => .ok (.loc st1.length) (st1 ++ [.lst l])
  | _ => .no) Pw := by rw [dLoc_eq]; exact wR_b2 fun _ _ => rfl
@[simp ↓] theorem wR_bT : wR X (bT a en st) Pb = wR X (a en st) fun v st1 => wR X (match tst v with
  | some b => .ok b st1
  | none => .no) Pb := by rw [bT_eq]; exact wR_b2 fun _ _ => rfl
@[simp ↓] theorem wR_bTru : wR X (bTru a en st) Pb = wR X (a en st) fun v st1 => wR X (match truW st1 v with
  | some b => .ok b st1
  | none => .no) Pb := by rw [bTru_eq]; exact wR_b2 fun _ _ => rfl
@[simp ↓] theorem wR_bAnd : wR X (bAnd x y en st) Pb = wR X (x en st) fun z st1 => if z = true then wR X (y en st1) Pb else Pb false st1 := by rw [bAnd_eq]; exact wR_b2 fun _ _ => wR_ite
@[simp ↓] theorem wR_bOr : wR X (bOr x y en st) Pb = wR X (x en st) fun z st1 => if z = true then Pb true st1 else wR X (y en st1) Pb := by rw [bOr_eq]; exact wR_b2 fun _ _ => wR_ite
@[simp ↓] theorem wR_bNot : wR X (bNot x en st) Pb = wR X (x en st) fun z st1 => Pb (!z) st1 := by rw [bNot_eq]; exact wR_b2 fun _ _ => rfl
@[simp ↓] theorem wR_dAnd : wR X (dAnd a b en st) Pw = wR X (a en st) fun v st1 => wR X (match tst v with
  | some true => b en st1
  | some false => .ok (.fz (.bool false)) st1
  | none => .no) Pw := by rw [dAnd_eq]; exact wR_b2 fun _ _ => rfl
@[simp ↓] theorem wR_dOr : wR X (dOr a b en st) Pw = wR X (a en st) fun v st1 => wR X (match tst v with
  | some true => .ok (.fz (.bool true)) st1
  | some false => b en st1
  | none => .no) Pw := by rw [dOr_eq]; exact wR_b2 fun _ _ => rfl
@[simp ↓] theorem wR_dNot : wR X (dNot a en st) Pw = wR X (a en st) fun v st1 => wR X (match tst v with
  | some b => .ok (.fz (.bool (!b))) st1
  | none => .no) Pw := by rw [dNot_eq]; exact wR_b2 fun _ _ => rfl
@[simp ↓] theorem wR_dIf : wR X (dIf x a b en st) Pw = wR X (x en st) fun z st1 => if z = true then wR X (a en st1) Pw else wR X (b en st1) Pw := by rw [dIf_eq]; exact wR_b2 fun _ _ => wR_ite
@[simp ↓] theorem wR_dChain {f g : W → W → Sto → Rt W} : wR X (dChain f g a b c en st) Pw = wR X (a en st) fun v st1 => wR X (b en st1) fun u st2 => wR X (f v u st2) fun z st3 => wR X (match tst z with
  | some true => (c en st3).bind fun u' st4 => g u u' st4
  | some false => .ok (.fz (.bool false)) st3
  | none => .no) Pw := by rw [dChain_eq]; exact wR_b2 fun _ _ => wR_b2 fun _ _ => wR_bind
@[simp ↓] theorem wR_dCall {n : Nat} {F : Fd} {ds : List W} : wR X (dCall n F ds xs en st) Pw = wR X (xs en st) fun ws st1 => wR X (if (ws.map frz ++ ds).length = n then F (ws.map frz ++ ds) st1 else .no) Pw := by rw [dCall_eq]; exact wR_b2 fun _ _ => rfl
@[simp ↓] theorem wR_dM {ty : Sto → W → Bool} {f : W → List W → Sto → Rt W} : wR X (dM ty f a xs en st) Pw = wR X (a en st) fun o st1 => if ty st1 o = true then wR X (xs en st1) fun ws st2 => wR X (f o ws st2) Pw else False := by rw [dM_eq]; exact wR_b2 fun _ _ => by split <;> first | exact wR_bind | rfl
@[simp ↓] theorem wR_dLc {i : En → Sto → Rt Src} {g : DnG} {t : DnT} {vs : List Nat} : wR X (dLc i g t a vs en st) Pw = wR X (i en st) fun s st1 => wR X (lcL s g t a (wipeE en vs) s.l [] st1) Pw := by rw [dLc_eq]; exact wR_b2 fun _ _ => rfl
@[simp ↓] theorem wR_iSeq {f : Sto → W → Option Src} {Ps : Src → Sto → Prop} : wR X (iSeq f a en st) Ps = wR X (a en st) fun v st1 => wR X (match f st1 v with
  | some s => .ok s st1
  | none => .no) Ps := by rw [iSeq_eq]; exact wR_b2 fun _ _ => rfl
@[simp ↓] theorem wR_iR {f : List Int → Option Src} {Ps : Src → Sto → Prop} : wR X (iR f xs en st) Ps = wR X (xs en st) fun ws st1 => wR X (match (intsW ws).bind f with
  | some s => .ok s st1
  | none => .no) Ps := by rw [iR_eq]; exact wR_b2 fun _ _ => rfl
/-! statements -/
variable {p q : DnS}
@[simp ↓] theorem wS_sSeq : wS X (sSeq p q en st) G R B C = wS X (p en st) (fun en1 st1 => wS X (q en1 st1) G R B C) R B C := by
  rw [sSeq_eq]
  cases p en st <;> rfl
@[simp ↓] theorem wS_sDrop : wS X (sDrop a en st) G R B C = wR X (a en st) fun _ st1 => G en st1 := by rw [sDrop_eq]; exact wS_b2 fun _ _ => rfl
@[simp ↓] theorem wS_sRet : wS X (sRet a en st) G R B C = wR X (a en st) fun v st1 => R v st1 := by rw [sRet_eq]; exact wS_b2 fun _ _ => rfl
@[simp ↓] theorem wS_sIf : wS X (sIf x p q en st) G R B C = wR X (x en st) fun z st1 => if z = true then wS X (p en st1) G R B C else wS X (q en st1) G R B C := by rw [sIf_eq]; exact wS_b2 fun _ _ => wS_ite
@[simp ↓] theorem wS_sSet {i : Nat} : wS X (sSet i a en st) G R B C = wR X (a en st) fun v st1 => G (en.set i (some (frz v))) st1 := by rw [sSet_eq]; exact wS_b2 fun _ _ => rfl
@[simp ↓] theorem wS_sPar {i j : Nat} : wS X (sPar i j xs en st) G R B C = wR X (xs en st) fun vs st1 => wS X (match vs with
  | [x, y] => .go ((en.set i (some (frz x))).set j (some (frz y))) st1
  | _ => .no) G R B C := by rw [sPar_eq]; exact wS_b2 fun _ _ => rfl
@[simp ↓] theorem wS_sPar3 {i j l : Nat} : wS X (sPar3 i j l xs en st) G R B C = wR X (xs en st) fun vs st1 => wS X (match vs with
  | [x, y, z] => .go (((en.set i (some (frz x))).set j (some (frz y))).set l (some (frz z))) st1
  | _ => .no) G R B C := by rw [sPar3_eq]; exact wS_b2 fun _ _ => rfl
@[simp ↓] theorem wS_sAsg {g : DnG} : wS X (sAsg a g en st) G R B C = wR X (a en st) fun v st1 => wR X (g v en st1) G := by
  rw [sAsg_eq, wS_sBind]
  cases a en st with
  | ok v st1 => simp only [wR_ok]; cases g v en st1 <;> rfl
  | ex c q s => rfl
  | no => rfl
@[simp ↓] theorem wS_sFor {i : En → Sto → Rt Src} {g : DnG} : wS X (sFor i g p en st) G R B C = wR X (i en st) fun s st1 => wS X (forL s g p s.l en st1) G R B C := by rw [sFor_eq]; exact wS_b2 fun _ _ => rfl
@[simp ↓] theorem wR_gSb {f : W → W → W → Sto → Option Sto} {w : W} {Pe : En → Sto → Prop} : wR X (gSb f a b w en st) Pe = wR X (a en st) fun v st1 => wR X (b en st1) fun u st2 => wR X (match f v u w st2 with
  | some st3 => .ok en st3
  | none => .no) Pe := by rw [gSb_eq]; exact wR_b2 fun _ _ => wR_bind
/-- a def -/
theorem wR_fnD {n : Nat} {ws : List W} {Pw : W → Sto → Prop} (h : wS X (p (ws.map some ++ List.replicate (n - ws.length) none) st) (fun _ st1 => Pw (.fz .none) (st1.take st.length)) (fun w st1 => wR X (match exitW st.length w st1 with
  | some (w', st') => .ok w' st'
  | none => .no) Pw) (fun _ _ => False) (fun _ _ => False)) (hX : ∀ c q st1, X c q st1 → X c q (st1.take st.length)) : wR X (fnD n p ws st) Pw := by
  unfold fnD
  cases e : p (ws.map some ++ List.replicate (n - ws.length) none) st with
  | go en st1 => rw [e] at h; exact h
  | rt w st1 => rw [e] at h; exact h
  | bk en st1 => rw [e] at h; exact h.elim
  | ct en st1 => rw [e] at h; exact h.elim
  | ex c q st1 => rw [e] at h; exact hX _ _ _ h
  | no => rw [e] at h; exact h.elim
@[simp ↓] theorem wR_fn {n : Nat} {ws : List W} {Pw : W → Sto → Prop} : wR noX (fnD n p ws st) Pw = wS noX (p (ws.map some ++ List.replicate (n - ws.length) none) st) (fun _ st1 => Pw (.fz .none) (st1.take st.length)) (fun w st1 => wR noX (match exitW st.length w st1 with
  | some (w', st') => .ok w' st'
  | none => .no) Pw) (fun _ _ => False) (fun _ _ => False) := by
  unfold fnD
  cases p (ws.map some ++ List.replicate (n - ws.length) none) st <;> rfl
/-! turns -/
theorem wS_forG (enc : α → D) (xs : List α) (I : Nat → En → Sto → Prop) {sr : Src} {g : DnG} {l : List D} (hl : l = xs.map enc) (h0 : I 0 en st)
    (hs : ∀ i x en st, xs[i]? = some x → I i en st → sr.ok st ∧ wR X (g (.fz (enc x)) en st) fun en1 st1 => wS X (p en1 st1) (I (i + 1)) R G (I (i + 1)))
    (he : ∀ en st, I xs.length en st → sr.ok st ∧ G en st) : wS X (forL sr g p l en st) G R B C := by
  subst hl
  have main : ∀ (ys : List α) (k : Nat) (en : En) (st : Sto), ys = xs.drop k → k ≤ xs.length → I k en st → wS X (forL sr g p (ys.map enc) en st) G R B C := by
    intro ys
    induction ys with
    | nil =>
      intro k en st e hk h
      have : k = xs.length := by
        have := congrArg List.length e
        rw [List.length_drop, List.length_nil] at this
        omega
      subst this
      obtain ⟨ok, hg⟩ := he en st h
      rw [List.map_nil]
      unfold forL
      rw [if_pos ok]
      exact hg
    | cons y ys ih =>
      intro k en st e hk h
      have hk' : k < xs.length := by
        have := congrArg List.length e
        rw [List.length_drop, List.length_cons] at this
        omega
      have hy : xs[k]? = some y := by
        rw [List.drop_eq_getElem_cons hk'] at e
        rw [List.getElem?_eq_getElem hk', (List.cons.inj e).1]
      have hys : ys = xs.drop (k + 1) := by
        rw [List.drop_eq_getElem_cons hk'] at e
        exact (List.cons.inj e).2
      obtain ⟨ok, hb⟩ := hs k y en st hy h
      rw [List.map_cons]
      unfold forL
      rw [if_pos ok]
      cases e1 : g (.fz (enc y)) en st with
      | no => rw [e1] at hb; exact hb
      | ex c q st1 => rw [e1] at hb; exact hb
      | ok en1 st1 =>
        rw [e1, wR_ok] at hb
        dsimp only
        cases e2 : p en1 st1 with
        | go en2 st2 => rw [e2] at hb; exact ih (k + 1) en2 st2 hys (by omega) hb
        | ct en2 st2 => rw [e2] at hb; exact ih (k + 1) en2 st2 hys (by omega) hb
        | bk en2 st2 => rw [e2] at hb; exact hb
        | rt w st2 => rw [e2] at hb; exact hb
        | ex c q st2 => rw [e2] at hb; exact hb
        | no => rw [e2] at hb; exact hb
  exact main xs 0 en st rfl (Nat.zero_le _) h0
theorem wS_for (enc : α → D) (xs : List α) (I : Nat → En → Sto → Prop) {l0 : List D} {g : DnG} {l : List D} (hl : l = xs.map enc) (h0 : I 0 en st)
    (hs : ∀ i x en st, xs[i]? = some x → I i en st → wR X (g (.fz (enc x)) en st) fun en1 st1 => wS X (p en1 st1) (I (i + 1)) R G (I (i + 1)))
    (he : ∀ en st, I xs.length en st → G en st) : wS X (forL ⟨l0, none⟩ g p l en st) G R B C :=
  wS_forG enc xs I hl h0 (fun i x en st h1 h2 => ⟨trivial, hs i x en st h1 h2⟩) fun en st h => ⟨trivial, he en st h⟩
theorem wS_rng (k : Nat) (I : Nat → En → Sto → Prop) {l0 : List D} {g : DnG} (h0 : I 0 en st)
    (hs : ∀ i en st, i < k → I i en st → wR X (g (.fz (.int (i : Int))) en st) fun en1 st1 => wS X (p en1 st1) (I (i + 1)) R G (I (i + 1)))
    (he : ∀ en st, I k en st → G en st) : wS X (forL (rngS 0 k) g p (rngS 0 k).l en st) G R B C :=
  wS_for (fun i : Nat => .int (0 + (i : Int))) (List.range k) I rfl h0 (fun i x en st h1 h2 => by
    have hi : i < k := by
      have := (List.getElem?_eq_some_iff.mp h1).1
      rwa [List.length_range] at this
    rw [List.getElem?_range hi] at h1
    cases h1
    rw [Int.zero_add]
    exact hs i en st hi h2) (fun en st h => he en st (by rwa [List.length_range] at h))
@[simp ↓] theorem wS_sWhile {n : En → Sto → Nat} {d : DnT} : wS X (sWhile n d p en st) G R B C = wS X (whlL d p (n en st) en st) G R B C := (rfl)
/-! comprehensions -/
/-- items that may change the store: J before the item i, what comes of it by Rl -/
theorem wR_lcS (enc : α → D) (dec : β → D) (xs : List α) (J : Nat → Sto → Prop) (Rl : Nat → α → β → Prop) {l0 l : List D} {g : DnG} {e : Dn} {Pw : W → Sto → Prop} (hl : l = xs.map enc) (hz : xs.length ≤ 100000) (h0 : J 0 st)
    (hs : ∀ i x st, xs[i]? = some x → J i st → wR noX (g (.fz (enc x)) en st) fun en2 st2 => wR noX (e en2 st2) fun w st4 => ∃ y, datW w = some (dec y) ∧ Rl i x y ∧ J (i + 1) st4)
    (he : ∀ (ys : List β) st, ys.length = xs.length → (∀ i x y, xs[i]? = some x → ys[i]? = some y → Rl i x y) → J xs.length st → Pw (.own (ys.map dec)) st) : wR X (lcL ⟨l0, none⟩ g (fun _ st => .ok true st) e en l [] st) Pw := by
  subst hl
  have sz : 100000 ≤ sizeLine := by decide
  have main : ∀ (zs : List α) (ys : List β) (st : Sto), zs = xs.drop ys.length → ys.length ≤ xs.length → (∀ i x y, xs[i]? = some x → ys[i]? = some y → Rl i x y) → J ys.length st →
      wR X (lcL ⟨l0, none⟩ g (fun _ st => .ok true st) e en (zs.map enc) (ys.map dec) st) Pw := by
    intro zs
    induction zs with
    | nil =>
      intro ys st e1 hk hr h
      have e2 : ys.length = xs.length := by
        have := congrArg List.length e1
        rw [List.length_drop, List.length_nil] at this
        omega
      rw [List.map_nil]
      unfold lcL
      rw [if_pos (show Src.ok ⟨l0, none⟩ st from trivial)]
      exact he ys st e2 hr (e2 ▸ h)
    | cons z zs ih =>
      intro ys st e1 hk hr h
      have hk' : ys.length < xs.length := by
        have := congrArg List.length e1
        rw [List.length_drop, List.length_cons] at this
        omega
      have hz' : xs[ys.length]? = some z := by
        rw [List.drop_eq_getElem_cons hk'] at e1
        rw [List.getElem?_eq_getElem hk', (List.cons.inj e1).1]
      have hzs : zs = xs.drop (ys.length + 1) := by
        rw [List.drop_eq_getElem_cons hk'] at e1
        exact (List.cons.inj e1).2
      obtain ⟨en2, st2, q1, h2⟩ := (hs _ z st hz' h).get
      obtain ⟨w, st4, q2, y, q3, r, j⟩ := h2.get
      rw [List.map_cons]
      unfold lcL
      rw [if_pos (show Src.ok ⟨l0, none⟩ st from trivial), q1, nox_ok, Rt.bind_ok, nox_ok, Rt.bind_ok, if_pos rfl, q2, nox_ok, Rt.bind_ok, q3]
      dsimp only
      rw [if_pos (by rw [List.length_map]; omega)]
      have hl1 : (ys ++ [y]).length = ys.length + 1 := by rw [List.length_append, List.length_singleton]
      have := ih (ys ++ [y]) st4 (by rw [hl1]; exact hzs) (by omega) (fun i x' y' hx hy => by
        by_cases c : i < ys.length
        · rw [List.getElem?_append_left c] at hy
          exact hr i x' y' hx hy
        · rw [List.getElem?_append_right (by omega)] at hy
          have c' : i = ys.length := by
            have := (List.getElem?_eq_some_iff.mp hy).1
            rw [List.length_singleton] at this
            omega
          subst c'
          rw [Nat.sub_self] at hy
          cases hy
          rw [hz'] at hx
          cases hx
          exact r) (by rw [hl1]; exact j)
      rw [List.map_append] at this
      exact this
  exact main xs [] st (by simp) (by simp) (fun i x y _ hy => by simp at hy) h0
/-- each item by itself -/
theorem wR_lcM (enc : α → D) (xs : List α) (f : α → D) {l0 l : List D} {g : DnG} {e : Dn} {Pw : W → Sto → Prop} (hl : l = xs.map enc) (hz : xs.length ≤ 100000)
    (hs : ∀ x ∈ xs, wR noX (g (.fz (enc x)) en st) fun en2 st2 => wR noX (e en2 st2) fun w st4 => datW w = some (f x) ∧ st4 = st)
    (he : Pw (.own (xs.map f)) st) : wR X (lcL ⟨l0, none⟩ g (fun _ st => .ok true st) e en l [] st) Pw := by
  refine wR_lcS enc (fun d : D => d) xs (fun _ s => s = st) (fun _ x y => y = f x) hl hz rfl (fun i x s hx hj => ?_) fun ys s hy hr hj => ?_
  · subst hj
    exact (hs x (List.mem_of_getElem? hx)).use fun en2 st2 h2 => h2.use fun w st4 h => ⟨f x, h.1, rfl, h.2⟩
  · subst hj
    have : ys = xs.map f := by
      apply List.ext_getElem?
      intro i
      rw [List.getElem?_map]
      by_cases c : i < xs.length
      · rw [List.getElem?_eq_getElem c, List.getElem?_eq_getElem (by omega : i < ys.length)]
        have := hr i xs[i] ys[i] (List.getElem?_eq_getElem c) (List.getElem?_eq_getElem (by omega))
        rw [this]; rfl
      · rw [List.getElem?_eq_none (by omega), List.getElem?_eq_none (by omega)]; rfl
    rw [List.map_id', this]
    exact he
/-- .. with a test -/
theorem wR_lcF (enc : α → D) (xs : List α) (t : α → Bool) (f : α → D) {l0 l : List D} {g : DnG} {tt : DnT} {e : Dn} {Pw : W → Sto → Prop} (hl : l = xs.map enc) (hz : xs.length ≤ 100000)
    (hs : ∀ x ∈ xs, wR noX (g (.fz (enc x)) en st) fun en2 st2 => wR noX (tt en2 st2) fun z st3 => z = t x ∧ st3 = st ∧ st2 = st ∧ (t x = true → wR noX (e en2 st) fun w st4 => datW w = some (f x) ∧ st4 = st))
    (he : Pw (.own ((xs.filter t).map f)) st) : wR X (lcL ⟨l0, none⟩ g tt e en l [] st) Pw := by
  subst hl
  have sz : 100000 ≤ sizeLine := by decide
  have main : ∀ (zs : List α) (acc : List D), (∀ z ∈ zs, z ∈ xs) → acc.length + zs.length ≤ 100000 → lcL ⟨l0, none⟩ g tt e en (zs.map enc) acc st = .ok (.own (acc ++ (zs.filter t).map f)) st := by
    intro zs
    induction zs with
    | nil => intro acc _ _; rw [List.map_nil]; unfold lcL; rw [if_pos (show Src.ok ⟨l0, none⟩ st from trivial)]; simp
    | cons z zs ih =>
      intro acc hm hl
      rw [List.length_cons] at hl
      obtain ⟨en2, st2, q1, h2⟩ := (hs z (hm z (List.mem_cons_self ..))).get
      obtain ⟨k, st3, q2, rfl, rfl, rfl, h3⟩ := h2.get
      rw [List.map_cons]
      unfold lcL
      rw [if_pos (show Src.ok ⟨l0, none⟩ _ from trivial), q1, nox_ok, Rt.bind_ok, q2, nox_ok, Rt.bind_ok]
      cases c : t z with
      | false => rw [if_neg Bool.false_ne_true, ih acc (fun z' h => hm z' (List.mem_cons_of_mem _ h)) (by omega), List.filter_cons_of_neg (by rw [c]; exact Bool.false_ne_true)]
      | true =>
        obtain ⟨w, st4, q3, q4, rfl⟩ := (h3 c).get
        rw [if_pos rfl, q3, nox_ok, Rt.bind_ok, q4]
        dsimp only
        rw [if_pos (by omega), ih _ (fun z' h => hm z' (List.mem_cons_of_mem _ h)) (by rw [List.length_append, List.length_singleton]; omega), List.filter_cons_of_pos c, List.map_cons, List.append_assoc]
        rfl
  rw [main xs [] (fun _ h => h) (by simpa using hz), wR_ok, List.nil_append]
  exact he
@[simp ↓] theorem wR_dLc2 {i i1 : En → Sto → Rt Src} {g g1 : DnG} {t t1 : DnT} {e : Dn} {vs vs1 : List Nat} {Pw : W → Sto → Prop} : wR X (dLc2 i g t i1 g1 t1 e vs vs1 en st) Pw = wR X (i en st) fun s st1 => wR X (lc2L s g t i1 g1 t1 e vs1 (wipeE en vs) s.l [] st1) Pw := by unfold dLc2; (simp only [wR_bind]) <;> rfl
end
end QD
namespace QD
open PySem PySem.Spec PyProof.Rows L2 MG
section
variable {X : XP} {en : En} {st : Sto} {G B C : En → Sto → Prop} {R : W → Sto → Prop} {p : DnS} {g : DnG}
theorem wS_forCons {l0 ds : List D} {d : D} : wS X (forL ⟨l0, none⟩ g p (d :: ds) en st) G R B C = wR X (g (.fz d) en st) fun en1 st1 => wS X (p en1 st1) (fun en2 st2 => wS X (forL ⟨l0, none⟩ g p ds en2 st2) G R B C) R G (fun en2 st2 => wS X (forL ⟨l0, none⟩ g p ds en2 st2) G R B C) := by
  conv => lhs; unfold forL
  rw [if_pos (show Src.ok ⟨l0, none⟩ st from trivial)]
  cases g (.fz d) en st with
  | ok en1 st1 => dsimp only; rw [wR_ok]; cases p en1 st1 <;> rfl
  | ex c q s => rfl
  | no => rfl
theorem wS_forNil {l0 : List D} : wS X (forL ⟨l0, none⟩ g p [] en st) G R B C = G en st := by
  conv => lhs; unfold forL
  rw [if_pos (show Src.ok ⟨l0, none⟩ st from trivial)]
  rfl
@[simp ↓] theorem wS_sParL {is : List Nat} {xs : DnA} : wS X (sParL is xs en st) G R B C = wR X (xs en st) fun vs st1 => wS X (match setW en is vs with
  | some en' => .go en' st1
  | none => .no) G R B C := by rw [sParL_eq]; exact wS_b2 fun _ _ => rfl
@[simp ↓] theorem wR_nox {α : Type} {X : XP} {r : Rt α} {P : α → Sto → Prop} : wR X (nox r) P = wR noX r P := by cases r <;> rfl
end
end QD
/-! QR: what is shown stays short. -/
namespace MU
open PySem PySem.Spec PyProof.Rows L2 MG QD
def CO (x : Str) : Prop := ∀ c ∈ x.cps.toList, c < 16 ^ 8
theorem CO.app {x y : Str} (h : CO x) (g : CO y) : CO (x ++ y) := fun c hc => by
  rw [app_cps] at hc
  rcases List.mem_append.mp hc with h' | h'
  · exact h c h'
  · exact g c h'
theorem CO.dec {x : Str} (h : x.cps.toList.all (fun c => decide (c < 16 ^ 8)) = true) : CO x := fun c hc => by
  simpa using List.all_eq_true.mp h c hc
theorem CO.join {sep : Str} (hs : CO sep) : ∀ ys : List Str, (∀ y ∈ ys, CO y) → CO (Str.join sep ys)
  | [], _ => fun c hc => by cases hc
  | [x], h => h x (List.mem_singleton.mpr rfl)
  | x :: y :: r, h => by
    show CO (x ++ sep ++ Str.join sep (y :: r))
    exact ((h x (List.mem_cons_self ..)).app hs).app (CO.join hs (y :: r) fun z hz => h z (List.mem_cons_of_mem _ hz))
theorem CO.num {i : Int} (h0 : 0 ≤ i) (h : i < 100) : CO (num i) := by
  have q : ∀ j : _root_.Fin 100, (MU.num (j.val : Int)).cps.toList.all (fun c => decide (c < 16 ^ 8)) = true := by decide +kernel
  have := q ⟨i.toNat, by omega⟩
  rw [show ((⟨i.toNat, by omega⟩ : _root_.Fin 100).val : Int) = i by show ((i.toNat : Nat) : Int) = i; omega] at this
  exact CO.dec this
theorem CO.nm {x : Str} (h : Nm x) : CO x := fun c hc => by
  unfold Nm at h
  cases e : x.cps.toList with
  | nil => rw [e] at hc; cases hc
  | cons a r =>
    rw [e] at h hc
    have h' : (lowB a && decide (r.length ≤ 7) && r.all signB) = true := h
    simp only [Bool.and_eq_true, decide_eq_true_eq] at h'
    obtain ⟨⟨h1, _⟩, h3⟩ := h'
    have b : ∀ z, signB z = true → z < 16 ^ 8 := fun z hz => by
      unfold signB lowB at hz
      simp only [Bool.or_eq_true, decide_eq_true_eq] at hz
      omega
    rcases List.mem_cons.mp hc with rfl | hc
    · exact b _ (by unfold signB; rw [h1]; rfl)
    · exact b _ (List.all_eq_true.mp h3 c hc)
theorem shown40 {i : Int} (h : i.natAbs < 10 ^ 39) : (PyData.shown (.int i)).length ≤ 40 := by
  have e := int_text_length_le10 (k := 39) (by decide) h
  show (Str.ofString (toString i)).length ≤ 40
  rw [PySem.ofString_length]; exact e
structure Sh (d : PyData) (e b : Nat) : Prop where
  s : d.showable = true
  n : d.hasDict = false
  l : d.leavesShort 40 = true
  dp : d.depth ≤ e
  bk : d.bulk ≤ b
structure ShA (d : List PyData) (e b : Nat) : Prop where
  s : PyData.showableAll d = true
  n : PyData.hasDictAll d = false
  l : PyData.leavesShortAll 40 d = true
  dp : PyData.depthAll d ≤ e
  bk : PyData.bulkAll d ≤ b
theorem Sh.non : Sh .none 0 0 := ⟨rfl, rfl, rfl, Nat.le_refl _, Nat.le_refl _⟩
theorem Sh.bl (b : Bool) : Sh (.bool b) 0 0 := ⟨rfl, rfl, rfl, Nat.le_refl _, Nat.le_refl _⟩
theorem Sh.int {i : Int} (h : i.natAbs < 10 ^ 39) : Sh (.int i) 0 0 := ⟨by
  have : i.natAbs < 2 ^ 1920 := Nat.lt_of_lt_of_le h (by decide +kernel)
  simp only [PyData.showable]
  apply decide_eq_true
  by_cases e : i.natAbs = 0
  · rw [e]; decide +kernel
  · exact (Nat.log2_lt e).mpr this, rfl, by simp only [PyData.leavesShort]; exact decide_eq_true (shown40 h), Nat.le_refl _, Nat.le_refl _⟩
theorem Sh.str {x : Str} (h : CO x) : Sh (.str x) 0 x.length := ⟨rfl, rfl, by
  simp only [PyData.leavesShort]
  exact List.all_eq_true.mpr fun c hc => decide_eq_true (Nat.lt_of_lt_of_le (h c hc) (by decide)), Nat.le_refl _, Nat.le_refl _⟩
theorem Sh.mono {d : PyData} {e b e' b' : Nat} (h : Sh d e b) (h1 : e ≤ e') (h2 : b ≤ b') : Sh d e' b' := ⟨h.s, h.n, h.l, Nat.le_trans h.dp h1, Nat.le_trans h.bk h2⟩
theorem ShA.nil {e b : Nat} : ShA [] e b := ⟨rfl, rfl, rfl, Nat.zero_le _, Nat.zero_le _⟩
theorem ShA.cons {d : PyData} {ds : List PyData} {e b c : Nat} (h : Sh d e b) (g : ShA ds e c) : ShA (d :: ds) e (b + 1 + c) := ⟨by
  simp only [PyData.showableAll, h.s, g.s, Bool.and_self], by simp only [PyData.hasDictAll, h.n, g.n, Bool.or_self], by simp only [PyData.leavesShortAll, h.l, g.l, Bool.and_self], by
  simp only [PyData.depthAll]; exact Nat.max_le.mpr ⟨h.dp, g.dp⟩, by
  simp only [PyData.bulkAll]; have := h.bk; have := g.bk; omega⟩
theorem ShA.tup {ds : List PyData} {e b : Nat} (g : ShA ds e b) : Sh (.tuple ds) (e + 1) b := ⟨by simp only [PyData.showable, g.s], by simp only [PyData.hasDict, g.n], by simp only [PyData.leavesShort, g.l], by simp only [PyData.depth]; exact Nat.succ_le_succ g.dp, by simp only [PyData.bulk]; exact g.bk⟩
theorem ShA.lst {ds : List PyData} {e b : Nat} (g : ShA ds e b) : Sh (.list ds) (e + 1) b := ⟨by simp only [PyData.showable, g.s], by simp only [PyData.hasDict, g.n], by simp only [PyData.leavesShort, g.l], by simp only [PyData.depth]; exact Nat.succ_le_succ g.dp, by simp only [PyData.bulk]; exact g.bk⟩
theorem ShA.map {α : Type} {f : α → PyData} {e b : Nat} : ∀ l : List α, (∀ x ∈ l, Sh (f x) e b) → ShA (l.map f) e (l.length * (b + 1))
  | [], _ => ShA.nil
  | x :: l, h => by
    have := ShA.cons (h x (List.mem_cons_self ..)) (ShA.map l fun y hy => h y (List.mem_cons_of_mem _ hy))
    rw [List.length_cons, Nat.add_mul, Nat.one_mul, Nat.add_comm]
    exact this
theorem Sh.fits {d : PyData} {e b : Nat} (h : Sh d e b) (he : e ≤ 60) (hb : b ≤ 100000) : d.showable = true ∧ d.hasDict = false ∧ d.depth ≤ 60 ∧ d.shown.length ≤ 16777216 := by
  refine ⟨h.s, h.n, Nat.le_trans h.dp he, ?_⟩
  have := PyData.shown_le_bulk 40 (by decide) d h.l
  have := h.bk
  omega

mutual
theorem plain_of : ∀ {d : PyData}, d.hasDict = false → QD.plain d = true
  | .none, _ => rfl
  | .bool _, _ => rfl
  | .int _, _ => rfl
  | .str _, _ => rfl
  | .list l, h => by unfold QD.plain; exact plainA_of (by simpa only [PyData.hasDict] using h)
  | .tuple l, h => by unfold QD.plain; exact plainA_of (by simpa only [PyData.hasDict] using h)
  | .dict l, h => by simp only [PyData.hasDict] at h; cases h
theorem plainA_of : ∀ {l : List PyData}, PyData.hasDictAll l = false → plainA l = true
  | [], _ => rfl
  | d :: l, h => by
    simp only [PyData.hasDictAll, Bool.or_eq_false_iff] at h
    unfold plainA
    rw [plain_of h.1, plainA_of h.2]
    rfl
end
theorem Sh.rep {d : PyData} {e b : Nat} (h : Sh d e b) (he : e ≤ 60) (hb : b ≤ 100000) {w : QD.W} {st : Sto} (hw : lookW st w = some d) : fRepr w st = .ok (.fz (.str d.shown)) st := by
  obtain ⟨h1, h2, h3, h4⟩ := h.fits he hb
  have : shOk d = true := by
    unfold shOk
    rw [plainE_of (plain_of h2), h1, decide_eq_true h3, decide_eq_true h4]
    rfl
  unfold fRepr
  rw [hw]
  dsimp only
  rw [if_pos this]
end MU
/-! XW: what is told, reckoned. -/
namespace QD
open PySem PySem.Spec PyProof.Rows L2 MG
@[simp] theorem sBind_exc {α : Type} {c : Str} {p : Option (Str × D)} {st : Sto} {f : α → Sto → Sx} : sBind (.ex c p st : Rt α) f = .ex c p st := (rfl)
@[simp] theorem bind_exc {α β : Type} {c : Str} {p : Option (Str × D)} {st : Sto} {f : α → Sto → Rt β} : (Rt.ex c p st : Rt α).bind f = .ex c p st := (rfl)
theorem wS.rt {s : Sx} {w : W} {st : Sto} (h : wS noX s (fun _ _ => False) (fun w' st' => w' = w ∧ st' = st) (fun _ _ => False) (fun _ _ => False)) : s = .rt w st := by
  cases s with
  | rt w' st' => obtain ⟨rfl, rfl⟩ := h; rfl
  | _ => exact h.elim
theorem dTold_at {k P : Nat} {q : Str} {d : Dn} {n : Nat} {b : Nat → (Sto → Rt W) → DnS} {en : En} {st st1 : Sto} {w : W} (h : st[k]? = some (.tab P q)) (hb : ∀ f c, fnD n (b f fun st => d en st) [.fz (fnDat f c q)] st = .ok w st1) : dTold k P q d n b en st = .ok w st1 := by
  unfold dTold
  rw [h]
  dsimp only
  rw [if_pos ⟨rfl, rfl⟩]
  exact anyF_eq fun f c => by rw [hb]; rfl
theorem isFn_dat {f c : Nat} {q : Str} : isFn f (some (some (.fz (fnDat f c q)))) = true := by
  unfold isFn fnDat
  simp
/-- what is called answers -/
theorem sTry_ok {f n y i c0 : Nat} {q : Str} {lam : Sto → Rt W} {suite : XI → DnS} {en : En} {st st1 : Sto} {w : W} (hf : en[0]? = some (some (.fz (fnDat f c0 q)))) (hl : lam st = .ok w st1) : sTry f n y i lam suite en st = .go (en.set y (some (frz w))) st1 := by
  unfold sTry
  rw [hf, isFn_dat, if_pos rfl, hl]
/-- it lets an error out, and the suite returns -/
theorem sTry_ex {f n y i c0 : Nat} {q c : Str} {p : Option (Str × D)} {lam : Sto → Rt W} {suite : XI → DnS} {en : En} {st st1 st2 : Sto} {w : W} (hf : en[0]? = some (some (.fz (fnDat f c0 q)))) (hl : lam st = .ex c p st1) (hk : kOf c < n)
    (hs : ∀ a x, suite ⟨a, c, p.map fun _ => x⟩ (en.set i (some (.fz (excDat a x p)))) st1 = .rt w st2) : sTry f n y i lam suite en st = .rt w st2 := by
  unfold sTry
  rw [hf, isFn_dat, if_pos rfl, hl]
  dsimp only
  rw [if_pos hk]
  exact anyX_eq fun a x => by rw [hs]; rfl
theorem isX_dat {a x : Nat} {c : Str} {p : Option (Str × D)} : isX ⟨a, c, p.map fun _ => x⟩ (.fz (excDat a x p)) = true := by
  cases p with
  | none => unfold isX excDat; simp
  | some z => obtain ⟨f, d⟩ := z; unfold isX excDat; simp
theorem dIsX_at {x : XI} {col : List Bool} {i : Nat} {en : En} {st : Sto} {w : W} (h : en[i]? = some (some w)) (hx : isX x w = true) (hk : kOf x.c < col.length) : dIsX x col (dVar i) en st = .ok (.fz (.bool (col.getD (kOf x.c) false))) st := by
  unfold dIsX
  rw [dVar_eq, h]
  dsimp only
  rw [Rt.bind_ok, if_pos ⟨hx, hk⟩]
theorem dCallX_eq {n : Nat} {F : XI → Fd} {x : XI} {a : DnA} {en : En} {st : Sto} : dCallX n F x a en st = (a en st).bind fun ws st1 => if ws.length = n then nox (F x (ws.map frz) st1) else .no := rfl
theorem wR_dCallX {X : XP} {n : Nat} {F : XI → Fd} {x : XI} {a : DnA} {en : En} {st : Sto} {Pw : W → Sto → Prop} : wR X (dCallX n F x a en st) Pw = wR X (a en st) fun ws st1 => wR X (if ws.length = n then nox (F x (ws.map frz) st1) else .no) Pw := by rw [dCallX_eq]; exact wR_b2 fun _ _ => rfl
section
variable {X : XP} {en : En} {st : Sto} {a b : Dn} {xs : DnA} {Pw : W → Sto → Prop}
@[simp ↓] theorem wR_dPick : wR X (dPick xs b en st) Pw = wR X (xs en st) fun ws st1 => if ws.length ≤ sizeLine then wR X (b en st1) fun y st2 => wR X (pickW ws y st2) Pw else False := by
  show wR X ((xs en st).bind _) Pw = _
  refine wR_b2 fun ws st1 => ?_
  rw [wR_ite]
  congr 1
  rw [wR_bind]
@[simp] theorem dRev_eq {o : DnO} : dRev a o en st = (a en st).bind fun x st1 => (o en st1).bind fun i st2 => match tupW x, i with
  | some l, some i => if i = -1 then .ok (.fz (.tuple l.reverse)) st2 else .no
  | _, _ => .no := (rfl)
@[simp] theorem fEqT0_eq {l : List D} : fEqT0 (.fz (.tuple l)) (.fz (.tuple [])) st = .ok (.fz (.bool l.isEmpty)) st := (rfl)
end
@[simp] theorem dEmp_eq {en : En} {st : Sto} : dEmp en st = .ok (.fz (.dict [])) st := (rfl)
end QD
/-! MC04: values of any kind: pairs, names, whole numbers, members. -/
namespace K08
open PySem PySem.Spec PyProof.Rows L2 MG QD MU
/-- values as the law draws them: no dict but an empty one -/
def flt : D → Bool
  | .dict l => l.isEmpty
  | _ => true
theorem isi_any {d : D} (h : flt d = true) {st : Sto} :
    fIsi (.fz d) (.fz (tyD "tuple")) st = .ok (.fz (.bool (match d with | .tuple _ => true | _ => false))) st ∧
    fIsi (.fz d) (.fz (tyD "str")) st = .ok (.fz (.bool (match d with | .str _ => true | _ => false))) st ∧
    fIsi (.fz d) (.fz (tyD "int")) st = .ok (.fz (.bool (match d with | .int _ => true | .bool _ => true | _ => false))) st ∧
    fIsi (.fz d) (.fz (tyD "bool")) st = .ok (.fz (.bool (match d with | .bool _ => true | _ => false))) st := by
  rw [isi_eq, isi_eq, isi_eq, isi_eq, cls_tup, cls_str, cls_int, cls_bool]
  cases d with
  | dict l =>
    cases l with
    | nil => exact ⟨rfl, rfl, rfl, rfl⟩
    | cons _ _ => cases h
  | _ => exact ⟨rfl, rfl, rfl, rfl⟩
theorem is_pair_any {d : D} (h : flt d = true) {st : Sto} : F_is_pair [.fz d] st = .ok (.fz (.bool (match d with | .tuple [_, _] => true | _ => false))) st := by
  have it := fun s => (isi_any h (st := s)).1
  apply wR.eq
  unfold F_is_pair d_is_pair
  cases d with
  | tuple l =>
    have ln : ∀ s, fLen (.fz (.tuple l)) s = .ok (.fz (.int (l.length : Nat))) s := fun s => by unfold fLen; simp
    match l, ln with
    | [], ln => simp [it, ln, fEq, scaD, eqS]
    | [a], ln => simp [it, ln, fEq, scaD, eqS]
    | [a, b], ln => simp [it, ln, fEq, scaD, eqS]
    | a :: b :: c :: r, ln =>
      have e : ¬ (((a :: b :: c :: r).length : Nat) : Int) = 2 := by simp only [List.length_cons]; omega
      generalize (((a :: b :: c :: r).length : Nat) : Int) = n at *
      simp [it, ln, fEq, scaD, eqS, e]
  | _ => simp [it]
theorem is_integer_any {d : D} (h : flt d = true) {a b : Int} {st : Sto} : F_is_integer [.fz d, .fz (.int a), .fz (.int b)] st = .ok (.fz (.bool (match d with | .int v => decide (a ≤ v) && decide (v ≤ b) | _ => false))) st := by
  have ii := fun s => (isi_any h (st := s)).2.2.1
  have ib := fun s => (isi_any h (st := s)).2.2.2
  apply wR.eq
  unfold F_is_integer d_is_integer
  cases d with
  | int v =>
    by_cases h1 : a ≤ v <;> by_cases h2 : v ≤ b <;> simp [ii, ib, h1, h2]
  | _ => simp [ii, ib]
def nameB (x : Str) : Bool := nameL x.cps.toList
theorem nameB_len {x : Str} (h : ¬ (1 ≤ x.length ∧ x.length ≤ 8)) : nameB x = false := by
  have len : x.cps.toList.length = x.length := Array.length_toList
  unfold nameB
  cases e : x.cps.toList with
  | nil => rfl
  | cons c r =>
    rw [e, List.length_cons] at len
    have hr : ¬ r.length ≤ 7 := by omega
    rw [show nameL (c :: r) = (lowB c && decide (r.length ≤ 7) && r.all signB) from rfl, decide_eq_false hr]
    simp
theorem bl_signs : ∀ l : List Nat, blL (l.map fun c => PyData.bool (signB c)) = some (l.map signB) := fun l => by
  induction l with
  | nil => rfl
  | cons a l ih => show (blL (l.map fun c => PyData.bool (signB c))).map _ = _; rw [ih]; rfl
theorem is_name_str {x : Str} (hx : x.length ≤ 100) {st : Sto} : F_is_name [.fz (.str x)] st = .ok (.fz (.bool (nameB x))) st := by
  have ls : x.length ≤ sizeLine := sz_le (by omega)
  have e2 : ∀ s, fLenS (.fz (.str x)) s = .ok (.fz (.int x.length)) s := fun s => by
    unfold fLenS
    simp only [strW_fz, if_pos ls]
  have si : ∀ s, fIsi (.fz (.str x)) (.fz (tyD "str")) s = .ok (.fz (.bool true)) s := fun s => isi_str
  by_cases hl : 1 ≤ x.length ∧ x.length ≤ 8
  · have len : x.cps.toList.length = x.length := Array.length_toList
    cases ex : x.cps.toList with
    | nil => rw [ex] at len; simp at len; omega
    | cons c r =>
      have e : c_is_name_1 [some (.fz (.str x)), none] st = .ok (.own (x.cps.toList.map fun c => .bool (signB c))) st := by
        unfold c_is_name_1
        simp only [dLc_eq, iSeq_eq, dVar_eq, List.getElem?_cons_zero, Rt.bind_ok, srcS_fz]
        rw [lcL_map (f := fun d => match d with | .str z => .bool (signB (z.cps.getD 0 0)) | _ => .none) _ _ rfl (fun d hd => by
          obtain ⟨c, hc, rfl⟩ := List.mem_map.mp hd
          refine ⟨_, .fz (.bool (signB c)), rfl, ?_, rfl⟩
          have : fInS false (.fz (.str ⟨#[c]⟩)) (.fz (.str "abcdefghijklmnopqrstuvwxyz0123456789")) st = .ok (.fz (.bool (signB c))) st := by
            show Rt.ok (QD.W.fz (.bool (decide (c ∈ SIGNS.cps.toList)))) st = _
            rw [in_signs]
          simp [wipeE, this]) (by rw [List.length_map, len]; exact sz_le (by simp; omega))]
        rw [List.nil_append, List.map_map]
        rfl
      have ea : fBls (fun bs => bs.all id) (.own (x.cps.toList.map fun c => .bool (signB c))) st = .ok (.fz (.bool ((x.cps.toList.map signB).all id))) st := by
        unfold fBls
        rw [seqR_own, Option.bind_some, bl_signs]
      have e0 : fIxS (.fz (.str x)) (.fz (.int 0)) st = .ok (.fz (.str ⟨#[c]⟩)) st := by
        rw [fIxS_eq, if_pos ls, atI_0, ex]
        rfl
      have e1 : fInS false (.fz (.str ⟨#[c]⟩)) (.fz (.str "abcdefghijklmnopqrstuvwxyz")) st = .ok (.fz (.bool (lowB c))) st := by
        show Rt.ok (QD.W.fz (.bool (decide (c ∈ ("abcdefghijklmnopqrstuvwxyz" : Str).cps.toList)))) st = _
        rw [in_low]
      have nb : nameB x = (lowB c && (x.cps.toList.map signB).all id) := by
        unfold nameB
        rw [ex]
        rw [ex, List.length_cons] at len
        have hr : r.length ≤ 7 := by omega
        rw [show nameL (c :: r) = (lowB c && decide (r.length ≤ 7) && r.all signB) from rfl, decide_eq_true hr, Bool.and_true, List.map_cons, List.all_cons]
        cases h : lowB c with
        | false => rfl
        | true =>
          have : signB c = true := by unfold signB; rw [h]; rfl
          simp [this, List.all_map]
      rw [nb]
      unfold F_is_name fnD d_is_name
      cases hc : lowB c with
      | false => rw [hc] at e1; simp [-fIxS_eq, si, e0, e1, e2, show (1 : Int) ≤ (x.length : Int) by omega, show (x.length : Int) ≤ 8 by omega]
      | true => rw [hc] at e1; simp [-fIxS_eq, si, e, ea, e0, e1, e2, show (1 : Int) ≤ (x.length : Int) by omega, show (x.length : Int) ≤ 8 by omega]
  · rw [nameB_len hl]
    unfold F_is_name fnD d_is_name
    by_cases h1 : (1 : Int) ≤ (x.length : Int)
    · have h2 : ¬ (x.length : Int) ≤ 8 := by omega
      simp [si, e2, h1, h2]
    · simp [si, e2, h1]
end K08
/-! ME04: members, of the program and of the law. -/
namespace K08
open PySem PySem.Spec PyProof.Rows L2 MG QD MU
def strOk : D → Bool
  | .str x => decide (x.length ≤ 100)
  | _ => true
/-- what a member's name may be, as far as one looks -/
def nmB : D → Bool
  | .str x => nameB x
  | _ => false
def bdB : D → Bool
  | .int v => decide (1 ≤ v) && decide (v ≤ 4)
  | _ => false
def memB : D → Bool
  | .tuple [a, b] => nmB a && bdB b
  | _ => false
def itemOk : D → Bool
  | .tuple [a, b] => flt a && flt b && strOk a
  | d => flt d
theorem itemOk_flt {d : D} (h : itemOk d = true) : flt d = true := by
  cases d with
  | dict l => exact h
  | _ => rfl
theorem is_name_any {d : D} (h : flt d = true) (hs : strOk d = true) {st : Sto} : F_is_name [.fz d] st = .ok (.fz (.bool (nmB d))) st := by
  by_cases c : ∃ x, d = .str x
  · obtain ⟨x, rfl⟩ := c
    exact is_name_str (of_decide_eq_true hs)
  · have si := fun s => (isi_any h (st := s)).2.1
    have e : nmB d = false := by
      cases d with
      | str x => exact absurd ⟨x, rfl⟩ c
      | _ => rfl
    have si' : ∀ s, fIsi (.fz d) (.fz (tyD "str")) s = .ok (.fz (.bool false)) s := fun s => by
      rw [si]
      cases d with
      | str x => exact absurd ⟨x, rfl⟩ c
      | _ => rfl
    rw [e]
    apply wR.eq
    unfold F_is_name d_is_name
    simp [si']
def pairB : D → Bool
  | .tuple [_, _] => true
  | _ => false
theorem pairB_not {d : D} (h : ¬ ∃ a b, d = .tuple [a, b]) : pairB d = false ∧ memB d = false := by
  cases d with
  | tuple l =>
    match l, h with
    | [a, b], h => exact absurd ⟨a, b, rfl⟩ h
    | [], _ => exact ⟨rfl, rfl⟩
    | [a], _ => exact ⟨rfl, rfl⟩
    | a :: b :: c :: r, _ => exact ⟨rfl, rfl⟩
  | _ => exact ⟨rfl, rfl⟩
theorem is_pair_b {d : D} (h : flt d = true) {st : Sto} : F_is_pair [.fz d] st = .ok (.fz (.bool (pairB d))) st := by
  rw [is_pair_any h]
  cases d with
  | tuple l =>
    match l, h with
    | [], _ => rfl
    | [_], _ => rfl
    | [_, _], _ => rfl
    | _ :: _ :: _ :: _, _ => rfl
  | _ => rfl
theorem is_int_b {d : D} (h : flt d = true) {st : Sto} : F_is_integer [.fz d, .fz (.int 1), .fz (.int 4)] st = .ok (.fz (.bool (bdB d))) st := by
  rw [is_integer_any h]
  cases d <;> rfl
theorem is_member_any {d : D} (h : itemOk d = true) {st : Sto} : F_is_member [.fz d] st = .ok (.fz (.bool (memB d))) st := by
  have hf := itemOk_flt h
  have ip := fun s => is_pair_b hf (st := s)
  by_cases c : ∃ a b, d = .tuple [a, b]
  · obtain ⟨a, b, rfl⟩ := c
    unfold itemOk at h
    simp only [Bool.and_eq_true] at h
    have nm := fun s => is_name_any h.1.1 h.2 (st := s)
    have ii := fun s => is_int_b h.1.2 (st := s)
    rw [show memB (.tuple [a, b]) = (nmB a && bdB b) from rfl]
    rw [show pairB (.tuple [a, b]) = true from rfl] at ip
    apply wR.eq
    unfold F_is_member d_is_member
    cases h1 : nmB a with
    | false => rw [h1] at nm; simp [ip, nm]
    | true => rw [h1] at nm; simp [ip, nm, ii]
  · obtain ⟨e1, e2⟩ := pairB_not c
    rw [e2]
    rw [e1] at ip
    apply wR.eq
    unfold F_is_member d_is_member
    simp [ip]
/-! ### the law's own look at a name -/
abbrev sgL (cs : List Nat) : List D := cs.map fun c => .str ⟨#[c]⟩
theorem sgL_ok : ∀ cs : List Nat, (∀ c ∈ cs, PyData.canLay0 (.str ⟨#[c]⟩) = true) → plainA (sgL cs) = true ∧ PyData.canLayAll0 (sgL cs) = true ∧ PyData.depthAll (sgL cs) ≤ 1
  | [], _ => ⟨rfl, rfl, by decide⟩
  | c :: cs, h => by
    obtain ⟨h1, h2, h3⟩ := sgL_ok cs fun d hd => h d (List.mem_cons_of_mem _ hd)
    refine ⟨?_, ?_, ?_⟩
    · show (plain (.str ⟨#[c]⟩) && plainA (sgL cs)) = true
      rw [h1]; rfl
    · show (PyData.canLay0 (.str ⟨#[c]⟩) && PyData.canLayAll0 (sgL cs)) = true
      rw [h2, Bool.and_true]
      exact h c (List.mem_cons_self ..)
    · show max (PyData.depth (.str ⟨#[c]⟩)) (PyData.depthAll (sgL cs)) ≤ 1
      exact Nat.max_le.mpr ⟨Nat.zero_le 1, h3⟩
theorem eq_nil (cs : List Nat) (h : ∀ c ∈ cs, PyData.canLay0 (.str ⟨#[c]⟩) = true) (st : Sto) : fEqD false (.own (sgL cs)) (.own []) st = .ok (.fz (.bool cs.isEmpty)) st := by
  obtain ⟨h1, h2, h3⟩ := sgL_ok cs h
  unfold fEqD
  simp only [lookW_own]
  have e1 : plain (.list (sgL cs)) = true := h1
  have e2 : SeqAt.shaped (.list (sgL cs)) = true := by
    unfold SeqAt.shaped
    rw [Bool.and_eq_true]
    exact ⟨h2, decide_eq_true (show PyData.depthAll (sgL cs) + 1 ≤ 64 by omega)⟩
  have e3 : SeqAt.shaped (.list []) = true := by decide
  have e4 : PyData.eqv (.list (sgL cs)) (.list []) = cs.isEmpty := by cases cs <;> rfl
  rw [e1, e2, e3, e4]
  rfl
theorem l_is_name_str {x : Str} (hx : x.length ≤ 100) (hc : ∀ c ∈ x.cps.toList, PyData.canLay0 (.str ⟨#[c]⟩) = true) {st : Sto} : F_l_is_name [.fz (.str x)] st = .ok (.fz (.bool (nameB x))) st := by
  have ls : x.length ≤ sizeLine := sz_le (by omega)
  have e2 : ∀ s, fLenS (.fz (.str x)) s = .ok (.fz (.int x.length)) s := fun s => by
    unfold fLenS
    simp only [strW_fz, if_pos ls]
  have si : ∀ s, fIsi (.fz (.str x)) (.fz (tyD "str")) s = .ok (.fz (.bool true)) s := fun s => isi_str
  have len : x.cps.toList.length = x.length := Array.length_toList
  by_cases hl : 1 ≤ x.length ∧ x.length ≤ 8
  · cases ex : x.cps.toList with
    | nil => rw [ex] at len; simp at len; omega
    | cons c r =>
      have e : ∀ v, wR noX (c_l_is_name_1 [some (.fz (.str x)), some (.fz (.str "abcdefghijklmnopqrstuvwxyz")), v] st) fun w s => w = .own ((x.cps.toList.filter fun c => !signB c).map fun c => .str ⟨#[c]⟩) ∧ s = st := fun v => by
        have sr : ∀ s, srcS s (.fz (.str x)) = some ⟨x.cps.toList.map fun c => .str ⟨#[c]⟩, none⟩ := fun s => rfl
        have ad : ∀ s, fAddS (.fz (.str "abcdefghijklmnopqrstuvwxyz")) (.fz (.str "0123456789")) s = .ok (.fz (.str SIGNS)) s := fun s => by
          unfold fAddS
          simp only [strW_fz]
          exact congrArg (fun z => Rt.ok (QD.W.fz (.str z)) s) (by decide +kernel)
        unfold c_l_is_name_1
        simp [sr]
        refine wR_lcF (fun c : Nat => PyData.str ⟨#[c]⟩) x.cps.toList (fun c => !signB c) (fun c => .str ⟨#[c]⟩) rfl (by rw [len]; omega) (fun c hc => ?_) ⟨rfl, rfl⟩
        have inn : fInS true (.fz (.str ⟨#[c]⟩)) (.fz (.str SIGNS)) st = .ok (.fz (.bool (!signB c))) st := by
          show Rt.ok (QD.W.fz (.bool (!decide (c ∈ SIGNS.cps.toList)))) st = _
          rw [in_signs]
        simp [wipeE, ad, inn]
      have e0 : ∀ s, fIxS (.fz (.str x)) (.fz (.int 0)) s = .ok (.fz (.str ⟨#[c]⟩)) s := fun s => by
        rw [fIxS_eq, if_pos ls, atI_0, ex]
        rfl
      have e1 : ∀ s, fInS false (.fz (.str ⟨#[c]⟩)) (.fz (.str "abcdefghijklmnopqrstuvwxyz")) s = .ok (.fz (.bool (lowB c))) s := fun s => by
        show Rt.ok (QD.W.fz (.bool (decide (c ∈ ("abcdefghijklmnopqrstuvwxyz" : Str).cps.toList)))) s = _
        rw [in_low]
      have eqn := eq_nil (x.cps.toList.filter fun c => !signB c) fun c h => hc c (List.mem_filter.mp h).1
      have nb : nameB x = (lowB c && (x.cps.toList.filter fun c => !signB c).isEmpty) := by
        unfold nameB
        rw [ex]
        rw [ex, List.length_cons] at len
        have hr : r.length ≤ 7 := by omega
        rw [show nameL (c :: r) = (lowB c && decide (r.length ≤ 7) && r.all signB) from rfl, decide_eq_true hr, Bool.and_true]
        cases h : lowB c with
        | false => rfl
        | true =>
          have sc : signB c = true := by unfold signB; rw [h]; rfl
          rw [Bool.true_and, Bool.true_and, List.filter_cons, sc]
          show r.all signB = (r.filter fun c => !signB c).isEmpty
          induction r with
          | nil => rfl
          | cons a r ih =>
            cases ha : signB a with
            | false => simp [ha]
            | true =>
              simp only [List.all_cons, ha, Bool.true_and, List.filter_cons, Bool.not_true, Bool.false_eq_true, if_false]
              have : ∀ r : List Nat, r.all signB = (r.filter fun c => !signB c).isEmpty := fun r => by
                induction r with
                | nil => rfl
                | cons b r ih2 => cases hb : signB b <;> simp [hb, ih2]
              exact this r
      rw [nb]
      apply wR.eq
      unfold F_l_is_name d_l_is_name
      cases hlo : lowB c with
      | false =>
        simp only [hlo] at e1
        simp [-fIxS_eq, si, e0, e1, e2, show (1 : Int) ≤ (x.length : Int) by omega, show (x.length : Int) ≤ 8 by omega]
      | true =>
        simp only [hlo] at e1
        generalize (x.cps.toList.filter fun c => !signB c) = bad at *
        simp [-fIxS_eq, si, e0, e1, e2, show (1 : Int) ≤ (x.length : Int) by omega, show (x.length : Int) ≤ 8 by omega]
        refine (e none).use ?_
        rintro _ s ⟨rfl, hs⟩
        subst hs
        simp [eqn, sz_le]
  · rw [nameB_len hl]
    unfold F_l_is_name fnD d_l_is_name
    by_cases h1 : (1 : Int) ≤ (x.length : Int)
    · have h2 : ¬ (x.length : Int) ≤ 8 := by omega
      simp [si, e2, h1, h2]
    · simp [si, e2, h1]
end K08
/-! MF04: the first that is wrong in a side: the program's _fault. -/
namespace K08
open PySem PySem.Spec PyProof.Rows L2 MG QD MU
def nmD : D → Str
  | .tuple (.str x :: _) => x
  | _ => ⟨#[]⟩
def firstBad : List Str → Nat → List D → Option Nat
  | _, _, [] => none
  | seen, i, d :: ds => if i = 4 ∨ memB d = false ∨ nmD d ∈ seen then some i else firstBad (seen ++ [nmD d]) (i + 1) ds
theorem mem_form {d : D} (h : memB d = true) : ∃ x b, d = .tuple [.str x, .int b] ∧ nmD d = x ∧ nameB x = true ∧ 1 ≤ b ∧ b ≤ 4 := by
  unfold memB at h
  split at h
  · rename_i a b
    rw [Bool.and_eq_true] at h
    obtain ⟨h1, h2⟩ := h
    cases a with
    | str x =>
      cases b with
      | int v =>
        unfold bdB at h2
        simp only [Bool.and_eq_true, decide_eq_true_eq] at h2
        exact ⟨x, v, rfl, rfl, h1, h2.1, h2.2⟩
      | _ => cases h2
    | _ => cases h1
  · cases h
def enuF : Nat → List D → List D
  | _, [] => []
  | i, d :: ds => .tuple [.int (i : Nat), d] :: enuF (i + 1) ds
theorem enuF_range : ∀ (l : List D) (i : Nat), enuF i l = (List.range l.length).map fun j => .tuple [.int ((i + j : Nat) : Int), l.getD j .none]
  | [], _ => rfl
  | d :: ds, i => by
    rw [enuF, enuF_range ds (i + 1), List.length_cons, List.range_succ_eq_map, List.map_cons, List.map_map]
    congr 1
    refine List.map_congr_left fun j _ => ?_
    show PyData.tuple [.int ((i + 1 + j : Nat) : Int), ds.getD j .none] = .tuple [.int ((i + (j + 1) : Nat) : Int), (d :: ds).getD (j + 1) .none]
    rw [show i + 1 + j = i + (j + 1) by omega]
    rfl
theorem enuD_F (l : List D) : enuD l = enuF 0 l := by
  rw [enuF_range]
  unfold enuD
  refine List.map_congr_left fun j _ => ?_
  rw [Nat.zero_add]
theorem fault_loop {l0 : List D} {st : Sto} {v0 v1 : Option QD.W} : ∀ (ds : List D) (i : Nat) (seen : List Str) (v3 v4 : Option QD.W), (∀ d ∈ ds, itemOk d = true) → seen.length + ds.length ≤ 60 →
    wS noX (forL ⟨l0, none⟩ (gT 2 (gsCons (gN 3) (gsCons (gN 4) gsNil))) b_fault_1 (enuF i ds) [v0, v1, some (.loc st.length), v3, v4] (st ++ [.lst (strsD seen)]))
      (fun _ s => firstBad seen i ds = none ∧ s.take st.length = st) (fun w s => (∃ k, firstBad seen i ds = some k ∧ w = .fz (.tuple [.int (k : Nat)])) ∧ s.take st.length = st) (fun _ _ => False) (fun _ _ => False)
  | [], i, seen, v3, v4, _, _ => by
    unfold enuF
    rw [wS_forNil]
    exact ⟨rfl, by rw [List.take_left']; rfl⟩
  | d :: ds, i, seen, v3, v4, hok, hl => by
    have em := fun s => is_member_any (hok d (List.mem_cons_self ..)) (st := s)
    have tk : ∀ o, List.take (List.length st) (st ++ [o]) = st := fun o => by rw [List.take_left']; rfl
    rw [List.length_cons] at hl
    unfold enuF
    rw [wS_forCons]
    simp
    have fb : firstBad seen i (d :: ds) = if i = 4 ∨ memB d = false ∨ nmD d ∈ seen then some i else firstBad (seen ++ [nmD d]) (i + 1) ds := rfl
    unfold b_fault_1
    by_cases h4 : i = 4
    · rw [if_pos (.inl h4)] at fb
      subst h4
      simp [fEq, scaD, eqS, sz_le, tk, fb]
    · have h4' : ¬ ((i : Int) = 4) := by omega
      cases hm : memB d with
      | false =>
        rw [hm] at em
        rw [if_pos (.inr (.inl hm))] at fb
        simp [fEq, scaD, eqS, sz_le, tk, fb, h4', em]
      | true =>
        rw [hm] at em
        obtain ⟨x, b, rfl, hx, _, _, _⟩ := mem_form hm
        have e2 := fun neg s hs => in_found (s := s) (k := st.length) (xs := seen) hs neg x
        have e3 := app_found (s := st) (k := st.length) rfl (xs := seen) (by omega) x
        have sq : seqW (st ++ [Ob.lst (strsD seen)]) (.loc st.length) = some (strsD seen) := seqW_loc (get_last rfl)
        rw [hx] at fb
        by_cases hs : x ∈ seen
        · rw [if_pos (.inr (.inr hs))] at fb
          simp [fEq, scaD, eqS, sz_le, tk, fb, h4', em, e2 false st rfl, hs]
        · rw [if_neg (by rintro (h | h | h); exact h4 h; rw [hm] at h; cases h; exact hs h)] at fb
          have ih := fault_loop (l0 := l0) (st := st) (v0 := v0) (v1 := v1) ds (i + 1) (seen ++ [x]) (some (.fz (.int (i : Nat)))) (some (.fz (.tuple [.str x, .int b]))) (fun e he => hok e (List.mem_cons_of_mem _ he)) (by rw [List.length_append, List.length_singleton]; omega)
          rw [fb]
          simp [fEq, scaD, eqS, sz_le, h4', em, e2 false st rfl, hs, sq, e3]
          rw [show strsD (seen ++ [x]) = List.map PyData.str seen ++ [PyData.str x] by simp] at ih
          unfold b_fault_1 at ih
          exact ih
/-- _fault of any side that is a tuple -/
def sideBad (taken : List Str) (ds : List D) : D := if ds = [] then .tuple [.none] else match firstBad taken 0 ds with
  | some k => .tuple [.int (k : Nat)]
  | none => .tuple []
theorem fault_tup {ds : List D} {taken : List Str} (hok : ∀ d ∈ ds, itemOk d = true) (hl : taken.length + ds.length ≤ 60) {st : Sto} : F_fault [.fz (.tuple ds), .fz (.tuple (strsD taken))] st = .ok (.fz (sideBad taken ds)) st := by
  apply wR.eq
  have it : ∀ s, fIsi (.fz (.tuple ds)) (.fz (tyD "tuple")) s = .ok (.fz (.bool true)) s := fun s => isi_tup
  have tr : ∀ s : Sto, truW s (.fz (.tuple ds)) = some (!ds.isEmpty) := fun s => by unfold truW; cases ds <;> simp
  unfold F_fault d_fault sideBad
  cases ds with
  | nil => simp [it, tr, sz_le]
  | cons d r =>
    have kn : kndW (.fz (.tuple (d :: r))) = some (true, d :: r) := rfl
    have lst : ∀ s, fLstOf (.fz (.tuple (strsD taken))) s = .ok (.own (strsD taken)) s := fun s => rfl
    have loop := fun v0 v1 => fault_loop (l0 := enuD (d :: r)) (st := st) (v0 := v0) (v1 := v1) (d :: r) 0 taken none none hok hl
    rw [← enuD_F] at loop
    simp [it, tr, sz_le, lst, kn]
    refine (loop _ _).use ?_ ?_ (fun _ _ h => h.elim) (fun _ _ h => h.elim)
    · rintro en s ⟨h1, h2⟩
      simp [h1, sz_le, h2]
    · rintro w s ⟨⟨k, h1, rfl⟩, h2⟩
      simp [h1, h2]
end K08
/-! MH04: the law's own look at a side. -/
namespace K08
open PySem PySem.Spec PyProof.Rows L2 MG QD MU
/-- what else the law asks of an item: its text can be shown -/
def lawOk : D → Bool
  | .tuple [.str x, _] => PyData.canLay0 (.str x)
  | _ => true
theorem lay_chars {x : Str} (h : PyData.canLay0 (.str x) = true) : ∀ c ∈ x.cps.toList, PyData.canLay0 (.str ⟨#[c]⟩) = true := fun c hc => by
  have h' : x.cps.all (· < 0x110000) = true := h
  rw [← Array.all_toList] at h'
  have := List.all_eq_true.mp h' c hc
  show (#[c] : Array Nat).all (· < 0x110000) = true
  rw [← Array.all_toList]
  simpa using this
theorem l_is_name_any {d : D} (h : flt d = true) (hs : strOk d = true) (hl : ∀ x, d = .str x → PyData.canLay0 (.str x) = true) {st : Sto} : F_l_is_name [.fz d] st = .ok (.fz (.bool (nmB d))) st := by
  by_cases c : ∃ x, d = .str x
  · obtain ⟨x, rfl⟩ := c
    exact l_is_name_str (of_decide_eq_true hs) (lay_chars (hl x rfl))
  · have e : nmB d = false := by
      cases d with
      | str x => exact absurd ⟨x, rfl⟩ c
      | _ => rfl
    have si' : ∀ s, fIsi (.fz d) (.fz (tyD "str")) s = .ok (.fz (.bool false)) s := fun s => by
      rw [(isi_any h (st := s)).2.1]
      cases d with
      | str x => exact absurd ⟨x, rfl⟩ c
      | _ => rfl
    rw [e]
    apply wR.eq
    unfold F_l_is_name d_l_is_name
    simp [si']
theorem catN {l1 l2 : List D} (h : l1.length + l2.length ≤ 100) {st : Sto} : fCat (.fz (.list l1)) (.own l2) st = .ok (.own (l1 ++ l2)) st := by
  unfold fCat
  simp only [seqW_fz, seqW_own]
  rw [if_pos (Nat.le_trans h (sz_le (by decide)))]
end K08
/-! MI04: a fair refused. -/
namespace K08
open PySem PySem.Spec PyProof.Rows L2 MG QD MU
theorem tru1 {a : D} (s : Sto) : truW s (.fz (.tuple [a])) = some true := rfl
theorem tru0 (s : Sto) : truW s (.fz (.tuple [])) = some false := rfl
theorem init_hosts {H G T a : D} {st : Sto} (h : ∀ s, F_fault [.fz H, .fz (.tuple [])] s = .ok (.fz (.tuple [a])) s) :
    F_Fairu_initu [.loc st.length, .fz H, .fz G, .fz T] (st ++ [.ins 0 []]) = .ex (eS 1) (some ("index", a)) (st ++ [.ins 0 []]) := by
  have tk : List.take (st.length + 1) (st ++ [Ob.ins 0 []]) = st ++ [Ob.ins 0 []] := List.take_of_length_le (by simp)
  unfold F_Fairu_initu fnD d_Fairu_initu
  simp [h, tru1, sRs, exitD, sz_le, tk]
theorem init_guests {H G T a : D} {ns : List Str} {st : Sto} (h : ∀ s, F_fault [.fz H, .fz (.tuple [])] s = .ok (.fz (.tuple [])) s) (hn : ∀ s, F_names_of [.fz H] s = .ok (.fz (.tuple (strsD ns))) s)
    (hg : ∀ s, F_fault [.fz G, .fz (.tuple (strsD ns))] s = .ok (.fz (.tuple [a])) s) :
    F_Fairu_initu [.loc st.length, .fz H, .fz G, .fz T] (st ++ [.ins 0 []]) = .ex (eS 2) (some ("index", a)) (st ++ [.ins 0 []]) := by
  have tk : List.take (st.length + 1) (st ++ [Ob.ins 0 []]) = st ++ [Ob.ins 0 []] := List.take_of_length_le (by simp)
  generalize strsD ns = nd at *
  unfold F_Fairu_initu fnD d_Fairu_initu
  simp [h, hn, hg, tru1, tru0, sRs, exitD, sz_le, tk]
/-- Fair(..) that is refused -/
theorem make_ex {H G T : D} {c : Str} {p : Option (Str × D)} {st : Sto} {en : En} {a : DnA} (ha : a en st = .ok [.fz H, .fz G, .fz T] st)
    (h : F_Fairu_initu [.loc st.length, .fz H, .fz G, .fz T] (st ++ [.ins 0 []]) = .ex c p (st ++ [.ins 0 []])) :
    dMake 4 0 (frzOb 0 ns_Fair) F_Fairu_initu [] a en st = .ex c p (st ++ [.ins 0 []]) := by
  unfold dMake
  rw [ha]
  simp [h]
end K08
/-! MJ04: what is told of an error. -/
namespace K08
open PySem PySem.Spec PyProof.Rows L2 MG QD MU
def errX (k a y : Nat) : XI := ⟨a, eS k, some y⟩
def errD (a y : Nat) (f : Str) (d : D) : D := excDat a y (some (f, d))
theorem isx {k a y : Nat} {f : Str} {d : D} {b0 b1 b2 : Bool} {en : En} {st : Sto} (hk : k < 3) (h : en[0]? = some (some (.fz (errD a y f d)))) : dIsX (errX k a y) [b0, b1, b2] (dVar 0) en st = .ok (.fz (.bool ([b0, b1, b2].getD k false))) st :=
  dIsX_at (x := errX k a y) h (isX_dat (a := a) (x := y) (c := eS k) (p := some (f, d))) (by show k < 3; exact hk)
theorem bases {k a y : Nat} {f : Str} {d : D} (hk : k < 3) {st : Sto} : F_l_bases (errX k a y) [.fz (errD a y f d)] st = .ok (.fz (.list [.bool true, .bool false, .bool false])) st := by
  have ix := fun b0 b1 b2 en s h => isx (k := k) (a := a) (y := y) (f := f) (d := d) (b0 := b0) (b1 := b1) (b2 := b2) (en := en) (st := s) hk h
  have eq : ∀ s, fEqD false (.fz (.list [.bool true, .bool false, .bool false])) (.fz (.list [.bool true, .bool false, .bool false])) s = .ok (.fz (.bool true)) s := fun s => rfl
  generalize errX k a y = x at *
  generalize errD a y f d = e at *
  have : k = 0 ∨ k = 1 ∨ k = 2 := by omega
  apply wR.eq
  unfold F_l_bases d_l_bases
  rcases this with rfl | rfl | rfl
  all_goals simp [ix, sz_le, eq]
def marks (j : Nat) : List Bool := (List.range 21).map fun i => decide (i = j)
theorem cls {k a y : Nat} {f : Str} {d : D} (hk : k < 3) {st : Sto} : F_l_class (errX k a y) [.fz (errD a y f d)] st = .ok (.fz (.int ([0, 9, 10].getD k 0))) st := by
  have ix := fun b0 b1 b2 en s h => isx (k := k) (a := a) (y := y) (f := f) (d := d) (b0 := b0) (b1 := b1) (b2 := b2) (en := en) (st := s) hk h
  have bs := fun s => bases (k := k) (a := a) (y := y) (f := f) (d := d) hk (st := s)
  have isl : ∀ l s, isLst s (.fz (.list l)) = true := fun l s => rfl
  have eq : ∀ s, fEqD false (.fz (.list [.bool true, .bool false, .bool false])) (.own [.bool true, .bool false, .bool false]) s = .ok (.fz (.bool true)) s := fun s => rfl
  generalize errX k a y = x at *
  generalize errD a y f d = e at *
  have : k = 0 ∨ k = 1 ∨ k = 2 := by omega
  rcases this with rfl | rfl | rfl
  · have cnt : ∀ s, fCntB (.fz (.list ((marks 0).map PyData.bool))) [.fz (.bool true)] s = .ok (.fz (.int 1)) s := fun s => rfl
    have idx : ∀ s, fIdxB (.fz (.list ((marks 0).map PyData.bool))) [.fz (.bool true)] s = .ok (.fz (.int 0)) s := fun s => rfl
    have em : (marks 0).map PyData.bool = [.bool true, .bool false, .bool false, .bool false, .bool false, .bool false, .bool false, .bool false, .bool false, .bool false, .bool false, .bool false, .bool false, .bool false, .bool false, .bool false, .bool false, .bool false, .bool false, .bool false, .bool false] := rfl
    rw [em] at cnt idx
    apply wR.eq
    unfold F_l_class d_l_class
    simp [ix, sz_le, wR_dCallX, bs, catN, cnt, idx, isl, eq, fEq, scaD, eqS]
  · have cnt : ∀ s, fCntB (.fz (.list ((marks 9).map PyData.bool))) [.fz (.bool true)] s = .ok (.fz (.int 1)) s := fun s => rfl
    have idx : ∀ s, fIdxB (.fz (.list ((marks 9).map PyData.bool))) [.fz (.bool true)] s = .ok (.fz (.int 9)) s := fun s => rfl
    have em : (marks 9).map PyData.bool = [.bool false, .bool false, .bool false, .bool false, .bool false, .bool false, .bool false, .bool false, .bool false, .bool true, .bool false, .bool false, .bool false, .bool false, .bool false, .bool false, .bool false, .bool false, .bool false, .bool false, .bool false] := rfl
    rw [em] at cnt idx
    apply wR.eq
    unfold F_l_class d_l_class
    simp [ix, sz_le, wR_dCallX, bs, catN, cnt, idx, isl, eq, fEq, scaD, eqS]
  · have cnt : ∀ s, fCntB (.fz (.list ((marks 10).map PyData.bool))) [.fz (.bool true)] s = .ok (.fz (.int 1)) s := fun s => rfl
    have idx : ∀ s, fIdxB (.fz (.list ((marks 10).map PyData.bool))) [.fz (.bool true)] s = .ok (.fz (.int 10)) s := fun s => rfl
    have em : (marks 10).map PyData.bool = [.bool false, .bool false, .bool false, .bool false, .bool false, .bool false, .bool false, .bool false, .bool false, .bool false, .bool true, .bool false, .bool false, .bool false, .bool false, .bool false, .bool false, .bool false, .bool false, .bool false, .bool false] := rfl
    rw [em] at cnt idx
    apply wR.eq
    unfold F_l_class d_l_class
    simp [ix, sz_le, wR_dCallX, bs, catN, cnt, idx, isl, eq, fEq, scaD, eqS]
end K08
/-! MK08: what is told. -/
namespace K08
open PySem PySem.Spec PyProof.Rows L2 MG QD MU
def fldN (k : Nat) : Str := if k = 0 then "given" else "index"
theorem dXf_at {k a y : Nat} {d : D} {f : Str} {en : En} {st : Sto} (hk : k < 3) (h : en[0]? = some (some (.fz (errD a y f d)))) : dXf (errX k a y) f 3 (dVar 0) en st = .ok (.fz d) st := by
  unfold dXf
  rw [dVar_eq, h]
  dsimp only
  rw [Rt.bind_ok]
  have hx : isX (errX k a y) (.fz (errD a y f d)) = true := isX_dat (a := a) (x := y) (c := eS k) (p := some (f, d))
  have : fldX (errX k a y) f 3 (.fz (errD a y f d)) = some d := by
    unfold errD excDat fldX
    dsimp only
    exact if_pos ⟨hx, rfl, by show k < 3; exact hk⟩
  rw [this]
theorem keeps {k a y : Nat} {d : D} (hk : k < 3) {st : Sto} : F_l_keeps (errX k a y) [.fz (errD a y (fldN k) d), .fz (.int ([0, 9, 10].getD k 0))] st = .ok (.fz d) st := by
  have fx := fun en s h => dXf_at (k := k) (a := a) (y := y) (d := d) (f := fldN k) (en := en) (st := s) hk h
  have f3 : ∀ s, fIn false (.fz (.int 0)) (.own [.int (-1), .int 19]) s = .ok (.fz (.bool false)) s := fun s => rfl
  have f9 : ∀ s, fIn false (.fz (.int 9)) (.own [.int (-1), .int 19]) s = .ok (.fz (.bool false)) s := fun s => rfl
  have f10 : ∀ s, fIn false (.fz (.int 10)) (.own [.int (-1), .int 19]) s = .ok (.fz (.bool false)) s := fun s => rfl
  have : k = 0 ∨ k = 1 ∨ k = 2 := by omega
  rcases this with rfl | rfl | rfl
  · rw [show fldN 0 = "given" from rfl] at *
    generalize errX 0 a y = x at *
    generalize errD a y "given" d = e at *
    apply wR.eq
    unfold F_l_keeps d_l_keeps
    simp [fx, sz_le, fEq, scaD, eqS, f3]
  · rw [show fldN 1 = "index" from rfl] at *
    generalize errX 1 a y = x at *
    generalize errD a y "index" d = e at *
    apply wR.eq
    unfold F_l_keeps d_l_keeps
    simp [fx, sz_le, fEq, scaD, eqS, f9]
  · rw [show fldN 2 = "index" from rfl] at *
    generalize errX 2 a y = x at *
    generalize errD a y "index" d = e at *
    apply wR.eq
    unfold F_l_keeps d_l_keeps
    simp [fx, sz_le, fEq, scaD, eqS, f10]
def WORDS : List D := [.str "text", .str "number", .str "name", .str "tables", .str "round", .str "schedule", .str "wish", .str "index", .str "fair", .str "hosts", .str "guests", .str "meetings", .str "urgent", .str "growth", .str "changes", .str "asked", .str "unknown", .str "few", .str "many", .str "undo", .str "broken"]
def wordK (k : Nat) : Str := if k = 0 then "text" else if k = 1 then "hosts" else "guests"
theorem suite {k a y f c : Nat} {q : Str} {d : D} {x : Str} (hk : k < 3) (rp : ∀ s, fRepr (.fz d) s = .ok (.fz (.str x)) s) {st : Sto} :
    u_l_told_1 (errX k a y) [some (.fz (fnDat f c q)), some (.fz (.list WORDS)), none, some (.fz (errD a y (fldN k) d)), none] st = .rt (.own [.str (wordK k), .str x]) st := by
  have cl := fun s => cls (k := k) (a := a) (y := y) (f := fldN k) (d := d) hk (st := s)
  have kp := fun s => keeps (k := k) (a := a) (y := y) (d := d) hk (st := s)
  have ca : ∀ s, fCat (.fz (.list WORDS)) (.own [.str "odd"]) s = .ok (.own (WORDS ++ [.str "odd"])) s := fun s => catN (by decide)
  have ix : ∀ s, fIxL (.own (WORDS ++ [.str "odd"])) (.fz (.int ([0, 9, 10].getD k 0))) s = .ok (.fz (.str (wordK k))) s := fun s => by
    have : k = 0 ∨ k = 1 ∨ k = 2 := by omega
    rcases this with rfl | rfl | rfl <;> rfl
  generalize WORDS ++ [PyData.str "odd"] = W2 at *
  generalize WORDS = W1 at *
  generalize ([0, 9, 10] : List Int).getD k 0 = j at *
  generalize errX k a y = ex at *
  generalize errD a y (fldN k) d = e at *
  apply wS.rt
  unfold u_l_told_1
  simp [wR_dCallX, cl, kp, rp, ix, ca, sz_le]
theorem begin_ {f c : Nat} {q : Str} {lam : Sto → Rt QD.W} {st : Sto} {T : DnS} {G : En → Sto → Prop} {R : QD.W → Sto → Prop} {B C : En → Sto → Prop}
    (k : wS noX (T [some (.fz (fnDat f c q)), some (.fz (.list WORDS)), none, none, none] st) G R B C) (hT : b_l_told f lam = sSeq (sSet 1 (dN fLst (aCons (dC (.str "text")) (aCons (dC (.str "number")) (aCons (dC (.str "name")) (aCons (dC (.str "tables")) (aCons (dC (.str "round")) (aCons (dC (.str "schedule")) (aCons (dC (.str "wish")) (aCons (dC (.str "index")) (aCons (dC (.str "fair")) (aCons (dC (.str "hosts")) (aCons (dC (.str "guests")) aNil)))))))))))))
      (sSeq (sSet 1 (dOp fCat (dVar 1) (dN fLst (aCons (dC (.str "meetings")) (aCons (dC (.str "urgent")) (aCons (dC (.str "growth")) (aCons (dC (.str "changes")) (aCons (dC (.str "asked")) (aCons (dC (.str "unknown")) (aCons (dC (.str "few")) (aCons (dC (.str "many")) (aCons (dC (.str "undo")) (aCons (dC (.str "broken")) aNil)))))))))))))  T)) :
    wS noX (b_l_told f lam [some (.fz (fnDat f c q)), none, none, none, none] st) G R B C := by
  rw [hT]
  unfold WORDS at k
  simp [sz_le, catN]
  exact k
theorem told_ex {kt P k : Nat} {q x : Str} {dn : Dn} {d : D} {en : En} {st st1 : Sto} (h : st[kt]? = some (.tab P q)) (hk : k < 3) (hd : dn en st = .ex (eS k) (some (fldN k, d)) st1) (ht : st1.take st.length = st) (rp : ∀ s, fRepr (.fz d) s = .ok (.fz (.str x)) s) :
    dTold kt P q dn 5 b_l_told en st = .ok (.own [.str (wordK k), .str x]) st := by
  refine dTold_at h fun f c => ?_
  have tr : sTry f 3 2 3 (fun st => dn en st) u_l_told_1 [some (.fz (fnDat f c q)), some (.fz (.list WORDS)), none, none, none] st = .rt (.own [.str (wordK k), .str x]) st1 :=
    sTry_ex rfl hd (by show k < 3; exact hk) fun a y => suite (k := k) (a := a) (y := y) hk rp
  apply wR.eq
  simp
  refine begin_ ?_ rfl
  rw [wS_sSeq, tr]
  simp [ht]
theorem told_ok {kt P : Nat} {q x : Str} {dn : Dn} {w : QD.W} {en : En} {st st1 : Sto} (h : st[kt]? = some (.tab P q)) (hd : dn en st = .ok w st1) (ht : st1.take st.length = st) (rp : ∀ s, fRepr (frz w) s = .ok (.fz (.str x)) s) :
    dTold kt P q dn 5 b_l_told en st = .ok (.own [.str "back", .str x]) st := by
  refine dTold_at h fun f c => ?_
  have tr : sTry f 3 2 3 (fun st => dn en st) u_l_told_1 [some (.fz (fnDat f c q)), some (.fz (.list WORDS)), none, none, none] st = .go [some (.fz (fnDat f c q)), some (.fz (.list WORDS)), some (frz w), none, none] st1 :=
    sTry_ok rfl hd
  apply wR.eq
  simp
  refine begin_ ?_ rfl
  rw [wS_sSeq, tr]
  simp [ht, rp, sz_le]
end K08
/-! QR2: shown data in which empty dicts stand (QR's Sh, wider). -/
namespace MU
open PySem PySem.Spec PyProof.Rows L2 MG QD
structure Se (d : PyData) (e b : Nat) : Prop where
  s : d.showable = true
  n : QD.plainE d = true
  l : d.leavesShort 40 = true
  dp : d.depth ≤ e
  bk : d.bulk ≤ b
structure SeA (d : List PyData) (e b : Nat) : Prop where
  s : PyData.showableAll d = true
  n : QD.plainEA d = true
  l : PyData.leavesShortAll 40 d = true
  dp : PyData.depthAll d ≤ e
  bk : PyData.bulkAll d ≤ b
theorem Sh.se {d : PyData} {e b : Nat} (h : Sh d e b) : Se d e b := ⟨h.s, plainE_of (plain_of h.n), h.l, h.dp, h.bk⟩
theorem Se.emp : Se (.dict []) 1 0 := ⟨rfl, rfl, rfl, by decide, by decide⟩
theorem Se.mono {d : PyData} {e b e' b' : Nat} (h : Se d e b) (h1 : e ≤ e') (h2 : b ≤ b') : Se d e' b' := ⟨h.s, h.n, h.l, Nat.le_trans h.dp h1, Nat.le_trans h.bk h2⟩
theorem SeA.nil {e b : Nat} : SeA [] e b := ⟨rfl, rfl, rfl, Nat.zero_le _, Nat.zero_le _⟩
theorem SeA.cons {d : PyData} {ds : List PyData} {e b c : Nat} (h : Se d e b) (g : SeA ds e c) : SeA (d :: ds) e (b + 1 + c) := ⟨by
  simp only [PyData.showableAll, h.s, g.s, Bool.and_self], by show (plainE d && plainEA ds) = true; rw [h.n, g.n]; rfl, by simp only [PyData.leavesShortAll, h.l, g.l, Bool.and_self], by
  simp only [PyData.depthAll]; exact Nat.max_le.mpr ⟨h.dp, g.dp⟩, by
  simp only [PyData.bulkAll]; have := h.bk; have := g.bk; omega⟩
theorem SeA.all {e b : Nat} : ∀ ds : List PyData, (∀ d ∈ ds, Se d e b) → SeA ds e (ds.length * (b + 1))
  | [], _ => SeA.nil
  | d :: ds, h => by
    have := SeA.cons (h d (List.mem_cons_self ..)) (SeA.all ds fun y hy => h y (List.mem_cons_of_mem _ hy))
    rw [List.length_cons, Nat.add_mul, Nat.one_mul, Nat.add_comm]
    exact this
theorem SeA.tup {ds : List PyData} {e b : Nat} (g : SeA ds e b) : Se (.tuple ds) (e + 1) b := ⟨by simp only [PyData.showable, g.s], g.n, by simp only [PyData.leavesShort, g.l], by simp only [PyData.depth]; exact Nat.succ_le_succ g.dp, by simp only [PyData.bulk]; exact g.bk⟩
theorem SeA.lst {ds : List PyData} {e b : Nat} (g : SeA ds e b) : Se (.list ds) (e + 1) b := ⟨by simp only [PyData.showable, g.s], g.n, by simp only [PyData.leavesShort, g.l], by simp only [PyData.depth]; exact Nat.succ_le_succ g.dp, by simp only [PyData.bulk]; exact g.bk⟩
theorem Se.rep {d : PyData} {e b : Nat} (h : Se d e b) (he : e ≤ 60) (hb : b ≤ 100000) {w : QD.W} {st : Sto} (hw : lookW st w = some d) : fRepr w st = .ok (.fz (.str d.shown)) st := by
  have h4 : d.shown.length ≤ 16777216 := by
    have := PyData.shown_le_bulk 40 (by decide) d h.l
    have := h.bk
    omega
  have : shOk d = true := by
    unfold shOk
    rw [h.n, h.s, decide_eq_true (Nat.le_trans h.dp he), decide_eq_true h4]
    rfl
  unfold fRepr
  rw [hw]
  dsimp only
  rw [if_pos this]
end MU
/-! ML04: a fair that is made. -/
namespace K08
open PySem PySem.Spec PyProof.Rows L2 MG QD MU
theorem init {hs gs : Side} {t : Option Int} (f : Fairish hs gs t) {st : Sto} : ∃ x : Str, F_Fairu_initu [.loc st.length, .fz (sideD hs), .fz (sideD gs), .fz (deskD t)] (st ++ [.ins 0 []]) = .ok (.fz .none) (st ++ [.ins 0 [("_hosts", sideD hs), ("_guests", sideD gs), ("_tables", deskD t), ("_names", .tuple (strsD ((hs ++ gs).map (·.1)))), ("_text", .str x)]]) := by
  obtain ⟨nl, hnl⟩ : ∃ nl, nl = strsD ((hs ++ gs).map (·.1)) := ⟨_, rfl⟩
  rw [← hnl]
  obtain ⟨x, ex⟩ := text_of f (st := st ++ [.ins 0 [("_hosts", sideD hs), ("_guests", sideD gs), ("_tables", deskD t), ("_names", .tuple nl)]])
  refine ⟨x, ?_⟩
  have h4 := f.h4
  have g4 := f.g4
  have nd2 := f.nd
  rw [List.map_append] at nd2
  have e1 := fun s => fault (taken := []) (s := hs) f.h1 f.h4 (by decide) (List.nodup_append.mp nd2).1 (fun z hz => f.nm z (List.mem_append_left _ hz)) (fun z hz => f.bd z (List.mem_append_left _ hz)) (st := s)
  have e2 := fun s => fault (taken := hs.map (·.1)) (s := gs) f.g1 f.g4 (by rw [List.length_map]; omega) nd2 (fun z hz => f.nm z (List.mem_append_right _ hz)) (fun z hz => f.bd z (List.mem_append_right _ hz)) (st := s)
  have n1 := fun s => names_of (s := hs) (by omega) (st := s)
  have n2 := fun s => names_of (s := gs) (by omega) (st := s)
  have tb : ∀ en s, en[3]? = some (some (.fz (deskD t))) → bAnd (bT (dOp (fIs true) (dVar 3) (dC .none))) (bNot (bT (dCall 3 F_is_integer [] (aCons (dVar 3) (aCons (dC (.int 1)) (aCons (dC (.int 12)) aNil)))))) en s = .ok false s := fun en s h3 => by
    cases t with
    | none => simp [h3, deskD]
    | some k =>
      have := f.tb k rfl
      simp [h3, deskD, is_integer, this.1, this.2]
  have sq : ∀ fs, (st ++ [Ob.ins 0 fs])[st.length]? = some (.ins 0 fs) := fun fs => get_last rfl
  have ss : ∀ fs gs', (st ++ [Ob.ins 0 fs]).set st.length (.ins 0 gs') = st ++ [.ins 0 gs'] := fun fs gs' => set_last rfl
  have nm : ∀ s : Sto, dOp fCatT (dCall 1 F_names_of [] (aCons (dVar 1) aNil)) (dCall 1 F_names_of [] (aCons (dVar 2) aNil)) [some (.loc st.length), some (.fz (sideD hs)), some (.fz (sideD gs)), some (.fz (deskD t)), some (.fz (.tuple []))] s = .ok (.fz (.tuple nl)) s := fun s => by
    have a3 : (hs.map fun z => PyData.str z.1).length + (gs.map fun z => PyData.str z.1).length ≤ sizeLine := by rw [List.length_map, List.length_map]; exact sz_le (by omega)
    simp only [List.length_map] at a3
    simp [n1, n2, fCatT, a3, hnl]
    rfl
  have k1 := fld_step (f := "_hosts") (d := sideD hs) (fs' := [("_hosts", sideD hs)]) (fs := []) (b := dVar 1) (en := [some (.loc st.length), some (.fz (sideD hs)), some (.fz (sideD gs)), some (.fz (deskD t)), some (.fz (.tuple []))]) (st := st) rfl rfl rfl rfl (by decide)
  have k2 := fld_step (f := "_guests") (d := sideD gs) (fs' := [("_hosts", sideD hs), ("_guests", sideD gs)]) (fs := [("_hosts", sideD hs)]) (b := dVar 2) (en := [some (.loc st.length), some (.fz (sideD hs)), some (.fz (sideD gs)), some (.fz (deskD t)), some (.fz (.tuple []))]) (st := st) rfl rfl rfl ((putD_new (by intro p hp; simp at hp; subst hp; (dsimp only; decide +kernel))).trans rfl) (by show 1 < 1000; decide)
  have k3 := fld_step (f := "_tables") (d := deskD t) (fs' := [("_hosts", sideD hs), ("_guests", sideD gs), ("_tables", deskD t)]) (fs := [("_hosts", sideD hs), ("_guests", sideD gs)]) (b := dVar 3) (en := [some (.loc st.length), some (.fz (sideD hs)), some (.fz (sideD gs)), some (.fz (deskD t)), some (.fz (.tuple []))]) (st := st) rfl rfl rfl ((putD_new (by intro p hp; simp at hp; rcases hp with rfl | rfl <;> (dsimp only; decide +kernel))).trans rfl) (by show 2 < 1000; decide)
  have k4 := fld_step (f := "_names") (d := .tuple nl) (fs' := [("_hosts", sideD hs), ("_guests", sideD gs), ("_tables", deskD t), ("_names", .tuple nl)]) (fs := [("_hosts", sideD hs), ("_guests", sideD gs), ("_tables", deskD t)]) (en := [some (.loc st.length), some (.fz (sideD hs)), some (.fz (sideD gs)), some (.fz (deskD t)), some (.fz (.tuple []))]) (st := st) rfl (nm _) rfl ((putD_new (by intro p hp; simp at hp; rcases hp with rfl | rfl | rfl <;> (dsimp only; decide +kernel))).trans rfl) (by show 3 < 1000; decide)
  have k5 := fld_step (f := "_text") (d := .str x) (fs' := [("_hosts", sideD hs), ("_guests", sideD gs), ("_tables", deskD t), ("_names", .tuple nl), ("_text", .str x)]) (fs := [("_hosts", sideD hs), ("_guests", sideD gs), ("_tables", deskD t), ("_names", .tuple nl)]) (b := dCall 3 F_text_of [] (aCons (dVar 1) (aCons (dVar 2) (aCons (dVar 3) aNil)))) (w := .fz (.str x)) (en := [some (.loc st.length), some (.fz (sideD hs)), some (.fz (sideD gs)), some (.fz (deskD t)), some (.fz (.tuple []))]) (st := st) rfl (by simp [ex]) rfl ((putD_new (by intro p hp; simp at hp; rcases hp with rfl | rfl | rfl | rfl <;> (dsimp only; decide +kernel))).trans rfl) (by show 4 < 1000; decide)
  unfold F_Fairu_initu fnD d_Fairu_initu
  have e1' := fun s => e1 s
  simp only [strsD, List.map_nil] at e1'
  simp only [strsD, List.map_map] at e2
  have tr : ∀ s : Sto, truW s (.fz (.tuple [])) = some false := fun s => rfl
  have n1' : ∀ s, F_names_of [.fz (sideD hs)] s = .ok (.fz (.tuple (strsD (hs.map (·.1))))) s := fun s => by rw [n1]; simp
  simp [-bAnd_eq, e1', e2, n1', tr, tb, k1, k2, k3, k4, k5]
  rw [List.take_of_length_le (by simp)]
/-- the program's Fair(…) -/
theorem made {hs gs : Side} {t : Option Int} (f : Fairish hs gs t) {en : En} {st st1 : Sto} {a : DnA} (ha : a en st = .ok [.fz (sideD hs), .fz (sideD gs), .fz (deskD t)] st1) :
    ∃ x : Str, dMake 4 0 (frzOb 0 ns_Fair) F_Fairu_initu [] a en st = .ok (.fz (fairD hs gs t x)) st1 := by
  obtain ⟨x, ex⟩ := init f (st := st1)
  refine ⟨x, ?_⟩
  unfold fairD
  generalize strsD ((hs ++ gs).map (·.1)) = nl at ex ⊢
  obtain ⟨fs, hF⟩ : ∃ fs : List (Str × D), fs = [(("_hosts" : Str), sideD hs), (("_guests" : Str), sideD gs), (("_tables" : Str), deskD t), (("_names" : Str), PyData.tuple nl), (("_text" : Str), PyData.str x)] := ⟨_, rfl⟩
  rw [← hF] at ex
  have fo : frzOb 0 ns_Fair st1.length (st1 ++ [.ins 0 fs]) = some (.fz (obD 0 [sideD hs, sideD gs, deskD t, .tuple nl, .str x]), st1) := by
    have h1 : fs.map (·.1) = ns_Fair := by rw [hF]; rfl
    have h2 : fs.map (·.2) = [sideD hs, sideD gs, deskD t, .tuple nl, .str x] := by rw [hF]; rfl
    unfold frzOb
    simp only [get_last (s := st1) (o := .ins 0 fs) rfl, h1, h2, and_self, if_true]
    rw [List.take_left']
    rfl
  unfold dMake
  rw [ha]
  simp [ex, fo]
end K08
/-! YW: reckoning with two clauses and a test; dicts; x in o. -/
namespace QD
open PySem PySem.Spec PyProof.Rows L2 MG
section
variable {α : Type} {X : XP} {en : En} {st : Sto} {a b c : Dn} {G B C : En → Sto → Prop} {R : W → Sto → Prop}
@[simp ↓] theorem wS_sDPutD : wS X (sDPutD a b c en st) G R B C = wR X (c en st) fun wv st1 => wR X (a en st1) fun wd st2 => wR X (b en st2) fun wy st3 => wS X (match wd, keyW wy, datW wv with
  | .loc n, some k, some x => match st3[n]? with
    | some (.dk l) => if l.length < 100000 then .go en (st3.set n (.dk (putG l k x))) else .no
    | _ => .no
  | _, _, _ => .no) G R B C := by
  unfold sDPutD
  cases h1 : c en st with
  | ex _ _ _ => rfl
  | no => rfl
  | ok wv st1 =>
    show wS X (sBind (a en st1) _) G R B C = wR X (a en st1) _
    cases h2 : a en st1 with
    | ex _ _ _ => rfl
    | no => rfl
    | ok wd st2 =>
      show wS X (sBind (b en st2) _) G R B C = wR X (b en st2) _
      cases h3 : b en st2 with
      | ex _ _ _ => rfl
      | no => rfl
      | ok wy st3 => rfl
@[simp ↓] theorem wR_dNotT {Pw : W → Sto → Prop} : wR X (dNotT a en st) Pw = wR X (a en st) fun v st1 => wR X (match truW st1 v with
  | some b => .ok (.fz (.bool (!b))) st1
  | none => .no) Pw := by rw [dNotT_eq]; exact wR_b2 fun _ _ => rfl
@[simp ↓] theorem wR_dGet2 {Pw : W → Sto → Prop} : wR X (dGet2 a b c en st) Pw = wR X (a en st) fun wd st1 => match wd with
  | .loc n => match st1[n]? with
    | some (.dk _) => wR X (b en st1) fun wk st2 => wR X (c en st2) fun we st3 => wR X (match keyW wk, we with
      | some key, .fz d0 => match st3[n]? with
        | some (.dk l) => .ok (.fz ((valG l key).getD d0)) st3
        | _ => .no
      | _, _ => .no) Pw
    | _ => False
  | _ => False := by
  show wR X ((a en st).bind _) Pw = _
  refine wR_b2 fun wd st1 => ?_
  cases wd with
  | fz _ => rfl
  | own _ => rfl
  | nst _ => rfl
  | loc n =>
    dsimp only
    cases st1[n]? with
    | none => rfl
    | some o =>
      cases o with
      | dk l =>
        dsimp only
        refine wR_b2 fun _ _ => ?_
        rw [wR_bind]
        all_goals rfl
      | _ => rfl
end
end QD
/-! NA08: a number read. -/
namespace K08
open PySem PySem.Spec PyProof.Rows L2 MG QD MU
theorem lcD_map {α : Type} {l0 : List D} {g : DnG} {t : DnT} {ek ev : Dn} {en0 : En} {st : Sto} (enc : α → D) (kf : α → Key) (vf : α → D) : ∀ (xs : List α) (acc : List (Key × D)),
    (∀ x ∈ xs, ∃ en2 w w2, g (.fz (enc x)) en0 st = .ok en2 st ∧ t en2 st = .ok true st ∧ ek en2 st = .ok w st ∧ keyW w = some (kf x) ∧ ev en2 st = .ok w2 st ∧ datW w2 = some (vf x)) → acc.length + xs.length ≤ 1000 →
    lcD ⟨l0, none⟩ g t ek ev en0 (xs.map enc) acc st = .ok (.loc st.length) (st ++ [.dk (xs.foldl (fun a x => putG a (kf x) (vf x)) acc)])
  | [], acc, _, _ => by
    rw [List.map_nil]
    unfold lcD
    rw [if_pos (show Src.ok ⟨l0, none⟩ st from trivial)]
    rfl
  | x :: xs, acc, h, hl => by
    obtain ⟨en2, w, w2, h1, h2, h3, h4, h5, h6⟩ := h x (List.mem_cons_self ..)
    rw [List.length_cons] at hl
    have hp : (putG acc (kf x) (vf x)).length ≤ acc.length + 1 := by
      unfold putG
      split
      · rw [List.length_map]; omega
      · rw [List.length_append, List.length_singleton]; omega
    have ih := lcD_map (l0 := l0) (g := g) (t := t) (ek := ek) (ev := ev) (en0 := en0) (st := st) enc kf vf xs (putG acc (kf x) (vf x)) (fun y hy => h y (List.mem_cons_of_mem _ hy)) (by omega)
    rw [List.map_cons]
    unfold lcD
    rw [if_pos (show Src.ok ⟨l0, none⟩ st from trivial)]
    have hl2 : acc.length < 100000 := by omega
    simp [h1, h2, h3, h4, h5, h6, hl2, nox]
    exact ih
def kvN (m : Nat) : List (Key × D) := (List.range m).foldl (fun a (i : Nat) => putG a (.inr (num ((i + 1 : Nat) : Int))) (.int ((i + 1 : Nat) : Int))) []
def numV (m : Nat) (d : Str) : D := (valG (kvN m) (.inr d)).getD .none
theorem number_c {d : Str} {m : Nat} (hm : m ≤ 12) {st : Sto} : c_number_1 [some (.fz (.str d)), some (.fz (.int m)), none, none] st = .ok (.loc st.length) (st ++ [.dk (kvN m)]) := by
  have hr : r2S [(1 : Int), (m : Int) + 1] = some (rngS 1 m) := by
    have hb : -(2 ^ 62) ≤ (1 : Int) ∧ (1 : Int) < 2 ^ 62 ∧ -(2 ^ 62) ≤ (m : Int) + 1 ∧ (m : Int) + 1 < 2 ^ 62 := ⟨by decide, by decide, by omega, by omega⟩
    rw [show r2S [(1 : Int), (m : Int) + 1] = @ite _ (-(2 ^ 62) ≤ (1 : Int) ∧ (1 : Int) < 2 ^ 62 ∧ -(2 ^ 62) ≤ (m : Int) + 1 ∧ (m : Int) + 1 < 2 ^ 62) (Classical.propDecidable _) (some (rngS 1 ((m : Int) + 1 - 1).toNat)) none from rfl, if_pos hb]
    rw [show ((m : Int) + 1 - 1).toNat = m by omega]
  have ir : iR r2S (aCons (dC (.int 1)) (aCons (dOp fAdd (dVar 1) (dC (.int 1))) aNil)) [some (.fz (.str d)), some (.fz (.int m)), none, none] st = .ok (rngS 1 m) st := iR_ok (ws := [.fz (.int 1), .fz (.int ((m : Int) + 1))]) (l := [1, (m : Int) + 1]) (by simp) rfl hr
  unfold c_number_1
  rw [dDc_eq, ir, Rt.bind_ok]
  unfold rngS
  refine lcD_map (fun i : Nat => PyData.int (1 + (i : Int))) (fun i : Nat => .inr (num ((i + 1 : Nat) : Int))) (fun i : Nat => .int ((i + 1 : Nat) : Int)) (List.range m) [] (fun i hi => ?_) (by rw [List.length_range]; simp; omega)
  have hi' := List.mem_range.mp hi
  have e : ((i + 1 : Nat) : Int) = 1 + (i : Int) := by omega
  rw [e]
  have ea : (1 + (i : Int)).natAbs.log2 < 1920 := Nat.lt_of_le_of_lt (Nat.log2_le_self _) (by omega)
  refine ⟨_, .fz (.str (num (1 + (i : Int)))), .fz (.int (1 + (i : Int))), rfl, rfl, ?_, rfl, rfl, rfl⟩
  simp [wipeE, fStrI, intW, ea, num]
theorem number {d : Str} {m : Nat} (hm : m ≤ 12) {st : Sto} : F_number [.fz (.str d), .fz (.int m)] st = .ok (.fz (numV m d)) st := by
  have nc := fun s => number_c (d := d) hm (st := s)
  have g1 : ∀ en s, en[2]? = some (some (.loc st.length)) → en[0]? = some (some (.fz (.str d))) → s[st.length]? = some (.dk (kvN m)) → dGet1 (dVar 2) (dVar 0) en s = .ok (.fz (numV m d)) s := fun en s h2 h0 hs => by
    unfold dGet1 dVar
    simp only [h2, h0, Rt.bind_ok, hs, keyW_str]
    rfl
  generalize hkv : kvN m = kv at *
  generalize numV m d = nv at *
  apply wR.eq
  unfold F_number d_number
  simp [nc, g1]
theorem kv4 : kvN 4 = [(.inr "1", .int 1), (.inr "2", .int 2), (.inr "3", .int 3), (.inr "4", .int 4)] := by
  have e1 : num 1 = "1" := by decide +kernel
  have e2 : num 2 = "2" := by decide +kernel
  have e3 : num 3 = "3" := by decide +kernel
  have e4 : num 4 = "4" := by decide +kernel
  have n12 : ("1" : Str) ≠ "2" := by decide +kernel
  have n13 : ("1" : Str) ≠ "3" := by decide +kernel
  have n14 : ("1" : Str) ≠ "4" := by decide +kernel
  have n23 : ("2" : Str) ≠ "3" := by decide +kernel
  have n24 : ("2" : Str) ≠ "4" := by decide +kernel
  have n34 : ("3" : Str) ≠ "4" := by decide +kernel
  unfold kvN
  rw [show List.range 4 = [0, 1, 2, 3] from rfl]
  simp only [List.foldl_cons, List.foldl_nil, Nat.zero_add, Nat.reduceAdd]
  rw [show ((1 : Nat) : Int) = 1 from rfl, show ((2 : Nat) : Int) = 2 from rfl, show ((3 : Nat) : Int) = 3 from rfl, show ((4 : Nat) : Int) = 4 from rfl, e1, e2, e3, e4]
  generalize ("1" : Str) = a at *
  generalize ("2" : Str) = b at *
  generalize ("3" : Str) = c at *
  generalize ("4" : Str) = d at *
  simp [putG, n12, n13, n14, n23, n24, n34]
def digB (d : Str) : Bool := decide (d = "1") || decide (d = "2") || decide (d = "3") || decide (d = "4")
theorem num4_none {d : Str} (h : digB d = false) : numV 4 d = .none := by
  unfold digB at h
  simp only [Bool.or_eq_false_iff, decide_eq_false_iff_not] at h
  obtain ⟨⟨⟨h1, h2⟩, h3⟩, h4⟩ := h
  unfold numV valG
  rw [kv4]
  generalize ("1" : Str) = a at *
  generalize ("2" : Str) = b at *
  generalize ("3" : Str) = c at *
  generalize ("4" : Str) = e at *
  simp [List.find?_cons, Ne.symm h1, Ne.symm h2, Ne.symm h3, Ne.symm h4]
theorem num4_1 : numV 4 "1" = .int 1 := by
  unfold numV valG
  rw [kv4]
  generalize ("1" : Str) = a at *
  simp [List.find?_cons]
theorem num4_3 : numV 4 "3" = .int 3 := by
  have n13 : ("1" : Str) ≠ "3" := by decide +kernel
  have n23 : ("2" : Str) ≠ "3" := by decide +kernel
  unfold numV valG
  rw [kv4]
  generalize ("1" : Str) = a at *
  generalize ("2" : Str) = b at *
  generalize ("3" : Str) = c at *
  simp [List.find?_cons, n13, n23]
end K08
/-! NB08: a text taken apart. -/
namespace K08
open PySem PySem.Spec PyProof.Rows L2 MG QD MU
theorem get_mid {s y : Sto} {k : Nat} {o : Ob} (h : s.length = k) : (s ++ o :: y)[k]? = some o := by
  rw [← h, List.getElem?_append_right (Nat.le_refl _), Nat.sub_self]; rfl
theorem set_mid {s y : Sto} {k : Nat} {o p : Ob} (h : s.length = k) : (s ++ o :: y).set k p = s ++ p :: y := by
  rw [← h, List.set_append_right _ _ (Nat.le_refl _), Nat.sub_self]; rfl
theorem app_mid {s y : Sto} {k : Nat} {l : List D} {d : D} (hk : s.length = k) (hl : l.length < 1000) : fChg gApp (.loc k) [.fz d] (s ++ .lst l :: y) = .ok (.fz .none) (s ++ .lst (l ++ [d]) :: y) := by
  have l : l.length < sizeLine := Nat.lt_of_lt_of_le hl (sz_le (by decide))
  unfold fChg
  simp only [get_mid hk, gApp, datW_fz, if_pos l, set_mid hk]
abbrev PSt := List D × List D × D
def stepP (p : PSt) (l : Str) : PSt :=
  (if (Txt.partition l " ").1 = "host" then p.1 ++ [.tuple [.str (Txt.partition (Txt.partition l " ").2.2 " ").1, numV 4 (Txt.partition (Txt.partition l " ").2.2 " ").2.2]] else p.1,
   if (Txt.partition l " ").1 = "guest" then p.2.1 ++ [.tuple [.str (Txt.partition (Txt.partition l " ").2.2 " ").1, numV 4 (Txt.partition (Txt.partition l " ").2.2 " ").2.2]] else p.2.1,
   if (Txt.partition l " ").1 = "tables" then numV 12 (Txt.partition l " ").2.2 else p.2.2)
theorem part_at {z : Str} (hz : z.length ≤ 100) {i : Nat} {en : En} {s : Sto} (h : en[i]? = some (some (.fz (.str z)))) :
    dPart (dVar i) (dC (.str " ")) en s = .ok (.fz (.tuple [.str (Txt.partition z " ").1, .str (Txt.partition z " ").2.1, .str (Txt.partition z " ").2.2])) s := by
  unfold dPart dVar dC
  simp only [h, Rt.bind_ok, strW]
  rw [if_pos ⟨by decide +kernel, sz_le (by omega)⟩]
theorem parts_step {l : Str} (hl : l.length ≤ 100) (hr : (Txt.partition l " ").2.2.length ≤ 100) {p : PSt} (h1 : p.1.length ≤ 100) (h2 : p.2.1.length ≤ 100) {v0 v5 v6 v7 v8 v9 : Option QD.W} {st : Sto} {L : Nat} (hL : L = st.length) :
    wS noX (b_parts_of_1 [v0, some (.loc L), some (.loc (L + 1)), some (.fz p.2.2), some (.fz (.str l)), v5, v6, v7, v8, v9] (st ++ [.lst p.1, .lst p.2.1]))
      (fun en s => (∃ v5 v6 v7 v8 v9, en = [v0, some (.loc L), some (.loc (L + 1)), some (.fz (stepP p l).2.2), some (.fz (.str l)), v5, v6, v7, v8, v9]) ∧ s = st ++ [.lst (stepP p l).1, .lst (stepP p l).2.1]) (fun _ _ => False) (fun _ _ => False) (fun _ _ => False) := by
  obtain ⟨H, G, t⟩ := p
  dsimp only at h1 h2 ⊢
  unfold stepP
  dsimp only
  have pa := fun en s h => part_at hl (i := 4) (en := en) (s := s) h
  have pb := fun en s h => part_at hr (i := 7) (en := en) (s := s) h
  have nb : ∀ (d : Str) s, F_number [.fz (.str d), .fz (.int 4)] s = .ok (.fz (numV 4 d)) s := fun (d : Str) s => number (d := d) (m := 4) (by decide) (st := s)
  have nc : ∀ (d : Str) s, F_number [.fz (.str d), .fz (.int 12)] s = .ok (.fz (numV 12 d)) s := fun (d : Str) s => number (d := d) (m := 12) (by decide) (st := s)
  have il1 : ∀ (H G : List D), isLst (st ++ [Ob.lst H, .lst G]) (.loc L) = true := fun H G => by
    unfold isLst
    rw [seqW_loc (get_mid hL.symm)]
    rfl
  have il2 : ∀ (H G : List D), isLst (st ++ [Ob.lst H, .lst G]) (.loc (L + 1)) = true := fun H G => by
    have g1 : (st ++ [Ob.lst H, .lst G])[L + 1]? = some (.lst G) := by
      rw [hL, List.getElem?_append_right (by omega), Nat.add_sub_cancel_left]; rfl
    unfold isLst
    rw [seqW_loc g1]
    rfl
  have a1 : ∀ (d : D), fChg gApp (.loc L) [.fz d] (st ++ [Ob.lst H, .lst G]) = .ok (.fz .none) (st ++ [Ob.lst (H ++ [d]), .lst G]) := fun d => app_mid (s := st) (y := [Ob.lst G]) (k := L) hL.symm (by omega)
  have a2 : ∀ (H : List D) (d : D), fChg gApp (.loc (L + 1)) [.fz d] (st ++ [Ob.lst H, .lst G]) = .ok (.fz .none) (st ++ [Ob.lst H, .lst (G ++ [d])]) := fun H d => by
    have := app_mid (s := st ++ [Ob.lst H]) (y := []) (k := L + 1) (l := G) (d := d) (by rw [hL]; simp) (by omega)
    simpa using this
  have kh : ∀ (a b : Str) s, fEq false (.fz (.str a)) (.fz (.str b)) s = .ok (.fz (.bool (decide (a = b)))) s := fun a b s => by
    simp [fEq, scaD, eqS]
  generalize Txt.partition l " " = P1 at *
  obtain ⟨k1, m1, r1⟩ := P1
  dsimp only at *
  generalize Txt.partition r1 " " = P2 at *
  obtain ⟨n2, m2, d2⟩ := P2
  dsimp only at *
  have eh : ("host" : Str) ≠ "guest" := by decide +kernel
  have et : ("host" : Str) ≠ "tables" := by decide +kernel
  have gt : ("guest" : Str) ≠ "tables" := by decide +kernel
  unfold b_parts_of_1
  generalize ("host" : Str) = hS at *
  generalize ("guest" : Str) = gS at *
  generalize ("tables" : Str) = tS at *
  generalize (" " : Str) = sS at *
  by_cases c1 : k1 = hS
  · subst c1
    simp [pa, pb, nb, kh, il1, a1, sz_le, eh, et]
  · by_cases c2 : k1 = gS
    · subst c2
      simp [pa, pb, nb, kh, il2, a2, sz_le, c1, gt]
    · by_cases c3 : k1 = tS
      · subst c3
        simp [pa, pb, nc, kh, sz_le, c1, c2]
      · simp [pa, pb, kh, c1, c2, c3]
def parts0 (ls : List Str) : PSt := ls.foldl stepP ([], [], .none)
theorem step_len {p : PSt} {l : Str} : (stepP p l).1.length ≤ p.1.length + 1 ∧ (stepP p l).2.1.length ≤ p.2.1.length + 1 := by
  unfold stepP
  dsimp only
  constructor
  · split
    · rw [List.length_append, List.length_singleton]; omega
    · omega
  · split
    · rw [List.length_append, List.length_singleton]; omega
    · omega
theorem fold_len : ∀ (ls : List Str) (p : PSt), (ls.foldl stepP p).1.length ≤ p.1.length + ls.length ∧ (ls.foldl stepP p).2.1.length ≤ p.2.1.length + ls.length
  | [], p => ⟨Nat.le_refl _, Nat.le_refl _⟩
  | l :: ls, p => by
    have h := fold_len ls (stepP p l)
    have s := step_len (p := p) (l := l)
    rw [List.foldl_cons, List.length_cons]
    omega
theorem parts_of {x : Str} (hx : x.length ≤ 200) {ls : List Str} (hs : Txt.split x "\n" = ls) (hn : ls.length ≤ 50) (hl : ∀ l ∈ ls, l.length ≤ 100 ∧ (Txt.partition l " ").2.2.length ≤ 100) {st : Sto} :
    F_parts_of [.fz (.str x)] st = .ok (.fz (.tuple [.tuple (parts0 ls).1, .tuple (parts0 ls).2.1, (parts0 ls).2.2])) st := by
  have sp : ∀ en s, en[0]? = some (some (.fz (.str x))) → dSplit (dVar 0) (dC (.str "\n")) en s = .ok (.own (ls.map PyData.str)) s := fun en s h => by
    unfold dSplit dVar dC
    simp only [h, Rt.bind_ok, strW]
    rw [if_pos ⟨by decide +kernel, sz_le (by omega)⟩, hs]
  have src : ∀ s, srcW s (.own (ls.map PyData.str)) = some ⟨ls.map PyData.str, none⟩ := fun s => rfl
  have ps := fun (i : Nat) (l : Str) (h : ls[i]? = some l) (v0 v5 v6 v7 v8 v9 : Option QD.W) => by
    have m := hl l (List.mem_of_getElem? h)
    have f := fold_len (ls.take i) ([], [], .none)
    have li : (ls.take i).length ≤ ls.length := List.length_take_le' ..
    simp only [List.length_nil] at f
    exact parts_step m.1 m.2 (p := (ls.take i).foldl stepP ([], [], .none)) (by omega) (by omega) (v0 := v0) (v5 := v5) (v6 := v6) (v7 := v7) (v8 := v8) (v9 := v9) (st := st) rfl
  generalize hB : b_parts_of_1 = B at *
  apply wR.eq
  unfold F_parts_of d_parts_of
  rw [hB]
  simp [sp, src, sz_le]
  refine wS_for PyData.str ls (fun i en s => (∃ v4 v5 v6 v7 v8 v9, en = [some (.fz (.str x)), some (.loc st.length), some (.loc (st.length + 1)), some (.fz ((ls.take i).foldl stepP ([], [], .none)).2.2), v4, v5, v6, v7, v8, v9]) ∧ s = st ++ [.lst ((ls.take i).foldl stepP ([], [], .none)).1, .lst ((ls.take i).foldl stepP ([], [], .none)).2.1]) rfl ⟨⟨_, _, _, _, _, _, rfl⟩, rfl⟩ (fun i l en s hil hI => ?_) (fun en s hI => ?_)
  · obtain ⟨⟨v4, v5, v6, v7, v8, v9, rfl⟩, rfl⟩ := hI
    have tk : (ls.take (i + 1)).foldl stepP ([], [], .none) = stepP ((ls.take i).foldl stepP ([], [], .none)) l := by
      rw [List.take_add_one, hil, Option.toList_some, List.foldl_append]
      rfl
    have h := ps i l hil (some (.fz (.str x))) v5 v6 v7 v8 v9
    rw [tk]
    generalize stepP ((ls.take i).foldl stepP ([], [], .none)) l = p2 at *
    generalize (ls.take i).foldl stepP ([], [], .none) = p at *
    simp
    refine h.use ?_ (fun _ _ h => h.elim) (fun _ _ h => h.elim) (fun _ _ h => h.elim)
    rintro en s ⟨⟨v5, v6, v7, v8, v9, rfl⟩, rfl⟩
    exact ⟨⟨_, _, _, _, _, _, rfl⟩, rfl⟩
  · obtain ⟨⟨v4, v5, v6, v7, v8, v9, rfl⟩, rfl⟩ := hI
    rw [List.take_length]
    show wS _ _ _ _ _ _
    unfold parts0
    generalize ls.foldl stepP ([], [], .none) = p at *
    obtain ⟨H, G, t⟩ := p
    dsimp only
    have t1 : fTupOf (.loc st.length) (st ++ [Ob.lst H, .lst G]) = .ok (.fz (.tuple H)) (st ++ [Ob.lst H, .lst G]) := by
      unfold fTupOf; simp [seqW_loc (get_mid (s := st) (y := [Ob.lst G]) (o := .lst H) rfl)]
    have t2 : fTupOf (.loc (st.length + 1)) (st ++ [Ob.lst H, .lst G]) = .ok (.fz (.tuple G)) (st ++ [Ob.lst H, .lst G]) := by
      have g1 : (st ++ [Ob.lst H, .lst G])[st.length + 1]? = some (.lst G) := by
        rw [List.getElem?_append_right (by omega), Nat.add_sub_cancel_left]; rfl
      unfold fTupOf; simp [seqW_loc g1]
    simp [t1, t2, sz_le]
end K08
/-! NC08: the page of one word, taken apart. -/
namespace K08
open PySem PySem.Spec PyProof.Rows L2 MG QD MU
theorem tl_sp : TL.tl (" " : Str) = 32 :: [] := by decide +kernel
theorem tl_nl : TL.tl ("\n" : Str) = 10 :: [] := by decide +kernel
def pageS (x y : Str) : Str := ("host " : Str) ++ x ++ " 3\nguest " ++ y ++ " 1"
/-- free of blanks and line ends -/
def Fre (x : Str) : Prop := 32 ∉ TL.tl x ∧ 10 ∉ TL.tl x
theorem sapp (a b c : Str) : a ++ b ++ c = a ++ (b ++ c) := TL.ext_tl (by rw [TL.tl_append, TL.tl_append, TL.tl_append, TL.tl_append, List.append_assoc])
theorem host_ : ("host " : Str) = "host" ++ " " := by decide +kernel
theorem guest_ : ("guest " : Str) = "guest" ++ " " := by decide +kernel
theorem three_ : (" 3\nguest " : Str) = " 3" ++ "\n" ++ "guest " := by decide +kernel
theorem mem_app {s : Nat} {a b : Str} : s ∈ TL.tl (a ++ b) ↔ s ∈ TL.tl a ∨ s ∈ TL.tl b := by rw [TL.tl_append, List.mem_append]
theorem join2 (a b : Str) : Txt.join "\n" [a, b] = a ++ "\n" ++ b := by
  apply TL.ext_tl
  rw [TL.join_eq, TL.tl_join, TL.tl_append, TL.tl_append]
  simp [TL.joinL]
theorem join3 (a b c : Str) : Txt.join "\n" [a, b, c] = a ++ "\n" ++ (b ++ "\n" ++ c) := by
  apply TL.ext_tl
  rw [TL.join_eq, TL.tl_join, TL.tl_append, TL.tl_append, TL.tl_append, TL.tl_append]
  simp [TL.joinL]
def gline (y : Str) : Str := "guest " ++ y ++ " 1"
theorem page_2 (x y : Str) : pageS x y = Txt.join "\n" ["host " ++ x ++ " 3", gline y] := by
  rw [join2]
  unfold pageS gline
  rw [three_]
  simp only [sapp]
theorem page_3 (a b y : Str) : pageS (a ++ "\n" ++ b) y = Txt.join "\n" ["host " ++ a, b ++ " 3", gline y] := by
  rw [join3]
  unfold pageS gline
  rw [three_]
  simp only [sapp]
theorem gline_free {y : Str} (hy : Fre y) : 10 ∉ TL.tl (gline y) := by
  unfold gline
  rw [mem_app, mem_app]
  rintro ((h | h) | h)
  · exact absurd h (by decide +kernel)
  · exact hy.2 h
  · exact absurd h (by decide +kernel)
theorem split_2 {x y : Str} (hx : 10 ∉ TL.tl x) (hy : Fre y) : Txt.split (pageS x y) "\n" = ["host " ++ x ++ " 3", gline y] := by
  rw [page_2]
  refine TL.split_join (s := 10) (S := []) tl_nl (by decide +kernel) (by simp) fun p hp => ?_
  rcases List.mem_cons.mp hp with rfl | hp
  · rw [mem_app, mem_app]
    rintro ((h | h) | h)
    · exact absurd h (by decide +kernel)
    · exact hx h
    · exact absurd h (by decide +kernel)
  · rw [List.mem_singleton] at hp; subst hp; exact gline_free hy
theorem split_3 {a b y : Str} (ha : 10 ∉ TL.tl a) (hb : 10 ∉ TL.tl b) (hy : Fre y) : Txt.split (pageS (a ++ "\n" ++ b) y) "\n" = ["host " ++ a, b ++ " 3", gline y] := by
  rw [page_3]
  refine TL.split_join (s := 10) (S := []) tl_nl (by decide +kernel) (by simp) fun p hp => ?_
  rcases List.mem_cons.mp hp with rfl | hp
  · rw [mem_app]
    rintro (h | h)
    · exact absurd h (by decide +kernel)
    · exact ha h
  · rcases List.mem_cons.mp hp with rfl | hp
    · rw [mem_app]
      rintro (h | h)
      · exact hb h
      · exact absurd h (by decide +kernel)
    · rw [List.mem_singleton] at hp; subst hp; exact gline_free hy
/-! ### lines -/
theorem line_host (r : Str) : Txt.partition ("host " ++ r) " " = (("host" : Str), (" " : Str), r) := by
  rw [host_]
  exact TL.partition_app tl_sp (by decide +kernel)
theorem line_guest (r : Str) : Txt.partition ("guest " ++ r) " " = (("guest" : Str), (" " : Str), r) := by
  rw [guest_]
  exact TL.partition_app tl_sp (by decide +kernel)
theorem pair_of {x d : Str} (hx : 32 ∉ TL.tl x) : Txt.partition (x ++ " " ++ d) " " = (x, (" " : Str), d) := TL.partition_app tl_sp hx
theorem alone {x : Str} (hx : 32 ∉ TL.tl x) : Txt.partition x " " = (x, Str.empty, Str.empty) := TL.partition_none tl_sp hx
theorem hg : ("host" : Str) ≠ "guest" := by decide +kernel
theorem ht : ("host" : Str) ≠ "tables" := by decide +kernel
theorem gt_ : ("guest" : Str) ≠ "tables" := by decide +kernel
theorem gh_ : ("guest" : Str) ≠ "host" := by decide +kernel
theorem step_host {p : PSt} {r : Str} : stepP p ("host " ++ r) = (p.1 ++ [.tuple [.str (Txt.partition r " ").1, numV 4 (Txt.partition r " ").2.2]], p.2.1, p.2.2) := by
  unfold stepP
  rw [line_host]
  dsimp only
  rw [if_pos rfl, if_neg hg, if_neg ht]
theorem step_guest {p : PSt} {y : Str} (hy : Fre y) : stepP p (gline y) = (p.1, p.2.1 ++ [.tuple [.str y, .int 1]], p.2.2) := by
  unfold stepP gline
  rw [sapp, line_guest]
  dsimp only
  rw [if_neg gh_, if_pos rfl, if_neg gt_, show (y ++ " 1" : Str) = y ++ " " ++ "1" by rw [sapp]; rfl, pair_of hy.1]
  dsimp only
  rw [num4_1]
/-- a name -/
theorem parts_good {x y : Str} (hx : Fre x) (hy : Fre y) : parts0 ["host " ++ x ++ " 3", gline y] = ([.tuple [.str x, .int 3]], [.tuple [.str y, .int 1]], .none) := by
  unfold parts0
  rw [List.foldl_cons, List.foldl_cons, List.foldl_nil, sapp, step_host, step_guest hy, show (x ++ " 3" : Str) = x ++ " " ++ "3" by rw [sapp]; rfl, pair_of hx.1]
  dsimp only
  rw [num4_3]
  rfl
theorem dig_bad {d : Str} (h : 32 ∈ TL.tl d) : digB d = false := by
  unfold digB
  simp only [Bool.or_eq_false_iff, decide_eq_false_iff_not]
  refine ⟨⟨⟨?_, ?_⟩, ?_⟩, ?_⟩ <;> (rintro rfl; exact absurd h (by decide +kernel))
theorem step_keeps {p : PSt} {l : Str} : p.1 <+: (stepP p l).1 := by
  unfold stepP
  dsimp only
  split
  · exact List.prefix_append _ _
  · exact List.prefix_refl _
theorem fold_keeps : ∀ (ls : List Str) (p : PSt), p.1 <+: (ls.foldl stepP p).1
  | [], p => List.prefix_refl _
  | l :: ls, p => (step_keeps (l := l)).trans (fold_keeps ls _)
/-- a blank within -/
theorem parts_blank {a b y : Str} (ha : Fre a) : ∃ r, (parts0 ["host " ++ (a ++ " " ++ b) ++ " 3", gline y]).1 = .tuple [.str a, .none] :: r := by
  unfold parts0
  rw [List.foldl_cons]
  have e : stepP ([], [], .none) ("host " ++ (a ++ " " ++ b) ++ " 3") = ([.tuple [.str a, .none]], [], .none) := by
    rw [sapp, step_host, show (a ++ " " ++ b ++ " 3" : Str) = a ++ " " ++ (b ++ " 3") by simp only [sapp], pair_of ha.1]
    dsimp only
    rw [num4_none (dig_bad (by rw [mem_app]; exact .inr (by decide +kernel)))]
    rfl
  rw [e]
  obtain ⟨r, h⟩ := fold_keeps [gline y] ([.tuple [.str a, .none]], [], .none)
  exact ⟨r, h.symm⟩
/-- a line end within -/
theorem parts_end {a b y : Str} (ha : Fre a) : ∃ r, (parts0 ["host " ++ a, b ++ " 3", gline y]).1 = .tuple [.str a, .none] :: r := by
  unfold parts0
  rw [List.foldl_cons]
  have e : stepP ([], [], .none) ("host " ++ a) = ([.tuple [.str a, .none]], [], .none) := by
    rw [step_host, alone ha.1]
    dsimp only
    rw [num4_none (by decide +kernel)]
    rfl
  rw [e]
  obtain ⟨r, h⟩ := fold_keeps [b ++ " 3", gline y] ([.tuple [.str a, .none]], [], .none)
  exact ⟨r, h.symm⟩
end K08
/-! ND08: a page read. -/
namespace K08
open PySem PySem.Spec PyProof.Rows L2 MG QD MU
def lineK (k : Str) (z : Str × Int) : Str := Str.empty ++ k ++ z.1 ++ " " ++ num z.2
theorem js2x {k : Str} {z : Str × Int} {en : En} {st : Sto} {i j : Nat} (hi : en[i]? = some (some (.fz (.str z.1)))) (hj : en[j]? = some (some (.fz (.int z.2)))) (hk : k.length ≤ 6) (h8 : z.1.length ≤ 8) (h1 : 1 ≤ z.2) (h4 : z.2 ≤ 4) :
    (lineK k z).length ≤ 17 ∧ dJs [(dC (.str k)), (dFmt (dVar i)), (dC (.str " ")), (dFmt (dVar j))] en st = .ok (.fz (.str (lineK k z))) st := by
  have n2 : (num z.2).length ≤ 2 := num_len (by omega) (by omega)
  have l1 : (Str.empty ++ k).length ≤ sizeLine := by rw [app_len]; exact sz_le (by show 0 + _ ≤ _; omega)
  have l2 : (Str.empty ++ k ++ z.1).length ≤ sizeLine := by rw [app_len, app_len]; exact sz_le (by show 0 + _ + _ ≤ _; omega)
  have sp : (" " : Str).length = 1 := by decide +kernel
  have l3 : (Str.empty ++ k ++ z.1 ++ " ").length ≤ sizeLine := by rw [app_len, app_len, app_len, sp]; exact sz_le (by show 0 + _ + _ + _ ≤ _; omega)
  have l4 : (Str.empty ++ k ++ z.1 ++ " " ++ num z.2).length ≤ 17 := by rw [app_len, app_len, app_len, app_len, sp]; show 0 + _ + _ + _ + _ ≤ _; omega
  have f1 : dFmt (dVar i) en st = .ok (.fz (.str z.1)) st := by
    unfold dFmt
    simp only [dVar_eq, hi, Rt.bind_ok, if_pos (sz_le (show z.1.length ≤ 100000 by omega))]
  have f2 : dFmt (dVar j) en st = .ok (.fz (.str (num z.2))) st := by
    unfold dFmt
    simp only [dVar_eq, hj, Rt.bind_ok, if_pos (int_small (show 0 ≤ z.2 by omega) (by omega))]
    rfl
  refine ⟨l4, ?_⟩
  unfold dJs lineK
  simp only [jsD, dC_eq, Rt.bind_ok, strW_fz, if_pos l1, f1, if_pos l2, if_pos l3, f2, if_pos (sz_le (show _ ≤ 100000 from Nat.le_trans l4 (by decide)))]
theorem line_x {k : Str} {x : Str} {n : Int} {d : Str} (h : num n = d) : lineK k (x, n) = k ++ x ++ (" " ++ d) := by
  unfold lineK
  rw [h]
  apply TL.ext_tl
  simp only [TL.tl_append, List.append_assoc]
  rfl
theorem text_1 {x y : Str} (hx : Nm x) (hy : Nm y) {st : Sto} : F_text_of [.fz (sideD [(x, 3)]), .fz (sideD [(y, 1)]), .fz (deskD none)] st = .ok (.fz (.str (pageS x y))) st := by
  obtain ⟨_, x8⟩ := hx.len
  obtain ⟨_, y8⟩ := hy.len
  have c1 : c_text_of_1 [some (.fz (sideD [(x, 3)])), some (.fz (sideD [(y, 1)])), some (.fz (deskD none)), none, none, none] st = .ok (.own [.str (lineK "host " (x, 3))]) st := by
    have src : ∀ s, srcT s (.fz (sideD [(x, 3)])) = some ⟨[(x, (3 : Int))].map memD, none⟩ := fun s => rfl
    generalize sideD [(x, 3)] = sd at *
    generalize sideD [(y, 1)] = gd at *
    apply wR.eq
    unfold c_text_of_1
    simp [src]
    refine wR_lcM memD [(x, (3 : Int))] (fun z => .str (lineK "host " z)) rfl (by simp) (fun z hz => ?_) ⟨rfl, rfl⟩
    rw [List.mem_singleton] at hz
    subst hz
    have j := js2x (k := "host ") (z := (x, 3)) (en := [some (.fz sd), some (.fz gd), some (.fz (deskD none)), none, some (.fz (.str x)), some (.fz (.int 3))]) (st := st) (i := 4) (j := 5) rfl rfl (by decide +kernel) x8 (show (1 : Int) ≤ 3 by decide) (show (3 : Int) ≤ 4 by decide)
    generalize lineK "host " (x, 3) = ln at *
    unfold memD
    simp [wipeE, j.2]
  have c2 : ∀ l, c_text_of_2 [some (.fz (sideD [(x, 3)])), some (.fz (sideD [(y, 1)])), some (.fz (deskD none)), some (.loc st.length), none, none] (st ++ [.lst l]) = .ok (.own [.str (lineK "guest " (y, 1))]) (st ++ [.lst l]) := fun l => by
    have src : ∀ s, srcT s (.fz (sideD [(y, 1)])) = some ⟨[(y, (1 : Int))].map memD, none⟩ := fun s => rfl
    generalize sideD [(x, 3)] = sd at *
    generalize sideD [(y, 1)] = gd at *
    apply wR.eq
    unfold c_text_of_2
    simp [src]
    refine wR_lcM memD [(y, (1 : Int))] (fun z => .str (lineK "guest " z)) rfl (by simp) (fun z hz => ?_) ⟨rfl, rfl⟩
    rw [List.mem_singleton] at hz
    subst hz
    have j := js2x (k := "guest ") (z := (y, 1)) (en := [some (.fz sd), some (.fz gd), some (.fz (deskD none)), some (.loc st.length), some (.fz (.str y)), some (.fz (.int 1))]) (st := st ++ [.lst l]) (i := 4) (j := 5) rfl rfl (by decide +kernel) y8 (show (1 : Int) ≤ 1 by decide) (show (1 : Int) ≤ 4 by decide)
    generalize lineK "guest " (y, 1) = ln at *
    unfold memD
    simp [wipeE, j.2]
  have pe : pageS x y = Txt.join "\n" [lineK "host " (x, 3), lineK "guest " (y, 1)] := by
    rw [page_2]
    rw [line_x (d := "3") (by decide +kernel), line_x (d := "1") (by decide +kernel)]
    rfl
  have b1 := (js2x (k := "host ") (z := (x, 3)) (en := [some (.fz (.str x)), some (.fz (.int 3))]) (st := st) (i := 0) (j := 1) rfl rfl (by decide +kernel) x8 (show (1 : Int) ≤ 3 by decide) (show (3 : Int) ≤ 4 by decide)).1
  have b2 := (js2x (k := "guest ") (z := (y, 1)) (en := [some (.fz (.str y)), some (.fz (.int 1))]) (st := st) (i := 0) (j := 1) rfl rfl (by decide +kernel) y8 (show (1 : Int) ≤ 1 by decide) (show (1 : Int) ≤ 4 by decide)).1
  rw [pe]
  generalize lineK "host " (x, 3) = L1 at *
  generalize lineK "guest " (y, 1) = L2 at *
  have ext : fChg (gExt (st ++ [.lst [.str L1]])) (.loc st.length) [.own [.str L2]] (st ++ [.lst [.str L1]]) = .ok (.fz .none) (st ++ [.lst [.str L1, .str L2]]) := by
    have l : ([PyData.str L1]).length + ([PyData.str L2]).length ≤ sizeLine := sz_le (by simp)
    unfold fChg
    simp only [get_last rfl, gExt, seqW_own, if_pos l, set_last rfl]
    rfl
  have jn : ∀ en : En, en[3]? = some (some (.loc st.length)) → dJoin (dC (.str "\n")) (dVar 3) en (st ++ [.lst [.str L1, .str L2]]) = .ok (.fz (.str (Txt.join "\n" [L1, L2]))) (st ++ [.lst [.str L1, .str L2]]) := fun en h3 => by
    have nl : ("\n" : Str).length = 1 := by decide +kernel
    have c : (([L1, L2] : List Str).map (·.length)).sum + ([L1, L2] : List Str).length * ("\n" : Str).length ≤ 16777216 := by rw [nl]; simp; omega
    unfold dJoin
    simp only [dC_eq, Rt.bind_ok, strW_fz, dVar_eq, h3, anyW_loc, seqW_loc (get_last (s := st) (o := .lst [.str L1, .str L2]) rfl), Option.bind_some]
    rw [show strL [PyData.str L1, .str L2] = some [L1, L2] from rfl]
    dsimp only
    rw [if_pos c]
  have ls : ∀ l, (st ++ [Ob.lst l]).take st.length = st := fun l => by rw [List.take_left']; rfl
  have sq : ∀ l, seqW (st ++ [Ob.lst l]) (.loc st.length) = some l := fun l => seqW_loc (get_last rfl)
  have nd : noneW (.fz (deskD none)) = true := rfl
  generalize hC1 : c_text_of_1 = C1 at *
  generalize hC2 : c_text_of_2 = C2 at *
  generalize sideD [(x, 3)] = sd at *
  generalize sideD [(y, 1)] = gd at *
  generalize Txt.join "\n" [L1, L2] = pg at *
  unfold F_text_of fnD d_text_of
  rw [hC1, hC2]
  simp [c1, c2, ext, nd, sq, jn, ls]
end K08
/-! NE08: Fair.read of a page. -/
namespace K08
open PySem PySem.Spec PyProof.Rows L2 MG QD MU
theorem init_x {hs gs : Side} {t : Option Int} {x : Str} (f : Fairish hs gs t) (tx : ∀ s, F_text_of [.fz (sideD hs), .fz (sideD gs), .fz (deskD t)] s = .ok (.fz (.str x)) s) {st : Sto} : F_Fairu_initu [.loc st.length, .fz (sideD hs), .fz (sideD gs), .fz (deskD t)] (st ++ [.ins 0 []]) = .ok (.fz .none) (st ++ [.ins 0 [("_hosts", sideD hs), ("_guests", sideD gs), ("_tables", deskD t), ("_names", .tuple (strsD ((hs ++ gs).map (·.1)))), ("_text", .str x)]]) := by
  obtain ⟨nl, hnl⟩ : ∃ nl, nl = strsD ((hs ++ gs).map (·.1)) := ⟨_, rfl⟩
  rw [← hnl]
  have ex := tx (st ++ [.ins 0 [("_hosts", sideD hs), ("_guests", sideD gs), ("_tables", deskD t), ("_names", .tuple nl)]])
  have h4 := f.h4
  have g4 := f.g4
  have nd2 := f.nd
  rw [List.map_append] at nd2
  have e1 := fun s => fault (taken := []) (s := hs) f.h1 f.h4 (by decide) (List.nodup_append.mp nd2).1 (fun z hz => f.nm z (List.mem_append_left _ hz)) (fun z hz => f.bd z (List.mem_append_left _ hz)) (st := s)
  have e2 := fun s => fault (taken := hs.map (·.1)) (s := gs) f.g1 f.g4 (by rw [List.length_map]; omega) nd2 (fun z hz => f.nm z (List.mem_append_right _ hz)) (fun z hz => f.bd z (List.mem_append_right _ hz)) (st := s)
  have n1 := fun s => names_of (s := hs) (by omega) (st := s)
  have n2 := fun s => names_of (s := gs) (by omega) (st := s)
  have tb : ∀ en s, en[3]? = some (some (.fz (deskD t))) → bAnd (bT (dOp (fIs true) (dVar 3) (dC .none))) (bNot (bT (dCall 3 F_is_integer [] (aCons (dVar 3) (aCons (dC (.int 1)) (aCons (dC (.int 12)) aNil)))))) en s = .ok false s := fun en s h3 => by
    cases t with
    | none => simp [h3, deskD]
    | some k =>
      have := f.tb k rfl
      simp [h3, deskD, is_integer, this.1, this.2]
  have sq : ∀ fs, (st ++ [Ob.ins 0 fs])[st.length]? = some (.ins 0 fs) := fun fs => get_last rfl
  have ss : ∀ fs gs', (st ++ [Ob.ins 0 fs]).set st.length (.ins 0 gs') = st ++ [.ins 0 gs'] := fun fs gs' => set_last rfl
  have nm : ∀ s : Sto, dOp fCatT (dCall 1 F_names_of [] (aCons (dVar 1) aNil)) (dCall 1 F_names_of [] (aCons (dVar 2) aNil)) [some (.loc st.length), some (.fz (sideD hs)), some (.fz (sideD gs)), some (.fz (deskD t)), some (.fz (.tuple []))] s = .ok (.fz (.tuple nl)) s := fun s => by
    have a3 : (hs.map fun z => PyData.str z.1).length + (gs.map fun z => PyData.str z.1).length ≤ sizeLine := by rw [List.length_map, List.length_map]; exact sz_le (by omega)
    simp only [List.length_map] at a3
    simp [n1, n2, fCatT, a3, hnl]
    rfl
  have k1 := fld_step (f := "_hosts") (d := sideD hs) (fs' := [("_hosts", sideD hs)]) (fs := []) (b := dVar 1) (en := [some (.loc st.length), some (.fz (sideD hs)), some (.fz (sideD gs)), some (.fz (deskD t)), some (.fz (.tuple []))]) (st := st) rfl rfl rfl rfl (by decide)
  have k2 := fld_step (f := "_guests") (d := sideD gs) (fs' := [("_hosts", sideD hs), ("_guests", sideD gs)]) (fs := [("_hosts", sideD hs)]) (b := dVar 2) (en := [some (.loc st.length), some (.fz (sideD hs)), some (.fz (sideD gs)), some (.fz (deskD t)), some (.fz (.tuple []))]) (st := st) rfl rfl rfl ((putD_new (by intro p hp; simp at hp; subst hp; (dsimp only; decide +kernel))).trans rfl) (by show 1 < 1000; decide)
  have k3 := fld_step (f := "_tables") (d := deskD t) (fs' := [("_hosts", sideD hs), ("_guests", sideD gs), ("_tables", deskD t)]) (fs := [("_hosts", sideD hs), ("_guests", sideD gs)]) (b := dVar 3) (en := [some (.loc st.length), some (.fz (sideD hs)), some (.fz (sideD gs)), some (.fz (deskD t)), some (.fz (.tuple []))]) (st := st) rfl rfl rfl ((putD_new (by intro p hp; simp at hp; rcases hp with rfl | rfl <;> (dsimp only; decide +kernel))).trans rfl) (by show 2 < 1000; decide)
  have k4 := fld_step (f := "_names") (d := .tuple nl) (fs' := [("_hosts", sideD hs), ("_guests", sideD gs), ("_tables", deskD t), ("_names", .tuple nl)]) (fs := [("_hosts", sideD hs), ("_guests", sideD gs), ("_tables", deskD t)]) (en := [some (.loc st.length), some (.fz (sideD hs)), some (.fz (sideD gs)), some (.fz (deskD t)), some (.fz (.tuple []))]) (st := st) rfl (nm _) rfl ((putD_new (by intro p hp; simp at hp; rcases hp with rfl | rfl | rfl <;> (dsimp only; decide +kernel))).trans rfl) (by show 3 < 1000; decide)
  have k5 := fld_step (f := "_text") (d := .str x) (fs' := [("_hosts", sideD hs), ("_guests", sideD gs), ("_tables", deskD t), ("_names", .tuple nl), ("_text", .str x)]) (fs := [("_hosts", sideD hs), ("_guests", sideD gs), ("_tables", deskD t), ("_names", .tuple nl)]) (b := dCall 3 F_text_of [] (aCons (dVar 1) (aCons (dVar 2) (aCons (dVar 3) aNil)))) (w := .fz (.str x)) (en := [some (.loc st.length), some (.fz (sideD hs)), some (.fz (sideD gs)), some (.fz (deskD t)), some (.fz (.tuple []))]) (st := st) rfl (by simp [ex]) rfl ((putD_new (by intro p hp; simp at hp; rcases hp with rfl | rfl | rfl | rfl <;> (dsimp only; decide +kernel))).trans rfl) (by show 4 < 1000; decide)
  unfold F_Fairu_initu fnD d_Fairu_initu
  have e1' := fun s => e1 s
  simp only [strsD, List.map_nil] at e1'
  simp only [strsD, List.map_map] at e2
  have tr : ∀ s : Sto, truW s (.fz (.tuple [])) = some false := fun s => rfl
  have n1' : ∀ s, F_names_of [.fz (sideD hs)] s = .ok (.fz (.tuple (strsD (hs.map (·.1))))) s := fun s => by rw [n1]; simp
  simp [-bAnd_eq, e1', e2, n1', tr, tb, k1, k2, k3, k4, k5]
  rw [List.take_of_length_le (by simp)]
/-- the program's Fair(…) -/
theorem made_x {hs gs : Side} {t : Option Int} {x : Str} (f : Fairish hs gs t) (tx : ∀ s, F_text_of [.fz (sideD hs), .fz (sideD gs), .fz (deskD t)] s = .ok (.fz (.str x)) s) {en : En} {st st1 : Sto} {a : DnA} (ha : a en st = .ok [.fz (sideD hs), .fz (sideD gs), .fz (deskD t)] st1) :
    dMake 4 0 (frzOb 0 ns_Fair) F_Fairu_initu [] a en st = .ok (.fz (fairD hs gs t x)) st1 := by
  have ex := init_x f tx (st := st1)
  unfold fairD
  generalize strsD ((hs ++ gs).map (·.1)) = nl at ex ⊢
  obtain ⟨fs, hF⟩ : ∃ fs : List (Str × D), fs = [(("_hosts" : Str), sideD hs), (("_guests" : Str), sideD gs), (("_tables" : Str), deskD t), (("_names" : Str), PyData.tuple nl), (("_text" : Str), PyData.str x)] := ⟨_, rfl⟩
  rw [← hF] at ex
  have fo : frzOb 0 ns_Fair st1.length (st1 ++ [.ins 0 fs]) = some (.fz (obD 0 [sideD hs, sideD gs, deskD t, .tuple nl, .str x]), st1) := by
    have h1 : fs.map (·.1) = ns_Fair := by rw [hF]; rfl
    have h2 : fs.map (·.2) = [sideD hs, sideD gs, deskD t, .tuple nl, .str x] := by rw [hF]; rfl
    unfold frzOb
    simp only [get_last (s := st1) (o := .ins 0 fs) rfl, h1, h2, and_self, if_true]
    rw [List.take_left']
    rfl
  unfold dMake
  rw [ha]
  simp [ex, fo]
theorem nm_of {x : Str} (h : nameB x = true) : Nm x := h
theorem nm_free {x : Str} (h : Nm x) : Fre x := by
  unfold Nm at h
  have b : ∀ z, signB z = true → z ≠ 32 ∧ z ≠ 10 := fun z hz => by
    unfold signB lowB at hz
    simp only [Bool.or_eq_true, decide_eq_true_eq] at hz
    omega
  unfold Fre
  show 32 ∉ x.cps.toList ∧ 10 ∉ x.cps.toList
  cases e : x.cps.toList with
  | nil => exact ⟨(fun z => nomatch z), (fun z => nomatch z)⟩
  | cons a r =>
    rw [e] at h
    have h' : (lowB a && decide (r.length ≤ 7) && r.all signB) = true := h
    simp only [Bool.and_eq_true, decide_eq_true_eq] at h'
    obtain ⟨⟨h1, _⟩, h3⟩ := h'
    have ha := b a (by unfold signB; rw [h1]; rfl)
    constructor <;> intro m <;> rcases List.mem_cons.mp m with m | m
    · exact ha.1 m.symm
    · exact (b _ (List.all_eq_true.mp h3 _ m)).1 rfl
    · exact ha.2 m.symm
    · exact (b _ (List.all_eq_true.mp h3 _ m)).2 rfl
theorem fair_1 {x y : Str} (hx : Nm x) (hy : Nm y) (ne : x ≠ y) : Fairish [(x, 3)] [(y, 1)] none := by
  refine ⟨by simp, by simp, by simp, by simp, by simp [ne], fun z hz => ?_, fun z hz => ?_, fun k hk => by cases hk⟩
  · simp at hz
    rcases hz with rfl | rfl
    · exact hx
    · exact hy
  · simp at hz
    rcases hz with rfl | rfl
    · exact ⟨show (1 : Int) ≤ 3 by decide, show (3 : Int) ≤ 4 by decide⟩
    · exact ⟨show (1 : Int) ≤ 1 by decide, show (1 : Int) ≤ 4 by decide⟩
theorem isC0 : isC 0 (.fz (clsD 0)) = true := rfl
/-- a page of names -/
theorem read_good {x y : Str} (hx : Nm x) (hy : Nm y) (ne : x ≠ y) {st : Sto} : F_Fair_read [.fz (clsD 0), .fz (.str (pageS x y))] st = .ok (.fz (fairD [(x, 3)] [(y, 1)] none (pageS x y))) st := by
  have f := fair_1 hx hy ne
  have fx := nm_free hx
  have fy := nm_free hy
  obtain ⟨_, x8⟩ := hx.len
  obtain ⟨_, y8⟩ := hy.len
  have l3 : (" 3" : Str).length = 2 := by decide +kernel
  have l5 : ("host " : Str).length = 5 := by decide +kernel
  have l6 : ("guest " : Str).length = 6 := by decide +kernel
  have l1 : (" 1" : Str).length = 2 := by decide +kernel
  have l9 : (" 3\nguest " : Str).length = 9 := by decide +kernel
  have pl : (pageS x y).length ≤ 200 := by unfold pageS; rw [app_len, app_len, app_len, app_len, l5, l9, l1]; omega
  have po := fun s => parts_of pl (split_2 fx.2 fy) (by simp) (fun l hl => by
    rcases List.mem_cons.mp hl with rfl | hl
    · rw [app_len, app_len, l5, l3, sapp, line_host]
      dsimp only
      rw [app_len, l3]
      omega
    · rw [List.mem_singleton] at hl
      subst hl
      unfold gline
      rw [app_len, app_len, l6, l1, sapp, line_guest]
      dsimp only
      rw [app_len, l1]
      omega) (st := s)
  rw [parts_good fx fy] at po
  dsimp only at po
  have po' : ∀ s, F_parts_of [.fz (.str (pageS x y))] s = .ok (.fz (.tuple [sideD [(x, 3)], sideD [(y, 1)], deskD none])) s := po
  have e1 := fun s => fault (taken := []) (s := [(x, (3 : Int))]) (by simp) (by simp) (by decide) (by simp) (fun z hz => f.nm z (List.mem_append_left _ hz)) (fun z hz => f.bd z (List.mem_append_left _ hz)) (st := s)
  have e2 := fun s => fault (taken := [x]) (s := [(y, (1 : Int))]) (by simp) (by simp) (by simp) (by simp [ne]) (fun z hz => f.nm z (List.mem_append_right _ hz)) (fun z hz => f.bd z (List.mem_append_right _ hz)) (st := s)
  have n1 := fun s => names_of (s := [(x, (3 : Int))]) (by simp) (st := s)
  have tx := fun s => text_1 hx hy (st := s)
  have is : ∀ s, fIsi (.fz (.str (pageS x y))) (.fz (tyD "str")) s = .ok (.fz (.bool true)) s := fun s => isi_str
  have mk := fun en s a (h : a en s = .ok [.fz (sideD [(x, 3)]), .fz (sideD [(y, 1)]), .fz (deskD none)] s) => made_x f tx (en := en) (st := s) (st1 := s) (a := a) h
  have mv : ∀ en s a, en[0]? = some (some (.fz (clsD 0))) → a en s = .ok [.fz (sideD [(x, 3)]), .fz (sideD [(y, 1)]), .fz (deskD none)] s → dMakeV 0 4 0 (frzOb 0 ns_Fair) F_Fairu_initu [] a en s = .ok (.fz (fairD [(x, 3)] [(y, 1)] none (pageS x y))) s := fun en s a h0 h => by
    unfold dMakeV
    simp only [h0, isC0, if_true]
    exact mk en s a h
  have ne' : ∀ (z : Str) s, fEq true (.fz (.str z)) (.fz (.str z)) s = .ok (.fz (.bool false)) s := fun z s => by simp [fEq, scaD, eqS]
  have tr : ∀ s : Sto, truW s (.fz (.tuple [])) = some false := fun s => rfl
  have ts : tupW (.fz (.tuple [sideD [(x, 3)], sideD [(y, 1)], deskD none])) = some [sideD [(x, 3)], sideD [(y, 1)], deskD none] := rfl
  simp only [strsD, List.map_nil] at e1
  simp only [strsD, List.map_cons, List.map_nil] at e2
  simp only [List.map_cons, List.map_nil] at n1
  generalize fairD [(x, 3)] [(y, 1)] none (pageS x y) = fd at *
  generalize pageS x y = pg at *
  generalize sideD [(x, 3)] = hd at *
  generalize sideD [(y, 1)] = gd at *
  generalize deskD none = dd at *
  apply wR.eq
  unfold F_Fair_read d_Fair_read
  simp [is, po', e1, e2, n1, tx, mv, ne', tr, sz_le]
end K08
/-! NF08: a page that is none. -/
namespace K08
open PySem PySem.Spec PyProof.Rows L2 MG QD MU
theorem num_ok : ∀ (m : Nat) (l : List Nat) (acc : List (Key × D)), (∀ p ∈ acc, flt p.2 = true) → ∀ p ∈ l.foldl (fun a (i : Nat) => putG a (.inr (num ((i + 1 : Nat) : Int))) (.int ((i + 1 : Nat) : Int))) acc, flt p.2 = true
  | _, [], _, h => h
  | m, i :: l, acc, h => by
    rw [List.foldl_cons]
    refine num_ok m l _ fun p hp => ?_
    unfold putG at hp
    split at hp
    · obtain ⟨q, hq, rfl⟩ := List.mem_map.mp hp
      split
      · rfl
      · exact h q hq
    · rcases List.mem_append.mp hp with hp | hp
      · exact h p hp
      · rw [List.mem_singleton] at hp
        subst hp
        rfl
theorem numV_flt {m : Nat} {d : Str} : flt (numV m d) = true := by
  have h := num_ok m (List.range m) [] (fun _ h => nomatch h)
  unfold numV valG
  cases e : (kvN m).find? fun kv => decide (kv.1 = Sum.inr d) with
  | none => rfl
  | some kv =>
    exact h kv (List.mem_of_find?_eq_some e)
theorem step_ok {p : PSt} {l : Str} (hl : (Txt.partition (Txt.partition l " ").2.2 " ").1.length ≤ 100) (h : ∀ d ∈ p.1, itemOk d = true) : ∀ d ∈ (stepP p l).1, itemOk d = true := fun d hd => by
  unfold stepP at hd
  dsimp only at hd
  split at hd
  · rcases List.mem_append.mp hd with hd | hd
    · exact h d hd
    · rw [List.mem_singleton] at hd
      subst hd
      show (flt (.str _) && flt (numV 4 _) && strOk (.str _)) = true
      rw [numV_flt]
      simp only [Bool.and_true, Bool.and_eq_true]
      exact ⟨rfl, decide_eq_true hl⟩
  · exact h d hd
theorem fold_ok : ∀ (ls : List Str) (p : PSt), (∀ l ∈ ls, (Txt.partition (Txt.partition l " ").2.2 " ").1.length ≤ 100) → (∀ d ∈ p.1, itemOk d = true) → ∀ d ∈ (ls.foldl stepP p).1, itemOk d = true
  | [], p, _, h => h
  | l :: ls, p, hl, h => fold_ok ls _ (fun k hk => hl k (List.mem_cons_of_mem _ hk)) (step_ok (hl l (List.mem_cons_self ..)) h)
/-- a page whose first host is none -/
theorem read_bad {p : Str} {ls : List Str} (hp : p.length ≤ 200) (hs : Txt.split p "\n" = ls) (hn : ls.length ≤ 50) (hl : ∀ l ∈ ls, l.length ≤ 100 ∧ (Txt.partition l " ").2.2.length ≤ 100 ∧ (Txt.partition (Txt.partition l " ").2.2 " ").1.length ≤ 100)
    {d : D} {r : List D} (h : (parts0 ls).1 = d :: r) (hd : memB d = false) {st : Sto} : F_Fair_read [.fz (clsD 0), .fz (.str p)] st = .ex (eS 0) (some ("given", .str p)) st := by
  have po := fun s => parts_of hp hs hn (fun l h => ⟨(hl l h).1, (hl l h).2.1⟩) (st := s)
  have ok := fold_ok ls ([], [], .none) (fun l h => (hl l h).2.2) (fun _ h => nomatch h)
  have ln := (fold_len ls ([], [], .none)).1
  have fa : ∀ s, F_fault [.fz (.tuple (parts0 ls).1), .fz (.tuple [])] s = .ok (.fz (.tuple [.int 0])) s := fun s => by
    have e := fault_tup (ds := (parts0 ls).1) (taken := []) ok (by simp only [List.length_nil] at ln ⊢; unfold parts0; omega) (st := s)
    rw [show sideBad [] (parts0 ls).1 = .tuple [.int 0] by
      rw [h]
      unfold sideBad firstBad
      rw [if_neg (by simp), if_pos (.inr (.inl hd))]
      rfl] at e
    exact e
  have is : ∀ s, fIsi (.fz (.str p)) (.fz (tyD "str")) s = .ok (.fz (.bool true)) s := fun s => isi_str
  have tr : ∀ s : Sto, truW s (.fz (.tuple [.int 0])) = some true := fun s => rfl
  have tk : st.take st.length = st := List.take_of_length_le (Nat.le_refl _)
  generalize (parts0 ls).1 = H at *
  generalize (parts0 ls).2.1 = G at *
  generalize (parts0 ls).2.2 = t at *
  unfold F_Fair_read fnD d_Fair_read
  simp [is, po, fa, tr, sz_le, sRs, exitD, tk]
end K08
/-! QR3: the signs of what is shown. -/
namespace MU
open PySem PySem.Spec PyProof.Rows L2 MG QD
/-- all its signs are signs of Unicode -/
def Uni (x : Str) : Prop := ∀ c ∈ x.cps.toList, c < 0x110000
theorem Uni.ok {x : Str} (h : Uni x) : PyData.strOk x = true := by
  show x.cps.all (· < 0x110000) = true
  rw [← Array.all_toList]
  exact List.all_eq_true.mpr fun c hc => decide_eq_true (h c hc)
theorem Uni.of {x : Str} (h : PyData.strOk x = true) : Uni x := fun c hc => by
  have h' : x.cps.all (· < 0x110000) = true := h
  rw [← Array.all_toList] at h'
  simpa using List.all_eq_true.mp h' c hc
theorem Uni.app {x y : Str} (h : Uni x) (g : Uni y) : Uni (x ++ y) := fun c hc => by
  rw [app_cps] at hc
  rcases List.mem_append.mp hc with h' | h'
  · exact h c h'
  · exact g c h'
theorem char_lt (c : Char) : c.toNat < 0x110000 := by
  rcases c.valid with h | h
  · show c.val.toNat < _; omega
  · show c.val.toNat < _; omega
theorem ofString_toList (s : String) : (Str.ofString s).cps.toList = s.toList.map Char.toNat := by
  rw [congrFun PySem.Str.ofString_eq_byList s]
  rfl
theorem Uni.str (s : String) : Uni (Str.ofString s) := fun c hc => by
  rw [ofString_toList] at hc
  obtain ⟨a, _, rfl⟩ := List.mem_map.mp hc
  exact char_lt a
theorem rchar_lt {q c : Nat} (hc : c < 0x110000) : ∀ y ∈ Builtin.Str.reprChar q c, y < 0x110000 := by
  have hx : ∀ w y, y ∈ (List.replicate (w - ((Nat.toDigits 16 c).map Char.toNat).length) 48 ++ (Nat.toDigits 16 c).map Char.toNat) → y < 0x110000 := fun w y hy => by
    rcases List.mem_append.mp hy with h | h
    · rw [(List.mem_replicate.mp h).2]; decide
    · obtain ⟨a, _, rfl⟩ := List.mem_map.mp h
      exact char_lt a
  intro y hy
  unfold Builtin.Str.reprChar at hy
  dsimp only at hy
  repeat' split at hy
  all_goals first
    | (simp only [List.mem_cons, List.not_mem_nil, or_false] at hy; omega)
    | (rcases List.mem_append.mp hy with h | h
       · simp only [List.mem_cons, List.not_mem_nil, or_false] at h; omega
       · exact hx _ _ h)
theorem fold_lt {q : Nat} : ∀ (l : List Nat) (acc : Array Nat), (∀ c ∈ l, c < 0x110000) → (∀ c ∈ acc.toList, c < 0x110000) → ∀ c ∈ (l.foldl (fun out c => out ++ (Builtin.Str.reprChar q c).toArray) acc).toList, c < 0x110000
  | [], acc, _, ha => ha
  | c :: l, acc, h, ha => by
    rw [List.foldl_cons]
    refine fold_lt l _ (fun z hz => h z (List.mem_cons_of_mem _ hz)) fun z hz => ?_
    rw [Array.toList_append] at hz
    rcases List.mem_append.mp hz with hz | hz
    · exact ha z hz
    · exact rchar_lt (h c (List.mem_cons_self ..)) z hz
theorem Uni.rep {x : Str} (h : Uni x) : Uni (reprText x) := by
  have hq : reprQuote x < 0x110000 := by
    unfold reprQuote
    split <;> decide
  intro c hc
  unfold reprText at hc
  dsimp only at hc
  rw [Array.toList_push, ← Array.foldl_toList] at hc
  rcases List.mem_append.mp hc with hc | hc
  · refine fold_lt _ _ h (fun z hz => ?_) c hc
    rw [List.mem_singleton.mp (show z ∈ [reprQuote x] from hz)]
    exact hq
  · rw [List.mem_singleton.mp hc]; exact hq
theorem Uni.textFrom : ∀ (ts : List Str) (k : Nat) (acc : Str), Uni acc → (∀ t ∈ ts, Uni t) → Uni (PySem.textFrom k acc ts)
  | [], _, acc, ha, _ => ha
  | t :: ts, k, acc, ha, h => by
    refine Uni.textFrom ts (k + 1) _ ((ha.app ?_).app (h t (List.mem_cons_self ..))) fun z hz => h z (List.mem_cons_of_mem _ hz)
    exact Uni.str _
theorem Uni.join {sep : Str} (hs : Uni sep) : ∀ ys : List Str, (∀ y ∈ ys, Uni y) → Uni (Str.join sep ys)
  | [], _ => fun c hc => by cases hc
  | [x], h => h x (List.mem_singleton.mpr rfl)
  | x :: y :: r, h => by
    show Uni (x ++ sep ++ Str.join sep (y :: r))
    exact ((h x (List.mem_cons_self ..)).app hs).app (Uni.join hs (y :: r) fun z hz => h z (List.mem_cons_of_mem _ hz))
mutual
/-- all strings in it are of Unicode; no dict but empty ones -/
def uniD : PyData → Bool
  | .none | .bool _ | .int _ => true
  | .str x => PyData.strOk x
  | .list xs | .tuple xs => uniA xs
  | .dict kvs => kvs.isEmpty
def uniA : List PyData → Bool
  | [] => true
  | x :: xs => uniD x && uniA xs
end
mutual
theorem uni_shown : ∀ d : PyData, uniD d = true → Uni d.shown
  | .none, _ => Uni.str _
  | .bool b, _ => by
    unfold PyData.shown
    split <;> exact Uni.str _
  | .int i, _ => Uni.str _
  | .str x, h => Uni.rep (Uni.of h)
  | .list xs, h => by
    simp only [PyData.shown]
    exact (Uni.textFrom _ _ _ (Uni.str _) (uni_all xs h)).app (Uni.str _)
  | .tuple xs, h => by
    simp only [PyData.shown]
    unfold tupleText
    exact ((Uni.str _).app (Uni.join (Uni.str _) _ (uni_all xs h))).app (Uni.str _)
  | .dict [], _ => by
    simp only [PyData.shown, PyData.shownKv]
    unfold dictText
    exact ((Uni.str _).app (Uni.join (Uni.str _) [] (fun _ h => by cases h))).app (Uni.str _)
  | .dict (_ :: _), h => by cases h
theorem uni_all : ∀ ds : List PyData, uniA ds = true → ∀ t ∈ PyData.shownAll ds, Uni t
  | [], _, _, ht => by cases ht
  | d :: ds, h, t, ht => by
    have h' : (uniD d && uniA ds) = true := h
    rw [Bool.and_eq_true] at h'
    rcases List.mem_cons.mp ht with rfl | ht
    · exact uni_shown d h'.1
    · exact uni_all ds h'.2 t ht
end
end MU
/-! MN04: values of other kinds, drawn. -/
namespace K08
open PySem PySem.Spec PyProof.Rows L2 MG QD MU
theorem pour0 {st : Sto} {n N : Nat} {m : Int} (j : JAt st n N) (hN : N < 1000000) (m1 : 1 ≤ m) (m2 : m < 10000000000000000) :
    wR noX (F_l_pour [.loc n, .fz (.int m)] st) fun w s => (∃ a : Int, w = .fz (.int a) ∧ 0 ≤ a ∧ a < m) ∧ JR n st s (N + 1) := by
  obtain ⟨i, st', e, h0, h1, j'⟩ := pour j hN m1 m2
  exact wR.is e ⟨⟨i, rfl, h0, h1⟩, j'⟩
/-- what it holds, if it is a tuple -/
def kidsB : D → Bool
  | .tuple l => decide (l.length ≤ 6) && l.all fun x => itemOk x && lawOk x
  | _ => true
def itemB (d : D) : Bool := itemOk d && lawOk d && d.showable && QD.plainE d && d.leavesShort 40 && decide (d.depth ≤ 3) && decide (d.bulk ≤ 200) && uniD d && kidsB d
structure Item (d : D) : Prop where
  ok : itemOk d = true
  law : lawOk d = true
  se : Se d 3 200
  uni : uniD d = true
  kids : kidsB d = true
theorem itemB_item {d : D} (h : itemB d = true) : Item d := by
  unfold itemB at h
  simp only [Bool.and_eq_true, decide_eq_true_eq] at h
  obtain ⟨⟨⟨⟨⟨⟨⟨⟨h1, h2⟩, h3⟩, h4⟩, h5⟩, h6⟩, h7⟩, h8⟩, h9⟩ := h
  exact ⟨h1, h2, ⟨h3, h4, h5, h6, h7⟩, h8, h9⟩
theorem pick_item {l : List D} (hl : l.all itemB = true) {i : Int} (h0 : 0 ≤ i) (h1 : i < l.length) : ∃ d, atI l i = some d ∧ Item d := by
  have hi : i.toNat < l.length := by omega
  refine ⟨l[i.toNat], ?_, itemB_item (List.all_eq_true.mp hl _ (List.getElem_mem hi))⟩
  rw [atI_i h0, List.getElem?_eq_getElem hi]
def ODDS : List D := [.none, .bool true, .bool false, .str "", .str "a", .str "A", .int 0, .int (-1), .int 5, .int 1000000000000000000000000000001, .tuple [], .list [], .dict [], .tuple [.int 1], .tuple [.str "a"], .tuple [.str "a", .int 1, .int 1], .list [.str "a", .int 1], .list [.int 1]]
theorem odds_ok : ODDS.all itemB = true := by decide +kernel
end K08
/-! MO04: an odd value. -/
namespace K08
open PySem PySem.Spec PyProof.Rows L2 MG QD MU
theorem odd {st : Sto} {n N : Nat} (j : JAt st n N) (hN : N < 1000000) : wR noX (F_l_odd [.loc n] st) fun w s => (∃ d, w = .fz d ∧ Item d) ∧ JR n st s (N + 1) := by
  have pw : ∀ s, fPow (.fz (.int 10)) (.fz (.int 30)) s = .ok (.fz (.int 1000000000000000000000000000000)) s := fun s => rfl
  unfold F_l_odd d_l_odd
  simp [sz_le, pw]
  refine (pour0 (m := 18) j hN (by decide) (by decide)).use ?_
  rintro _ s ⟨⟨a, rfl, a0, a1⟩, j1⟩
  obtain ⟨d, e, it⟩ := pick_item odds_ok a0 (show a < 18 from a1)
  have e' : fIxL (.fz (.list ODDS)) (.fz (.int a)) s = .ok (.fz d) s := by
    rw [fIxL_eq, seqR_fz]
    simp [e]
  have ls := jr_len j1
  have tk : List.take (List.length st) s = s := by rw [← ls, List.take_length]
  unfold ODDS at e'
  simp [e', tk]
  exact ⟨it, j1⟩
end K08
/-! NG08: a page of any word, read. -/
namespace K08
open PySem PySem.Spec PyProof.Rows L2 MG QD MU
/-- what a drawn word may be -/
structure Wd (x : Str) : Prop where
  len : x.length ≤ 24
  co : ∀ c ∈ TL.tl x, c < 128
  form : Fre x ∨ (∃ a b, Fre a ∧ Fre b ∧ x = a ++ " " ++ b) ∨ (∃ a b, Fre a ∧ Fre b ∧ x = a ++ "\n" ++ b)
theorem lens : (" 3" : Str).length = 2 ∧ ("host " : Str).length = 5 ∧ ("guest " : Str).length = 6 ∧ (" 1" : Str).length = 2 ∧ (" 3\nguest " : Str).length = 9 ∧ (" " : Str).length = 1 ∧ ("\n" : Str).length = 1 := by decide +kernel
theorem gline_part {y : Str} (hy : Fre y) (y8 : y.length ≤ 8) : (gline y).length ≤ 100 ∧ (Txt.partition (gline y) " ").2.2.length ≤ 100 ∧ (Txt.partition (Txt.partition (gline y) " ").2.2 " ").1.length ≤ 100 := by
  obtain ⟨l3, l5, l6, l1, l9, ls, ln⟩ := lens
  unfold gline
  rw [show Txt.partition ("guest " ++ y ++ " 1") " " = (("guest" : Str), (" " : Str), y ++ " " ++ "1") by rw [sapp, line_guest]; rw [sapp]; rfl]
  dsimp only
  rw [pair_of hy.1]
  dsimp only
  rw [app_len, app_len, app_len, app_len, l6, l1, ls, show ("1" : Str).length = 1 by decide +kernel]
  omega
theorem host_part {r : Str} (hr : r.length ≤ 40) {u : Str} {v w : Str} (h : Txt.partition r " " = (u, v, w)) (hu : u.length ≤ 100) : ("host " ++ r).length ≤ 100 ∧ (Txt.partition ("host " ++ r) " ").2.2.length ≤ 100 ∧ (Txt.partition (Txt.partition ("host " ++ r) " ").2.2 " ").1.length ≤ 100 := by
  obtain ⟨l3, l5, l6, l1, l9, ls, ln⟩ := lens
  rw [line_host]
  dsimp only
  rw [h]
  dsimp only
  rw [app_len, l5]
  omega
theorem page_len {x y : Str} (hx : x.length ≤ 24) (hy : y.length ≤ 8) : (pageS x y).length ≤ 200 := by
  obtain ⟨l3, l5, l6, l1, l9, ls, ln⟩ := lens
  unfold pageS
  rw [app_len, app_len, app_len, app_len, l5, l9, l1]
  omega
theorem read_any {x y : Str} (W : Wd x) (hy : Nm y) (hb : nameB x = false) {st : Sto} : F_Fair_read [.fz (clsD 0), .fz (.str (pageS x y))] st = .ex (eS 0) (some ("given", .str (pageS x y))) st := by
  obtain ⟨l3, l5, l6, l1, l9, ls, ln⟩ := lens
  have fy := nm_free hy
  obtain ⟨_, y8⟩ := hy.len
  have pl := page_len W.len y8
  have xl := W.len
  have gp := gline_part fy y8
  rcases W.form with fx | ⟨a, b, fa, fb, rfl⟩ | ⟨a, b, fa, fb, rfl⟩
  · refine read_bad pl (split_2 fx.2 fy) (by simp) (fun l hl => ?_) (d := .tuple [.str x, .int 3]) (r := []) (by rw [parts_good fx fy]) (by show (nameB x && _) = false; rw [hb]; rfl)
    rcases List.mem_cons.mp hl with rfl | hl
    · rw [sapp]
      exact host_part (by rw [app_len]; omega) (show Txt.partition (x ++ " 3") " " = (x, (" " : Str), ("3" : Str)) by rw [show (x ++ " 3" : Str) = x ++ " " ++ "3" by rw [sapp]; rfl, pair_of fx.1]) (by omega)
    · rw [List.mem_singleton] at hl; subst hl; exact gp
  · have la : a.length ≤ 24 := by rw [app_len, app_len] at xl; omega
    have f10 : 10 ∉ TL.tl (a ++ " " ++ b) := by
      rw [mem_app, mem_app]
      rintro ((h | h) | h)
      · exact fa.2 h
      · exact absurd h (by decide +kernel)
      · exact fb.2 h
    obtain ⟨r, hr⟩ := parts_blank (b := b) (y := y) fa
    refine read_bad pl (split_2 f10 fy) (by simp) (fun l hl => ?_) hr (by show (nameB a && false) = false; rw [Bool.and_false])
    rcases List.mem_cons.mp hl with rfl | hl
    · rw [sapp]
      exact host_part (by rw [app_len]; omega) (show Txt.partition (a ++ " " ++ b ++ " 3") " " = (a, (" " : Str), b ++ " 3") by rw [show (a ++ " " ++ b ++ " 3" : Str) = a ++ " " ++ (b ++ " 3") by simp only [sapp], pair_of fa.1]) (by omega)
    · rw [List.mem_singleton] at hl; subst hl; exact gp
  · have la : a.length ≤ 24 := by rw [app_len, app_len] at xl; omega
    have lb : b.length ≤ 24 := by rw [app_len, app_len] at xl; omega
    obtain ⟨r, hr⟩ := parts_end (b := b) (y := y) fa
    refine read_bad pl (split_3 fa.2 fb.2 fy) (by simp) (fun l hl => ?_) hr (by show (nameB a && false) = false; rw [Bool.and_false])
    rcases List.mem_cons.mp hl with rfl | hl
    · exact host_part (by omega) (alone fa.1) (by omega)
    · rcases List.mem_cons.mp hl with rfl | hl
      · have e : Txt.partition (b ++ " 3") " " = (b, (" " : Str), ("3" : Str)) := by rw [show (b ++ " 3" : Str) = b ++ " " ++ "3" by rw [sapp]; rfl, pair_of fb.1]
        have e2 : Txt.partition "3" " " = (("3" : Str), Str.empty, Str.empty) := alone (by decide +kernel)
        rw [e]
        dsimp only
        rw [e2]
        dsimp only
        rw [app_len, l3, show ("3" : Str).length = 1 by decide +kernel]
        omega
      · rw [List.mem_singleton] at hl; subst hl; exact gp
end K08
/-! NH08: a word drawn. -/
namespace K08
open PySem PySem.Spec PyProof.Rows L2 MG QD MU
def Aln (x : Str) : Prop := ∀ c ∈ TL.tl x, signB c = true
theorem aln_free {x : Str} (h : Aln x) : Fre x := by
  have b : ∀ z, signB z = true → z ≠ 32 ∧ z ≠ 10 := fun z hz => by
    unfold signB lowB at hz
    simp only [Bool.or_eq_true, decide_eq_true_eq] at hz
    omega
  exact ⟨fun m => (b _ (h _ m)).1 rfl, fun m => (b _ (h _ m)).2 rfl⟩
theorem aln_co {x : Str} (h : Aln x) : ∀ c ∈ TL.tl x, c < 128 := fun c hc => by
  have hz := h c hc
  unfold signB lowB at hz
  simp only [Bool.or_eq_true, decide_eq_true_eq] at hz
  omega
theorem cut_sub {z : Str} {lo hi : Option Int} : (∀ c ∈ TL.tl (cutS z lo hi), c ∈ TL.tl z) ∧ (cutS z lo hi).length ≤ z.length := by
  have e : TL.tl (cutS z lo hi) = ((TL.tl z).drop (HT.sIx z.length 0 lo)).take (HT.sIx z.length z.length hi - HT.sIx z.length 0 lo) := rfl
  constructor
  · intro c hc
    rw [e] at hc
    exact List.mem_of_mem_drop (List.mem_of_mem_take hc)
  · rw [TL.len_tl, TL.len_tl, e, List.length_take, List.length_drop]
    omega
theorem aln_cut {z : Str} {lo hi : Option Int} (h : Aln z) : Aln (cutS z lo hi) := fun c hc => h c (cut_sub.1 c hc)
theorem signs7 {i : Int} (h0 : 0 ≤ i) (h : i < 7) {s : Sto} : ∃ c : Str, fIxL (.own [.str "A", .str " ", .str "\n", .str "_", .str "-", .str ".", .str "~"]) (.fz (.int i)) s = .ok (.fz (.str c)) s ∧ c.length = 1 ∧ (∀ k ∈ TL.tl c, k < 128) ∧ (Fre c ∨ c = " " ∨ c = "\n") := by
  have : i = 0 ∨ i = 1 ∨ i = 2 ∨ i = 3 ∨ i = 4 ∨ i = 5 ∨ i = 6 := by omega
  rcases this with rfl | rfl | rfl | rfl | rfl | rfl | rfl
  · exact ⟨"A", rfl, by decide +kernel, by decide +kernel, .inl ⟨by decide +kernel, by decide +kernel⟩⟩
  · exact ⟨" ", rfl, by decide +kernel, by decide +kernel, .inr (.inl rfl)⟩
  · exact ⟨"\n", rfl, by decide +kernel, by decide +kernel, .inr (.inr rfl)⟩
  · exact ⟨"_", rfl, by decide +kernel, by decide +kernel, .inl ⟨by decide +kernel, by decide +kernel⟩⟩
  · exact ⟨"-", rfl, by decide +kernel, by decide +kernel, .inl ⟨by decide +kernel, by decide +kernel⟩⟩
  · exact ⟨".", rfl, by decide +kernel, by decide +kernel, .inl ⟨by decide +kernel, by decide +kernel⟩⟩
  · exact ⟨"~", rfl, by decide +kernel, by decide +kernel, .inl ⟨by decide +kernel, by decide +kernel⟩⟩
theorem fre_app {a b : Str} (ha : Fre a) (hb : Fre b) : Fre (a ++ b) := ⟨fun h => (mem_app.mp h).elim ha.1 hb.1, fun h => (mem_app.mp h).elim ha.2 hb.2⟩
theorem wd_mid {a b c : Str} (ha : Aln a) (hb : Aln b) (la : a.length ≤ 10 ∧ b.length ≤ 10) (lc : c.length = 1) (hc : ∀ k ∈ TL.tl c, k < 128) (h : Fre c ∨ c = " " ∨ c = "\n") : Wd (a ++ c ++ b) := by
  refine ⟨by rw [app_len, app_len, lc]; omega, fun k hk => ?_, ?_⟩
  · rcases mem_app.mp hk with hk | hk
    · rcases mem_app.mp hk with hk | hk
      · exact aln_co ha k hk
      · exact hc k hk
    · exact aln_co hb k hk
  · rcases h with h | rfl | rfl
    · exact .inl (fre_app (fre_app (aln_free ha) h) (aln_free hb))
    · exact .inr (.inl ⟨a, b, aln_free ha, aln_free hb, rfl⟩)
    · exact .inr (.inr ⟨a, b, aln_free ha, aln_free hb, rfl⟩)
theorem len8 {i : Int} (h0 : 0 ≤ i) (h : i < 8) {s : Sto} : ∃ k : Nat, k ≤ 10 ∧ fIxL (.own [.int 1, .int 2, .int 3, .int 7, .int 8, .int 9, .int 10, .int 0]) (.fz (.int i)) s = .ok (.fz (.int (k : Int))) s := by
  have : i = 0 ∨ i = 1 ∨ i = 2 ∨ i = 3 ∨ i = 4 ∨ i = 5 ∨ i = 6 ∨ i = 7 := by omega
  rcases this with rfl | rfl | rfl | rfl | rfl | rfl | rfl | rfl
  · exact ⟨1, by decide, rfl⟩
  · exact ⟨2, by decide, rfl⟩
  · exact ⟨3, by decide, rfl⟩
  · exact ⟨7, by decide, rfl⟩
  · exact ⟨8, by decide, rfl⟩
  · exact ⟨9, by decide, rfl⟩
  · exact ⟨10, by decide, rfl⟩
  · exact ⟨0, by decide, rfl⟩
theorem sign_at {r : Int} (h0 : 0 ≤ r) (h : r < 36) {s : Sto} : ∃ c : Str, fIxS (.fz (.str SIGNS)) (.fz (.int r)) s = .ok (.fz (.str c)) s ∧ c.length = 1 ∧ Aln c := by
  obtain ⟨c, hc, sc, _⟩ := sign_pick h0 h
  refine ⟨⟨#[c]⟩, ?_, rfl, fun k hk => ?_⟩
  · simp [fIxS, hc, signs_le]
  · have : k = c := by simpa [TL.tl] using hk
    rw [this]; exact sc
theorem drawn_step {n N i : Nat} {x : Str} {v : Option QD.W} {st : Sto} (j : JAt st n N) (hN : N + 2 < 1000000) (hx : Aln x) (hl : x.length = i) (i10 : i < 10) :
    wS noX (b_l_drawn_1 [some (.loc n), some (.fz (.str x)), some (.fz (.str SIGNS)), some (.fz (.int (i : Nat)))] st)
      (fun en s => (∃ y, en = [some (.loc n), some (.fz (.str y)), some (.fz (.str SIGNS)), some (.fz (.int (i : Nat)))] ∧ Aln y ∧ y.length = i + 1) ∧ JR n st s (N + 2)) (fun _ _ => False) (fun _ _ => False) (fun _ _ => False) := by
  have fin : ∀ (m : Int) (s : Sto) (M : Nat) (jM : JR n st s M), M ≤ N + 1 → 1 ≤ m → m ≤ 36 → wR noX (F_l_pour [.loc n, .fz (.int m)] s) fun w s' => ∃ c : Str, fIxS (.fz (.str SIGNS)) w s' = .ok (.fz (.str c)) s' ∧ c.length = 1 ∧ Aln c ∧ JR n st s' (N + 2) := fun m s M jM hM m1 m2 => by
    refine (pour0 (m := m) jM.2 (by omega) m1 (by omega)).use ?_
    rintro _ s' ⟨⟨r, rfl, r0, r1⟩, j'⟩
    obtain ⟨c, e, l, a⟩ := sign_at r0 (by omega : r < 36) (s := s')
    exact ⟨c, e, l, a, jr_mono (jr_trans jM j') (by omega)⟩
  have add : ∀ (c : Str) s, c.length = 1 → fAddS (.fz (.str x)) (.fz (.str c)) s = .ok (.fz (.str (x ++ c))) s := fun c s hc => by
    have : x.length + c.length ≤ sizeLine := sz_le (by omega)
    unfold fAddS
    simp [this]
  have out : ∀ (c : Str) s, c.length = 1 → Aln c → JR n st s (N + 2) → (∃ y, [some (W.loc n), some (W.fz (.str (x ++ c))), some (.fz (.str SIGNS)), some (.fz (.int (i : Nat)))] = [some (.loc n), some (.fz (.str y)), some (.fz (.str SIGNS)), some (.fz (.int (i : Nat)))] ∧ Aln y ∧ y.length = i + 1) ∧ JR n st s (N + 2) := fun c s hc ha hj =>
    ⟨⟨_, rfl, fun k hk => (mem_app.mp hk).elim (hx k) (ha k), by rw [app_len, hl, hc]⟩, hj⟩
  have j0 : JR n st st N := jr_refl j
  unfold b_l_drawn_1
  by_cases ci : i = 0
  · subst ci
    simp [fEq, scaD, eqS]
    refine (pour0 (m := 4) j (by omega) (by decide) (by decide)).use ?_
    rintro _ s1 ⟨⟨a, rfl, a0, a1⟩, j1⟩
    by_cases ca : 0 < a
    · simp [ca]
      refine (fin 26 s1 _ j1 (by omega) (by decide) (by decide)).use ?_
      rintro w s2 ⟨c, e, lc, ac, j2⟩
      simp [e, add c _ lc]
      have := out c s2 lc ac j2
      simpa using this
    · simp [ca]
      refine (fin 36 s1 _ j1 (by omega) (by decide) (by decide)).use ?_
      rintro w s2 ⟨c, e, lc, ac, j2⟩
      simp [e, add c _ lc]
      have := out c s2 lc ac j2
      simpa using this
  · have ci' : ¬ (i : Int) = 0 := by omega
    simp [fEq, scaD, eqS, ci]
    refine (fin 36 st _ j0 (by omega) (by decide) (by decide)).use ?_
    rintro w s2 ⟨c, e, lc, ac, j2⟩
    simp [e, add c _ lc]
    have := out c s2 lc ac j2
    simpa using this
section
variable {X : XP} {en : En} {st : Sto}
@[simp ↓] theorem wR_dSl {f : W → Option Int → Option Int → Sto → Rt W} {a : Dn} {lo hi : DnO} {Pw : W → Sto → Prop} : wR X (dSl f a lo hi en st) Pw = wR X (a en st) fun x st1 => wR X (lo en st1) fun l st2 => wR X (hi en st2) fun u st3 => wR X (f x l u st3) Pw := by
  show wR X ((a en st).bind _) Pw = _
  exact wR_b2 fun _ _ => wR_b2 fun _ _ => wR_b2 fun _ _ => rfl
@[simp ↓] theorem wR_oSome {a : Dn} {P : Option Int → Sto → Prop} : wR X (oSome a en st) P = wR X (a en st) fun x st1 => wR X (match intW x with
  | some i => .ok (some i) st1
  | none => .no) P := by
  show wR X ((a en st).bind _) P = _
  exact wR_b2 fun _ _ => rfl
@[simp] theorem oNone_eq : oNone en st = .ok none st := (rfl)
end
theorem drawn {n N : Nat} {st : Sto} (j : JAt st n N) (hN : N + 100 ≤ 1000000) : wR noX (F_l_drawn [.loc n] st) fun w s => (∃ x, w = .fz (.str x) ∧ Wd x) ∧ JR n st s (N + 60) := by
  unfold F_l_drawn d_l_drawn
  simp [setW, sz_le]
  refine (pour0 (m := 8) j (by omega) (by decide) (by decide)).use ?_
  rintro _ s1 ⟨⟨a, rfl, a0, a1⟩, j1⟩
  obtain ⟨k, k10, ek⟩ := len8 a0 a1 (s := s1)
  have hr : r1S [(k : Int)] = some (rngS 0 k) := r1S_k (by omega)
  generalize hB : b_l_drawn_1 = B at *
  simp [ek, hr]
  refine wS_rng (l0 := []) k (fun i en s => (∃ x v, en = [some (.loc n), some (.fz (.str x)), some (.fz (.str SIGNS)), v] ∧ Aln x ∧ x.length = i) ∧ JR n st s (N + 1 + 2 * i)) ⟨⟨⟨#[]⟩, none, rfl, (fun _ h => nomatch h), rfl⟩, j1⟩ ?_ ?_
  · rintro i en s hi ⟨⟨x, v, rfl, ax, lx⟩, js⟩
    simp
    rw [← hB]
    refine (drawn_step (v := none) js.2 (by omega) ax lx (by omega)).use ?_ (fun _ _ h => h.elim) (fun _ _ h => h.elim) (fun _ _ h => h.elim)
    rintro en s' ⟨⟨y, rfl, ay, ly⟩, j'⟩
    exact ⟨⟨y, _, rfl, ay, ly⟩, jr_mono (jr_trans js j') (by omega)⟩
  · rintro en s ⟨⟨x, v, rfl, ax, lx⟩, js⟩
    have l1 := jr_len js
    have tk : ∀ (s' : Sto) (M : Nat), JR n st s' M → s'.take st.length = s' := fun s' M h => by rw [← jr_len h, List.take_length]
    have lS : ∀ s, fLenS (.fz (.str x)) s = .ok (.fz (.int (x.length : Nat))) s := fun s => by
      have : x.length ≤ sizeLine := sz_le (by omega)
      unfold fLenS
      simp [this]
    have wx : Wd x := ⟨by omega, aln_co ax, .inl (aln_free ax)⟩
    have sl : ∀ lo hi s, fSlS (.fz (.str x)) lo hi s = .ok (.fz (.str (cutS x lo hi))) s := fun lo hi s => by
      have : x.length ≤ sizeLine := sz_le (by omega)
      unfold fSlS
      simp [this]
    have add : ∀ (a b : Str) s, a.length + b.length ≤ 100 → fAddS (.fz (.str a)) (.fz (.str b)) s = .ok (.fz (.str (a ++ b))) s := fun a b s h => by
      have : a.length + b.length ≤ sizeLine := sz_le (by omega)
      unfold fAddS
      simp [this]
    simp
    refine (pour0 (m := 3) js.2 (by omega) (by decide) (by decide)).use ?_
    rintro _ s2 ⟨⟨b, rfl, b0, b1⟩, j2⟩
    have j2' := jr_trans js j2
    by_cases cb : b = 0
    · subst cb
      simp [fEq, scaD, eqS, lS]
      refine (pour0 (m := (x.length : Int) + 1) j2'.2 (by omega) (by omega) (by omega)).use ?_
      rintro _ s3 ⟨⟨p, rfl, p0, p1⟩, j3⟩
      have j3' := jr_trans j2' j3
      simp [sl, sz_le]
      refine (pour0 (m := 7) j3'.2 (by omega) (by decide) (by decide)).use ?_
      rintro _ s4 ⟨⟨q, rfl, q0, q1⟩, j4⟩
      have j4' := jr_trans j3' j4
      obtain ⟨c, ec, lc, cc, fc⟩ := signs7 q0 q1 (s := s4)
      have c1 := cut_sub (z := x) (lo := none) (hi := some p)
      have a1 := aln_cut (lo := none) (hi := some p) ax
      have q1 := add (cutS x none (some p)) c s4 (by omega)
      generalize cutS x none (some p) = A at *
      simp [ec, q1]
      refine (pour0 (m := 2) j4'.2 (by omega) (by decide) (by decide)).use ?_
      rintro _ s5 ⟨⟨r, rfl, r0, r1⟩, j5⟩
      have j5' := jr_trans j4' j5
      have c2 := cut_sub (z := x) (lo := some (p + r)) (hi := none)
      have a2 := aln_cut (lo := some (p + r)) (hi := none) ax
      have q2 := add (A ++ c) (cutS x (some (p + r)) none) s5 (by rw [app_len]; omega)
      have wd := wd_mid (a := A) (b := cutS x (some (p + r)) none) (c := c) a1 a2 ⟨by omega, by omega⟩ lc cc fc
      have pr : fAdd (.fz (.int p)) (.fz (.int r)) s5 = .ok (.fz (.int (p + r))) s5 := by simp
      simp [sl]
      generalize cutS x (some (p + r)) none = Bx at *
      simp [q2, tk s5 _ j5']
      exact ⟨wd, jr_mono j5' (by omega)⟩
    · simp [fEq, scaD, eqS, cb, tk s2 _ j2']
      exact ⟨wx, jr_mono j2' (by omega)⟩
end K08
/-! NI08: what stands for a word, the others beside it. -/
namespace K08
open PySem PySem.Spec PyProof.Rows L2 MG QD MU
/-- what may stand for a word -/
structure Wo (d : D) : Prop where
  fl : flt d = true
  wd : ∀ x, d = .str x → Wd x
  lay : ∀ x, d = .str x → PyData.canLay0 (.str x) = true
  pl : d = .dict [] ∨ (plain d = true ∧ SeqAt.shaped d = true)
def woB (d : D) : Bool := flt d && (match d with
  | .str x => decide (x.length ≤ 24) && (TL.tl x).all (fun c => decide (c < 128) && decide (c ≠ 32) && decide (c ≠ 10)) && PyData.canLay0 (.str x)
  | _ => true) && (match d with
  | .dict [] => true
  | d => plain d && SeqAt.shaped d)
theorem woB_ok {d : D} (h : woB d = true) : Wo d := by
  unfold woB at h
  rw [Bool.and_eq_true, Bool.and_eq_true] at h
  obtain ⟨⟨h1, h2⟩, h3⟩ := h
  have ws : ∀ x, d = .str x → Wd x ∧ PyData.canLay0 (.str x) = true := fun x e => by
    subst e
    simp only [Bool.and_eq_true, decide_eq_true_eq, List.all_eq_true] at h2
    obtain ⟨⟨a, b⟩, c⟩ := h2
    exact ⟨⟨a, fun k hk => (b k hk).1.1, .inl ⟨fun m => (b _ m).1.2 rfl, fun m => (b _ m).2 rfl⟩⟩, c⟩
  refine ⟨h1, fun x e => (ws x e).1, fun x e => (ws x e).2, ?_⟩
  split at h3
  · exact .inl rfl
  · rw [Bool.and_eq_true] at h3; exact .inr h3
theorem odds_wo : ODDS.all woB = true := by decide +kernel
theorem lay_128 {x : Str} (h : ∀ c ∈ TL.tl x, c < 128) : PyData.canLay0 (.str x) = true := by
  show x.cps.all (· < 0x110000) = true
  rw [← Array.all_toList, List.all_eq_true]
  intro c hc
  exact decide_eq_true (Nat.lt_trans (h c hc) (by decide))
theorem wd_wo {x : Str} (h : Wd x) : Wo (.str x) := by
  refine ⟨rfl, fun y e => ?_, fun y e => ?_, .inr ⟨rfl, ?_⟩⟩
  · cases e; exact h
  · cases e; exact lay_128 h.co
  · unfold SeqAt.shaped
    rw [lay_128 h.co]
    rfl
theorem odd_wo {st : Sto} {n N : Nat} (j : JAt st n N) (hN : N < 1000000) : wR noX (F_l_odd [.loc n] st) fun w s => (∃ d, w = .fz d ∧ Wo d) ∧ JR n st s (N + 1) := by
  have pw : ∀ s, fPow (.fz (.int 10)) (.fz (.int 30)) s = .ok (.fz (.int 1000000000000000000000000000000)) s := fun s => rfl
  unfold F_l_odd d_l_odd
  simp [sz_le, pw]
  refine (pour0 (m := 18) j hN (by decide) (by decide)).use ?_
  rintro _ s ⟨⟨a, rfl, a0, a1⟩, j1⟩
  obtain ⟨d, e, it⟩ : ∃ d, atI ODDS a = some d ∧ Wo d := by
    have hi : a.toNat < ODDS.length := by show _ < 18; omega
    refine ⟨ODDS[a.toNat], ?_, woB_ok (List.all_eq_true.mp odds_wo _ (List.getElem_mem hi))⟩
    rw [atI_i a0, List.getElem?_eq_getElem hi]
  have e' : fIxL (.fz (.list ODDS)) (.fz (.int a)) s = .ok (.fz d) s := by
    rw [fIxL_eq, seqR_fz]
    simp [e]
  have ls := jr_len j1
  have tk : List.take (List.length st) s = s := by rw [← ls, List.take_length]
  unfold ODDS at e'
  simp [e', tk]
  exact ⟨it, j1⟩
/-! ### the others -/
def sOf : D → Option Str
  | .str x => some x
  | _ => none
theorem eqv_str (s : Str) (d : D) (h : plain d = true) : PyData.eqv (.str s) d = decide (sOf d = some s) := by
  cases d with
  | str x =>
    simp only [PyData.eqv, sOf]
    by_cases c : s = x
    · subst c; simp
    · have c' : ¬ x = s := fun e => c e.symm
      simp [c, c']
  | none => simp [PyData.eqv, sOf]
  | bool _ => simp [PyData.eqv, sOf]
  | int _ => simp [PyData.eqv, sOf]
  | list _ => simp [PyData.eqv, sOf]
  | tuple _ => simp [PyData.eqv, sOf]
  | dict _ => cases h
theorem shS {s : Str} (h : PyData.canLay0 (.str s) = true) : SeqAt.shaped (.str s) = true := by
  unfold SeqAt.shaped
  rw [h]
  rfl
theorem ne_wo {d : D} (h : Wo d) {s : Str} (hs : PyData.canLay0 (.str s) = true) {st : Sto} : fNeS (.fz (.str s)) (.fz d) st = .ok (.fz (.bool (!decide (sOf d = some s)))) st := by
  rcases h.pl with rfl | ⟨p1, p2⟩
  · rfl
  · have nd : ¬ d = .dict [] := fun e => by subst e; cases p1
    have e : fNeS (.fz (.str s)) (.fz d) st = fEqD true (.fz (.str s)) (.fz d) st := by
      unfold fNeS
      split
      · rename_i x e1 e2
        injection e2 with e2
        exact absurd e2 nd
      · rfl
    rw [e]
    unfold fEqD
    simp only [lookW_fz]
    rw [p1, p2, shS hs, eqv_str s d p1]
    rfl
structure Oth (o : Option Str) (os : List Str) (a b : Str) : Prop where
  at_ : ∃ r, os = a :: b :: r
  na : Nm a
  nb : Nm b
  ne : a ≠ b
  da : o ≠ some a
  db : o ≠ some b
def othS (d : D) : List Str := (["y", "y1", "y2"] : List Str).filter fun s => !decide (sOf d = some s)
theorem oth (d : D) : ∃ a b, Oth (sOf d) (othS d) a b := by
  have y : Nm "y" := show nameL _ = true by decide +kernel
  have y1 : Nm "y1" := show nameL _ = true by decide +kernel
  have y2 : Nm "y2" := show nameL _ = true by decide +kernel
  have n1 : ("y" : Str) ≠ "y1" := by decide +kernel
  have n2 : ("y" : Str) ≠ "y2" := by decide +kernel
  have n3 : ("y1" : Str) ≠ "y2" := by decide +kernel
  unfold othS
  generalize ("y" : Str) = a at *
  generalize ("y1" : Str) = b at *
  generalize ("y2" : Str) = c at *
  generalize sOf d = o
  by_cases h1 : o = some a
  · subst h1
    have e1 : ¬ some a = some b := fun e => n1 (Option.some.inj e)
    have e2 : ¬ some a = some c := fun e => n2 (Option.some.inj e)
    exact ⟨b, c, ⟨⟨[], by simp [n1, n2]⟩, y1, y2, n3, e1, e2⟩⟩
  · by_cases h2 : o = some b
    · subst h2
      have e2 : ¬ some b = some c := fun e => n3 (Option.some.inj e)
      exact ⟨a, c, ⟨⟨[], by simp [n1.symm, n3]⟩, y, y2, n2, h1, e2⟩⟩
    · exact ⟨a, b, ⟨⟨if o = some c then [] else [c], by by_cases h3 : o = some c <;> simp [h1, h2, h3, n2.symm, n3.symm]⟩, y, y1, n1, h1, h2⟩⟩
theorem others {tt : Nat} {d : D} (h : Wo d) {v0 v1 v3 v4 v5 v6 v7 : Option QD.W} {st : Sto} : c_l_right_1 tt [v0, v1, some (.fz d), v3, v4, v5, v6, v7, none] st = .ok (.own (strsD (othS d))) st := by
  have ne := fun (s : Str) (hs : PyData.canLay0 (.str s) = true) st => ne_wo h hs (st := st)
  have la : ∀ s ∈ (["y", "y1", "y2"] : List Str), PyData.canLay0 (.str s) = true := by decide +kernel
  have src : ∀ s, srcW s (.own [PyData.str "y", .str "y1", .str "y2"]) = some ⟨(["y", "y1", "y2"] : List Str).map PyData.str, none⟩ := fun s => rfl
  apply wR.eq
  unfold c_l_right_1
  simp [sz_le, src]
  refine wR_lcF PyData.str (["y", "y1", "y2"] : List Str) (fun s => !decide (sOf d = some s)) PyData.str rfl (by simp) (fun s hs => ?_) ⟨rfl, rfl⟩
  have := ne s (la s hs)
  simp [wipeE, this]
end K08
/-! NJ08: what is told of a word among hosts, among guests, in a page. -/
namespace K08
open PySem PySem.Spec PyProof.Rows L2 MG QD MU
abbrev LAM : Str := (("_law_right" : Str) ++ ".<locals>." ++ "<lambda>")
theorem strOk_wo {d : D} (h : Wo d) : strOk d = true := by
  cases d with
  | str x => exact decide_eq_true (by have := (h.wd x rfl).len; omega)
  | _ => rfl
theorem names_fld {hs gs : Side} {t : Option Int} {x : Str} {st : Sto} : fldW 0 ns_Fair "_names" st (.fz (fairD hs gs t x)) = some (.tuple (strsD ((hs ++ gs).map (·.1)))) := rfl
def inNm (ns : List Str) (d : D) : Bool := match sOf d with
  | some y => decide (y ∈ ns)
  | none => false
theorem contains_any {hs gs : Side} {t : Option Int} {x : Str} {d : D} (h : Wo d) {st : Sto} : F_Fairu_containsu [.fz (fairD hs gs t x), .fz d] st = .ok (.fz (.bool (inNm ((hs ++ gs).map (·.1)) d))) st := by
  have nf := fun st => names_fld (hs := hs) (gs := gs) (t := t) (x := x) (st := st)
  have is := fun s => (isi_any h.fl (st := s)).2.1
  have fi : ∀ y s, fIn false (.fz (.str y)) (.fz (.tuple (strsD ((hs ++ gs).map (·.1))))) s = .ok (.fz (.bool (decide (y ∈ (hs ++ gs).map (·.1))))) s := fun y s => by
    unfold fIn
    rw [show anyW s (.fz (.tuple (strsD ((hs ++ gs).map (·.1))))) = some (strsD ((hs ++ gs).map (·.1))) from rfl]
    dsimp only
    rw [flatD_strs, inD_str]
    rfl
  generalize strsD ((hs ++ gs).map (·.1)) = nd at *
  generalize (hs ++ gs).map (·.1) = ns at *
  generalize fairD hs gs t x = fd at *
  have df : ∀ en s, en[0]? = some (some (.fz fd)) → dFld 0 ns_Fair "_names" (dVar 0) en s = .ok (.fz (.tuple nd)) s := fun en s h0 => by
    unfold dFld dVar
    simp only [h0, Rt.bind_ok, nf]
  apply wR.eq
  unfold F_Fairu_containsu d_Fairu_containsu inNm sOf
  cases d with
  | str y =>
    dsimp only at is
    simp [is, nf, fi]
  | _ =>
    dsimp only at is
    simp [is]
theorem in_fair {hs gs : Side} {t : Option Int} {x : Str} {d : D} (h : Wo d) {st : Sto} : fInOwn 0 ns_Fair F_Fairu_containsu (.fz d) (.fz (fairD hs gs t x)) st = .ok (.fz (.bool (inNm ((hs ++ gs).map (·.1)) d))) st := by
  unfold fInOwn
  rw [fair_ob]
  dsimp only
  rw [contains_any h, Rt.bind_ok]
theorem made_d {hs gs : Side} (f : Fairish hs gs none) {en : En} {st st1 : Sto} {a : DnA} (ha : a en st = .ok [.fz (sideD hs), .fz (sideD gs)] st1) :
    ∃ x : Str, dMake 4 0 (frzOb 0 ns_Fair) F_Fairu_initu [.fz .none] a en st = .ok (.fz (fairD hs gs none x)) st1 := by
  obtain ⟨x, h⟩ := made f (en := en) (st := st) (st1 := st1) (a := fun _ _ => .ok [.fz (sideD hs), .fz (sideD gs), .fz (deskD none)] st1) rfl
  refine ⟨x, ?_⟩
  rw [← h]
  unfold dMake
  rw [ha]
  rfl
theorem make_ex_d {H G : D} {c : Str} {p : Option (Str × D)} {st : Sto} {en : En} {a : DnA} (ha : a en st = .ok [.fz H, .fz G] st)
    (h : F_Fairu_initu [.loc st.length, .fz H, .fz G, .fz .none] (st ++ [.ins 0 []]) = .ex c p (st ++ [.ins 0 []])) :
    dMake 4 0 (frzOb 0 ns_Fair) F_Fairu_initu [.fz .none] a en st = .ex c p (st ++ [.ins 0 []]) := by
  unfold dMake
  rw [ha]
  simp [h]
theorem fault_item {d : D} (h : Wo d) (hb : nmB d = false) {a : Str} (na : Nm a) {st : Sto} : F_fault [.fz (.tuple [.tuple [.str a, .int 1], .tuple [d, .int 2]]), .fz (.tuple [])] st = .ok (.fz (.tuple [.int 1])) st := by
  have e := fault_tup (ds := [.tuple [.str a, .int 1], .tuple [d, .int 2]]) (taken := []) (fun x hx => by
    rcases List.mem_cons.mp hx with rfl | hx
    · show (true && true && strOk (.str a)) = true
      have := na.len
      unfold strOk
      simp only [Bool.and_true, Bool.true_and]
      exact decide_eq_true (by omega)
    · rw [List.mem_singleton] at hx
      subst hx
      show (flt d && true && strOk d) = true
      rw [h.fl, strOk_wo h]
      rfl) (by simp) (st := st)
  rw [show sideBad [] [.tuple [.str a, .int 1], .tuple [d, .int 2]] = .tuple [.int 1] by
    have m1 : memB (.tuple [.str a, .int 1]) = true := by
      show (nameB a && bdB (.int 1)) = true
      rw [show nameB a = true from na]
      rfl
    have m2 : memB (.tuple [d, .int 2]) = false := by
      show (nmB d && _) = false
      rw [hb]
      rfl
    unfold sideBad
    rw [if_neg (by simp)]
    have f1 : firstBad [] 0 [.tuple [.str a, .int 1], .tuple [d, .int 2]] = some 1 := by
      unfold firstBad
      rw [if_neg (by rintro (h | h | h); cases h; rw [m1] at h; cases h; cases h)]
      unfold firstBad
      rw [if_pos (.inr (.inl m2))]
    rw [f1]
    rfl] at e
  exact e
theorem fault_guest {d : D} (h : Wo d) (hb : nmB d = false) {a : Str} {st : Sto} : F_fault [.fz (.tuple [.tuple [d, .int 4]]), .fz (.tuple (strsD [a]))] st = .ok (.fz (.tuple [.int 0])) st := by
  have e := fault_tup (ds := [.tuple [d, .int 4]]) (taken := [a]) (fun x hx => by
    rw [List.mem_singleton] at hx
    subst hx
    show (flt d && true && strOk d) = true
    rw [h.fl, strOk_wo h]
    rfl) (by simp) (st := st)
  rw [show sideBad [a] [.tuple [d, .int 4]] = .tuple [.int 0] by
    have m2 : memB (.tuple [d, .int 4]) = false := by
      show (nmB d && _) = false
      rw [hb]
      rfl
    unfold sideBad firstBad
    rw [if_neg (by simp), if_pos (.inr (.inl m2))]
    rfl] at e
  exact e
theorem take_app1 {st : Sto} {o : Ob} : (st ++ [o]).take st.length = st := by rw [List.take_left']; rfl
/-- the first two of the others, as the law finds them -/
theorem pick0 {os : List Str} {a b : Str} {o : Option Str} (O : Oth o os a b) {s : Sto} : fIxL (.fz (.list (strsD os))) (.fz (.int 0)) s = .ok (.fz (.str a)) s ∧ fIxL (.fz (.list (strsD os))) (.fz (.int 1)) s = .ok (.fz (.str b)) s := by
  obtain ⟨r, rfl⟩ := O.at_
  have e0 : atI (strsD (a :: b :: r)) 0 = some (.str a) := by
    rw [atI_i (by decide)]
    rfl
  have e : atI (strsD (a :: b :: r)) 1 = some (.str b) := by
    rw [atI_i (by decide)]
    rfl
  constructor
  · rw [fIxL_eq, seqR_fz]
    simp only [e0]
  · rw [fIxL_eq, seqR_fz]
    simp only [e]
section
variable {tt : Nat} {d : D} {a b : Str} {os : List Str} {en : En} {st : Sto}
theorem rp1 (s : Sto) : fRepr (.fz (.int 1)) s = .ok (.fz (.str "1")) s := rfl
theorem rp0 (s : Sto) : fRepr (.fz (.int 0)) s = .ok (.fz (.str "0")) s := rfl
theorem rpT (s : Sto) : fRepr (.fz (.bool true)) s = .ok (.fz (.str "True")) s := rfl
theorem told_hosts (h : Wo d) (O : Oth (sOf d) os a b) (hb : nmB d = false) (h0 : st[0]? = some (.tab tt LAM)) (h2 : en[2]? = some (some (.fz d))) (h3 : en[3]? = some (some (.fz (.list (strsD os))))) :
    dTold 0 tt LAM (m_l_right_2 tt) 5 b_l_told en st = .ok (.own [.str "hosts", .str "1"]) st := by
  refine told_ex (k := 1) (d := .int 1) (st1 := st ++ [.ins 0 []]) h0 (by decide) ?_ take_app1 rp1
  have p0 := fun s => (pick0 O (s := s)).1
  have p1 := fun s => (pick0 O (s := s)).2
  have m := make_ex_d (c := eS 1) (p := some (fldN 1, .int 1)) (st := st) (en := en) (H := .tuple [.tuple [.str a, .int 1], .tuple [d, .int 2]]) (G := .tuple [.tuple [.str b, .int 1]])
    (a := (aCons (dN fTup (aCons (dN fTup (aCons (dOp fIxL (dVar 3) (dC (.int 0))) (aCons (dC (.int 1)) aNil))) (aCons (dN fTup (aCons (dVar 2) (aCons (dC (.int 2)) aNil))) aNil))) (aCons (dN fTup (aCons (dN fTup (aCons (dOp fIxL (dVar 3) (dC (.int 1))) (aCons (dC (.int 1)) aNil))) aNil)) aNil)))
    (by generalize PyData.list (strsD os) = ol at *; simp [-fIxL_eq, h2, h3, p0, p1, sz_le]) (init_hosts fun s => fault_item h hb O.na)
  unfold m_l_right_2
  unfold dOp dVar at *
  simp only [h2, Rt.bind_ok]
  rw [m]
  rfl
theorem told_guests (h : Wo d) (O : Oth (sOf d) os a b) (hb : nmB d = false) (h0 : st[0]? = some (.tab tt LAM)) (h2 : en[2]? = some (some (.fz d))) (h3 : en[3]? = some (some (.fz (.list (strsD os))))) :
    dTold 0 tt LAM (m_l_right_3 tt) 5 b_l_told en st = .ok (.own [.str "guests", .str "0"]) st := by
  refine told_ex (k := 2) (d := .int 0) (st1 := st ++ [.ins 0 []]) h0 (by decide) ?_ take_app1 rp0
  have p0 := fun s => (pick0 O (s := s)).1
  have fa : ∀ s, F_fault [.fz (sideD [(a, 1)]), .fz (.tuple [])] s = .ok (.fz (.tuple [])) s := fun s => by
    have := fault (taken := []) (s := [(a, (1 : Int))]) (by simp) (by simp) (by decide) (by simp) (fun z hz => by rw [List.mem_singleton] at hz; subst hz; exact O.na) (fun z hz => by rw [List.mem_singleton] at hz; subst hz; exact ⟨show (1 : Int) ≤ 1 by decide, show (1 : Int) ≤ 4 by decide⟩) (st := s)
    exact this
  have nm : ∀ s, F_names_of [.fz (sideD [(a, 1)])] s = .ok (.fz (.tuple (strsD [a]))) s := fun s => names_of (s := [(a, (1 : Int))]) (by simp) (st := s)
  have m := make_ex (c := eS 2) (p := some (fldN 2, .int 0)) (st := st) (en := en) (H := sideD [(a, 1)]) (G := .tuple [.tuple [d, .int 4]]) (T := .int 3)
    (a := (aCons (dN fTup (aCons (dN fTup (aCons (dOp fIxL (dVar 3) (dC (.int 0))) (aCons (dC (.int 1)) aNil))) aNil)) (aCons (dN fTup (aCons (dN fTup (aCons (dVar 2) (aCons (dC (.int 4)) aNil))) aNil)) (aCons (dC (.int 3)) aNil))))
    (by
      rw [show sideD [(a, 1)] = PyData.tuple [.tuple [.str a, .int 1]] from rfl]
      generalize PyData.list (strsD os) = ol at *
      simp [-fIxL_eq, h2, h3, p0, sz_le]) (init_guests fa nm fun s => fault_guest h hb)
  unfold m_l_right_3
  unfold dOp dVar at *
  simp only [h2, Rt.bind_ok]
  rw [m]
  rfl
theorem told_in {x : Str} (hx : Nm x) (W : Wo (.str x)) (O : Oth (some x) os a b) (h0 : st[0]? = some (.tab tt LAM)) (h2 : en[2]? = some (some (.fz (.str x)))) (h3 : en[3]? = some (some (.fz (.list (strsD os))))) :
    dTold 0 tt LAM (m_l_right_2 tt) 5 b_l_told en st = .ok (.own [.str "back", .str "True"]) st := by
  refine told_ok (st1 := st) (w := .fz (.bool true)) h0 ?_ (List.take_length ..) rpT
  have ne1 : a ≠ x := fun e => O.da (by rw [e])
  have ne2 : b ≠ x := fun e => O.db (by rw [e])
  have f : Fairish [(a, 1), (x, 2)] [(b, 1)] none := by
    refine ⟨by simp, by simp, by simp, by simp, by simp [ne1, O.ne, ne2.symm], fun z hz => ?_, fun z hz => ?_, fun k hk => by cases hk⟩
    · simp at hz
      rcases hz with rfl | rfl | rfl
      · exact O.na
      · exact hx
      · exact O.nb
    · simp at hz
      rcases hz with rfl | rfl | rfl
      · exact ⟨show (1 : Int) ≤ 1 by decide, show (1 : Int) ≤ 4 by decide⟩
      · exact ⟨show (1 : Int) ≤ 2 by decide, show (2 : Int) ≤ 4 by decide⟩
      · exact ⟨show (1 : Int) ≤ 1 by decide, show (1 : Int) ≤ 4 by decide⟩
  have p0 := fun s => (pick0 O (s := s)).1
  have p1 := fun s => (pick0 O (s := s)).2
  obtain ⟨t, m⟩ := made_d f (st := st) (st1 := st) (en := en)
    (a := (aCons (dN fTup (aCons (dN fTup (aCons (dOp fIxL (dVar 3) (dC (.int 0))) (aCons (dC (.int 1)) aNil))) (aCons (dN fTup (aCons (dVar 2) (aCons (dC (.int 2)) aNil))) aNil))) (aCons (dN fTup (aCons (dN fTup (aCons (dOp fIxL (dVar 3) (dC (.int 1))) (aCons (dC (.int 1)) aNil))) aNil)) aNil)))
    (by
      rw [show sideD [(a, 1), (x, 2)] = PyData.tuple [.tuple [.str a, .int 1], .tuple [.str x, .int 2]] from rfl, show sideD [(b, 1)] = PyData.tuple [.tuple [.str b, .int 1]] from rfl]
      generalize PyData.list (strsD os) = ol at *
      simp [-fIxL_eq, h2, h3, p0, p1, sz_le])
  have e := in_fair (hs := [(a, 1), (x, 2)]) (gs := [(b, 1)]) (t := none) (x := t) W (st := st)
  have hn : inNm (([(a, 1), (x, 2)] ++ [(b, 1)] : Side).map (·.1)) (.str x) = true := by simp [inNm, sOf]
  rw [hn] at e
  unfold m_l_right_2
  unfold dOp dVar at *
  simp only [h2, Rt.bind_ok]
  rw [m, Rt.bind_ok]
  exact e
theorem told_in2 {x : Str} (hx : Nm x) (W : Wo (.str x)) (O : Oth (some x) os a b) (h0 : st[0]? = some (.tab tt LAM)) (h2 : en[2]? = some (some (.fz (.str x)))) (h3 : en[3]? = some (some (.fz (.list (strsD os))))) :
    dTold 0 tt LAM (m_l_right_3 tt) 5 b_l_told en st = .ok (.own [.str "back", .str "True"]) st := by
  refine told_ok (st1 := st) (w := .fz (.bool true)) h0 ?_ (List.take_length ..) rpT
  have ne1 : a ≠ x := fun e => O.da (by rw [e])
  have f : Fairish [(a, 1)] [(x, 4)] (some 3) := by
    refine ⟨by simp, by simp, by simp, by simp, by simp [ne1], fun z hz => ?_, fun z hz => ?_, fun k hk => by cases hk; exact ⟨by decide, by decide⟩⟩
    · simp at hz
      rcases hz with rfl | rfl
      · exact O.na
      · exact hx
    · simp at hz
      rcases hz with rfl | rfl
      · exact ⟨show (1 : Int) ≤ 1 by decide, show (1 : Int) ≤ 4 by decide⟩
      · exact ⟨show (1 : Int) ≤ 4 by decide, show (4 : Int) ≤ 4 by decide⟩
  have p0 := fun s => (pick0 O (s := s)).1
  obtain ⟨t, m⟩ := made f (st := st) (st1 := st) (en := en)
    (a := (aCons (dN fTup (aCons (dN fTup (aCons (dOp fIxL (dVar 3) (dC (.int 0))) (aCons (dC (.int 1)) aNil))) aNil)) (aCons (dN fTup (aCons (dN fTup (aCons (dVar 2) (aCons (dC (.int 4)) aNil))) aNil)) (aCons (dC (.int 3)) aNil))))
    (by
      rw [show sideD [(a, 1)] = PyData.tuple [.tuple [.str a, .int 1]] from rfl, show sideD [(x, 4)] = PyData.tuple [.tuple [.str x, .int 4]] from rfl, show deskD (some 3) = PyData.int 3 from rfl]
      generalize PyData.list (strsD os) = ol at *
      simp [-fIxL_eq, h2, h3, p0, sz_le])
  have e := in_fair (hs := [(a, 1)]) (gs := [(x, 4)]) (t := some 3) (x := t) W (st := st)
  have hn : inNm (([(a, 1)] ++ [(x, 4)] : Side).map (·.1)) (.str x) = true := by simp [inNm, sOf]
  rw [hn] at e
  unfold m_l_right_3
  unfold dOp dVar at *
  simp only [h2, Rt.bind_ok]
  rw [m, Rt.bind_ok]
  exact e
end
end K08
/-! NK08: one turn. -/
namespace K08
open PySem PySem.Spec PyProof.Rows L2 MG QD MU
noncomputable def T5 (t_l_right : Nat) : DnS :=
    (sSeq (sSet 3 (c_l_right_1 t_l_right))
    (sSeq (sSet 4 (dMake 4 0 (frzOb 0 ns_Fair) F_Fairu_initu [.fz .none] (aCons (dN fTup (aCons (dN fTup (aCons (dOp fIxL (dVar 3) (dC (.int 0))) (aCons (dC (.int 1)) aNil))) aNil)) (aCons (dN fTup (aCons (dN fTup (aCons (dOp fIxL (dVar 3) (dC (.int 1))) (aCons (dC (.int 2)) aNil))) aNil)) aNil))))
    (sSeq (sIf (bT (dOp (fEq true) (dN (f1 fRepr) (aCons (dOp (fInOwn 0 ns_Fair F_Fairu_containsu) (dVar 2) (dVar 4)) aNil)) (dN (f1 fRepr) (aCons (dC (.bool false)) aNil)))) (sRet (dC (.bool false))) sNext)
    (sSeq (sSet 5 (dLoc (dN fLst (aCons (dTold 0 t_l_right (("_law_right" : Str) ++ ".<locals>." ++ "<lambda>") (m_l_right_2 t_l_right) 5 b_l_told) aNil))))
    (sSeq (sDrop (dM isLst (fChg gApp) (dVar 5) (aCons (dTold 0 t_l_right (("_law_right" : Str) ++ ".<locals>." ++ "<lambda>") (m_l_right_3 t_l_right) 5 b_l_told) aNil)))
    (sSeq (sSet 6 (dIf (bT (dCall 1 F_l_is_name [] (aCons (dVar 2) aNil))) (dOp fRep (dN fLst (aCons (dN fLst (aCons (dC (.str "back")) (aCons (dC (.str "True")) aNil))) aNil)) (dC (.int 2))) (dN fLst (aCons (dN fLst (aCons (dC (.str "hosts")) (aCons (dC (.str "1")) aNil))) (aCons (dN fLst (aCons (dC (.str "guests")) (aCons (dC (.str "0")) aNil))) aNil)))))
    (sSeq (sIf (bT (dOp (fEqD true) (dVar 5) (dVar 6))) (sRet (dC (.bool false))) sNext)
    (sIf (bT (dN (f2 fIsi) (aCons (dVar 2) (aCons (dC (tyD "str")) aNil)))) (sSeq (sSet 7 (dOp fAddS (dOp fAddS (dOp fAddS (dOp fAddS (dC (.str "host ")) (dVar 2)) (dC (.str " 3\nguest "))) (dOp fIxL (dVar 3) (dC (.int 0)))) (dC (.str " 1"))))
    (sSeq (sSet 6 (dIf (bT (dCall 1 F_l_is_name [] (aCons (dVar 2) aNil))) (dN fLst (aCons (dC (.str "back")) (aCons (dN (f1 fRepr) (aCons (dVar 7) aNil)) aNil))) (dN fLst (aCons (dC (.str "text")) (aCons (dN (f1 fRepr) (aCons (dVar 7) aNil)) aNil)))))
    (sIf (bT (dOp (fEqD true) (dTold 0 t_l_right (("_law_right" : Str) ++ ".<locals>." ++ "<lambda>") (m_l_right_4 t_l_right) 5 b_l_told) (dVar 6))) (sRet (dC (.bool false))) sNext))) sNext))))))))
theorem b5_eq (tt : Nat) : b_l_right_5 tt = sSeq (sSet 2 (dIf (bT (dOp fGt (dCall 2 F_l_pour [] (aCons (dVar 0) (aCons (dC (.int 5)) aNil))) (dC (.int 0)))) (dCall 1 F_l_drawn [] (aCons (dVar 0) aNil)) (dCall 1 F_l_odd [] (aCons (dVar 0) aNil)))) (T5 tt) := rfl
theorem str_own {hs gs : Side} {t : Option Int} {p : Str} {st : Sto} : fStrOwn 0 ns_Fair F_Fairu_stru (.fz (fairD hs gs t p)) st = .ok (.fz (.str p)) st := by
  have tf : ∀ s, fldW 0 ns_Fair "_text" s (.fz (fairD hs gs t p)) = some (.str p) := fun s => rfl
  have e : ∀ s, F_Fairu_stru [.fz (fairD hs gs t p)] s = .ok (.fz (.str p)) s := fun s => by
    generalize fairD hs gs t p = fd at *
    apply wR.eq
    unfold F_Fairu_stru d_Fairu_stru
    simp [tf, fStrS]
  unfold fStrOwn
  rw [fair_ob]
  dsimp only
  rw [e, Rt.bind_ok]
  rfl
theorem told_page {tt : Nat} {x y z : Str} {en : En} {st : Sto} (hx : Nm x) (hy : Nm y) (ne : x ≠ y) (h0 : st[0]? = some (.tab tt LAM)) (h7 : en[7]? = some (some (.fz (.str (pageS x y))))) (rp : ∀ s, fRepr (.fz (.str (pageS x y))) s = .ok (.fz (.str z)) s) :
    dTold 0 tt LAM (m_l_right_4 tt) 5 b_l_told en st = .ok (.own [.str "back", .str z]) st := by
  refine told_ok (st1 := st) (w := .fz (.str (pageS x y))) h0 ?_ (List.take_length ..) rp
  have r := fun s => read_good hx hy ne (st := s)
  have so := fun s => str_own (hs := [(x, 3)]) (gs := [(y, 1)]) (t := none) (p := pageS x y) (st := s)
  generalize fairD [(x, 3)] [(y, 1)] none (pageS x y) = fd at *
  generalize pageS x y = pg at *
  have c : dCMeth 0 2 F_Fair_read (dC (clsD 0)) (aCons (dVar 7) aNil) en st = .ok (.fz fd) st := by
    unfold dCMeth dC
    rw [Rt.bind_ok, isC0, if_pos rfl]
    simp [h7, r]
  unfold m_l_right_4
  simp [c, so, f1]
theorem told_none {tt : Nat} {x y z : Str} {en : En} {st : Sto} (W : Wd x) (hy : Nm y) (hb : nameB x = false) (h0 : st[0]? = some (.tab tt LAM)) (h7 : en[7]? = some (some (.fz (.str (pageS x y))))) (rp : ∀ s, fRepr (.fz (.str (pageS x y))) s = .ok (.fz (.str z)) s) :
    dTold 0 tt LAM (m_l_right_4 tt) 5 b_l_told en st = .ok (.own [.str "text", .str z]) st := by
  refine told_ex (k := 0) (d := .str (pageS x y)) (st1 := st) h0 (by decide) ?_ (List.take_length ..) rp
  have r := fun s => read_any W hy hb (st := s)
  generalize pageS x y = pg at *
  have c : dCMeth 0 2 F_Fair_read (dC (clsD 0)) (aCons (dVar 7) aNil) en st = .ex (eS 0) (some ("given", .str pg)) st := by
    unfold dCMeth dC
    rw [Rt.bind_ok, isC0, if_pos rfl]
    simp [h7, r]
  unfold m_l_right_4
  rw [show fldN 0 = "given" from rfl]
  generalize (some (("given" : Str), PyData.str pg)) = pp at *
  simp [c]
end K08
/-! NL08: one turn, whole. -/
namespace K08
open PySem PySem.Spec PyProof.Rows L2 MG QD MU
abbrev two (w x : Str) : D := .list [.str w, .str x]
theorem eq_same {w1 w2 : QD.W} {l : List D} {s : Sto} (h1 : lookW s w1 = some (.list l)) (h2 : lookW s w2 = some (.list l)) (pl : QD.plain (.list l) = true) (lay : PySem.SeqAt.shaped (.list l) = true) (e : PyData.eqv (.list l) (.list l) = true) : fEqD true w1 w2 s = .ok (.fz (.bool false)) s := by
  unfold fEqD
  rw [h1, h2]
  dsimp only
  rw [pl, lay, e]
  rfl
theorem page_co {x y : Str} (hx : ∀ c ∈ TL.tl x, c < 128) (hy : ∀ c ∈ TL.tl y, c < 128) : ∀ c ∈ TL.tl (pageS x y), c < 128 := fun c hc => by
  unfold pageS at hc
  have l : (∀ c ∈ TL.tl ("host " : Str), c < 128) ∧ (∀ c ∈ TL.tl (" 3\nguest " : Str), c < 128) ∧ (∀ c ∈ TL.tl (" 1" : Str), c < 128) := by decide +kernel
  rcases mem_app.mp hc with hc | hc
  · rcases mem_app.mp hc with hc | hc
    · rcases mem_app.mp hc with hc | hc
      · rcases mem_app.mp hc with hc | hc
        · exact l.1 c hc
        · exact hx c hc
      · exact l.2.1 c hc
    · exact hy c hc
  · exact l.2.2 c hc
theorem rep_page {x y : Str} (W : Wd x) (hy : Nm y) : ∃ z : Str, PyData.strOk z = true ∧ ∀ s, fRepr (.fz (.str (pageS x y))) s = .ok (.fz (.str z)) s := by
  have co := page_co W.co (aln_co (x := y) (fun c hc => by
    have h := hy
    unfold Nm at h
    cases e : y.cps.toList with
    | nil => rw [show TL.tl y = y.cps.toList from rfl, e] at hc; cases hc
    | cons a r =>
      rw [e] at h
      have h' : (lowB a && decide (r.length ≤ 7) && r.all signB) = true := h
      simp only [Bool.and_eq_true, decide_eq_true_eq] at h'
      obtain ⟨⟨h1, _⟩, h3⟩ := h'
      rw [show TL.tl y = y.cps.toList from rfl, e] at hc
      rcases List.mem_cons.mp hc with rfl | hc
      · unfold signB; rw [h1]; rfl
      · exact List.all_eq_true.mp h3 c hc))
  refine ⟨(PyData.str (pageS x y)).shown, (uni_shown _ ?_).ok, fun s => ?_⟩
  · show PyData.strOk (pageS x y) = true
    exact lay_128 co
  · refine (Sh.str (x := pageS x y) fun c hc => ?_).rep (by decide) ?_ rfl
    · exact Nat.lt_of_lt_of_le (co c hc) (by decide)
    · have := page_len W.len hy.len.2
      omega
end K08
/-! NM08: the rest of a turn. -/
namespace K08
open PySem PySem.Spec PyProof.Rows L2 MG QD MU
theorem two_ok {w x : Str} (hw : PyData.strOk w = true) (hx : PyData.strOk x = true) : QD.plain (two w x) = true ∧ PySem.SeqAt.shaped (two w x) = true ∧ PyData.eqv (two w x) (two w x) = true := by
  refine ⟨rfl, ?_, by simp [PyData.eqv, PyData.eqvAll]⟩
  unfold PySem.SeqAt.shaped
  rw [show PyData.canLay0 (two w x) = true by simp only [PyData.canLay0, PyData.canLayAll0, hw, hx, Bool.and_self], show (two w x).depth = 1 from rfl]
  rfl
theorem pairs_ok : ∀ l : List D, l = [two "back" "True", two "back" "True"] ∨ l = [two "hosts" "1", two "guests" "0"] → QD.plain (.list l) = true ∧ PySem.SeqAt.shaped (.list l) = true ∧ PyData.eqv (.list l) (.list l) = true := by
  rintro l (rfl | rfl)
  · exact ⟨rfl, by decide +kernel, by decide +kernel⟩
  · exact ⟨rfl, by decide +kernel, by decide +kernel⟩
theorem inNm_not {d : D} {os : List Str} {a b : Str} (O : Oth (sOf d) os a b) : inNm (([(a, 1)] ++ [(b, 2)] : Side).map (·.1)) d = false := by
  have h1 := O.da
  have h2 := O.db
  unfold inNm
  cases e : sOf d with
  | none => rfl
  | some y =>
    rw [e] at h1 h2
    have n1 : y ≠ a := fun e => h1 (by rw [e])
    have n2 : y ≠ b := fun e => h2 (by rw [e])
    simp [n1, n2]
def Aft (n : Nat) (s : Sto) (en : En) (s' : Sto) : Prop := ∃ v1 v2 v3 v4 v5 v6 v7 o, en = [some (.loc n), v1, v2, v3, v4, v5, v6, v7, none] ∧ s' = s ++ [o]
theorem tail {tt n : Nat} {d : D} (W : Wo d) {s : Sto} {v1 v3 v4 v5 v6 v7 : Option QD.W} (h0 : s[0]? = some (.tab tt LAM)) :
    wS noX (T5 tt [some (.loc n), v1, some (.fz d), v3, v4, v5, v6, v7, none] s) (Aft n s) (fun _ _ => False) (fun _ _ => False) (fun _ _ => False) := by
  obtain ⟨a, b, O⟩ := oth d
  have ot := fun (v0 v1 v3 v4 v5 v6 v7 : Option QD.W) s => others (tt := tt) W (v0 := v0) (v1 := v1) (v3 := v3) (v4 := v4) (v5 := v5) (v6 := v6) (v7 := v7) (st := s)
  have f : Fairish [(a, 1)] [(b, 2)] none := by
    refine ⟨by simp, by simp, by simp, by simp, by simp [O.ne], fun z hz => ?_, fun z hz => ?_, fun k hk => by cases hk⟩
    · simp at hz
      rcases hz with rfl | rfl
      · exact O.na
      · exact O.nb
    · simp at hz
      rcases hz with rfl | rfl
      · exact ⟨show (1 : Int) ≤ 1 by decide, show (1 : Int) ≤ 4 by decide⟩
      · exact ⟨show (1 : Int) ≤ 2 by decide, show (2 : Int) ≤ 4 by decide⟩
  have p0 := fun s => (pick0 O (s := s)).1
  have p1 := fun s => (pick0 O (s := s)).2
  obtain ⟨t, m⟩ := made_d f (st := s) (st1 := s) (en := [some (.loc n), v1, some (.fz d), some (.fz (.list (strsD (othS d)))), v4, v5, v6, v7, none])
    (a := (aCons (dN fTup (aCons (dN fTup (aCons (dOp fIxL (dVar 3) (dC (.int 0))) (aCons (dC (.int 1)) aNil))) aNil)) (aCons (dN fTup (aCons (dN fTup (aCons (dOp fIxL (dVar 3) (dC (.int 1))) (aCons (dC (.int 2)) aNil))) aNil)) aNil)))
    (by
      rw [show sideD [(a, 1)] = PyData.tuple [.tuple [.str a, .int 1]] from rfl, show sideD [(b, 2)] = PyData.tuple [.tuple [.str b, .int 2]] from rfl]
      generalize PyData.list (strsD (othS d)) = ol at *
      simp [-fIxL_eq, p0, p1, sz_le])
  have inb := fun s => in_fair (hs := [(a, 1)]) (gs := [(b, 2)]) (t := none) (x := t) W (st := s)
  have nn := inNm_not O
  rw [nn] at inb
  have tb2 : ∀ l, (s ++ [Ob.lst l])[0]? = some (.tab tt LAM) := fun l => by
    rw [List.getElem?_append_left (List.getElem?_eq_some_iff.mp h0).1]; exact h0
  have isn := fun s => l_is_name_any W.fl (strOk_wo W) W.lay (st := s)
  have rF : ∀ s, fRepr (.fz (.bool false)) s = .ok (.fz (.str "False")) s := fun s => rfl
  have eqS' : ∀ (z : Str) s, fEq true (.fz (.str z)) (.fz (.str z)) s = .ok (.fz (.bool false)) s := fun z s => by simp [fEq, scaD, eqS]
  have iss : ∀ s, fIsi (.fz d) (.fz (tyD "str")) s = .ok (.fz (.bool (sOf d).isSome)) s := fun s => by
    rw [(isi_any W.fl (st := s)).2.1]
    cases d <;> rfl
  have add : ∀ (a b : Str) s, a.length + b.length ≤ 100 → fAddS (.fz (.str a)) (.fz (.str b)) s = .ok (.fz (.str (a ++ b))) s := fun a b s h => by
    have : a.length + b.length ≤ sizeLine := sz_le (by omega)
    unfold fAddS
    simp [this]
  have isl : ∀ l, isLst (s ++ [Ob.lst l]) (.loc s.length) = true := fun l => by
    unfold isLst
    simp only [seqW_loc (get_last (s := s) (o := Ob.lst l) rfl)]
    rfl
  have app : ∀ w1 x1 w2 x2 : Str, fChg gApp (.loc s.length) [.own [.str w2, .str x2]] (s ++ [Ob.lst [two w1 x1]]) = .ok (.fz .none) (s ++ [Ob.lst [two w1 x1, two w2 x2]]) := fun w1 x1 w2 x2 => by
    unfold fChg
    simp only [get_last rfl, gApp, datW_own, if_pos (show [two w1 x1].length < sizeLine from Nat.lt_of_lt_of_le (show 1 < 100 by decide) (sz_le (by decide))), set_last rfl]
    rfl
  have lk : ∀ l, lookW (s ++ [Ob.lst l]) (.loc s.length) = some (.list l) := fun l => by
    unfold lookW
    dsimp only
    rw [get_last rfl]
  have rep2 : ∀ s, fRep (.own [two "back" "True"]) (.fz (.int 2)) s = .ok (.own [two "back" "True", two "back" "True"]) s := fun s => by
    simp [fRep]
    exact sz_le (by decide)
  cases hb : nmB d with
  | false =>
    have t1 := fun en st h0 h2 h3 => told_hosts (tt := tt) (en := en) (st := st) W O hb h0 h2 h3
    have t2 := fun en l h2 h3 => told_guests (tt := tt) (en := en) (st := s ++ [Ob.lst l]) W O hb (tb2 l) h2 h3
    have ep := pairs_ok _ (.inr rfl)
    have eq := eq_same (w2 := .fz (.list [two "hosts" "1", two "guests" "0"])) (lk [two "hosts" "1", two "guests" "0"]) rfl ep.1 ep.2.1 ep.2.2
    rw [hb] at isn
    generalize hol : PyData.list (strsD (othS d)) = ol at *
    unfold T5
    simp [-fIxL_eq, ot, hol, m, inb, rF, eqS', sz_le, t1, t2, h0, isl, app, isn, eq, iss]
    cases e : sOf d with
    | none =>
      simp
      exact ⟨_, _, _, _, _, _, _, _, rfl, rfl⟩
    | some x =>
      obtain rfl : d = .str x := by
        cases d with
        | str y => cases e; rfl
        | _ => cases e
      have Wx := W.wd x rfl
      obtain ⟨z, zo, rz⟩ := rep_page Wx O.na
      have xl := Wx.len
      have al := O.na.len.2
      obtain ⟨l3, l5, l6, l1, l9, ls, ln⟩ := lens
      have a1 := fun s => add "host " x s (by omega)
      have a2 := fun s => add ("host " ++ x) " 3\nguest " s (by rw [app_len]; omega)
      have a3 := fun s => add ("host " ++ x ++ " 3\nguest ") a s (by rw [app_len, app_len]; omega)
      have a4 := fun s => add ("host " ++ x ++ " 3\nguest " ++ a) " 1" s (by rw [app_len, app_len, app_len]; omega)
      have t3 := fun en l h7 => told_none (tt := tt) (en := en) (st := s ++ [Ob.lst l]) Wx O.na hb (tb2 l) h7 rz
      have ok2 := two_ok (w := "text") (x := z) (by decide +kernel) zo
      have eq2 := fun s => eq_same (s := s) (w1 := .own [.str "text", .str z]) (w2 := .fz (two "text" z)) rfl rfl ok2.1 ok2.2.1 ok2.2.2
      have pg : pageS x a = "host " ++ x ++ " 3\nguest " ++ a ++ " 1" := rfl
      rw [pg] at rz t3
      generalize ("host " : Str) ++ x ++ " 3\nguest " ++ a ++ " 1" = P at *
      simp [-fIxL_eq, a1, a2, a3, a4, p0, isn, rz, t3, eq2, sz_le]
      exact ⟨_, _, _, _, _, _, _, _, rfl, rfl⟩
  | true =>
    obtain ⟨x, rfl⟩ : ∃ x, d = .str x := by
      cases d with
      | str y => exact ⟨y, rfl⟩
      | _ => cases hb
    have hx : Nm x := nm_of hb
    have O' : Oth (some x) (othS (.str x)) a b := O
    have ne : x ≠ a := fun e => O'.da (by rw [e])
    have t1 := fun en st h0 h2 h3 => told_in (tt := tt) (en := en) (st := st) hx W O' h0 h2 h3
    have t2 := fun en l h2 h3 => told_in2 (tt := tt) (en := en) (st := s ++ [Ob.lst l]) hx W O' (tb2 l) h2 h3
    have ep := pairs_ok _ (.inl rfl)
    have eq := eq_same (w2 := .fz (.list [two "back" "True", two "back" "True"])) (lk [two "back" "True", two "back" "True"]) rfl ep.1 ep.2.1 ep.2.2
    rw [hb] at isn
    have Wx := W.wd x rfl
    obtain ⟨z, zo, rz⟩ := rep_page Wx O.na
    have xl := Wx.len
    have al := O.na.len.2
    obtain ⟨l3, l5, l6, l1, l9, ls, ln⟩ := lens
    have a1 := fun s => add "host " x s (by omega)
    have a2 := fun s => add ("host " ++ x) " 3\nguest " s (by rw [app_len]; omega)
    have a3 := fun s => add ("host " ++ x ++ " 3\nguest ") a s (by rw [app_len, app_len]; omega)
    have a4 := fun s => add ("host " ++ x ++ " 3\nguest " ++ a) " 1" s (by rw [app_len, app_len, app_len]; omega)
    have t3 := fun en l h7 => told_page (tt := tt) (en := en) (st := s ++ [Ob.lst l]) hx O.na ne (tb2 l) h7 rz
    have ok2 := two_ok (w := "back") (x := z) (by decide +kernel) zo
    have eq2 := fun s => eq_same (s := s) (w1 := .own [.str "back", .str z]) (w2 := .fz (two "back" z)) rfl rfl ok2.1 ok2.2.1 ok2.2.2
    have pg : pageS x a = "host " ++ x ++ " 3\nguest " ++ a ++ " 1" := rfl
    rw [pg] at rz t3
    generalize ("host " : Str) ++ x ++ " 3\nguest " ++ a ++ " 1" = P at *
    generalize hol : PyData.list (strsD (othS (.str x))) = ol at *
    unfold T5
    simp [-fIxL_eq, ot, hol, m, inb, rF, eqS', sz_le, t1, t2, h0, isl, app, isn, eq, iss, rep2, a1, a2, a3, a4, p0, rz, t3, eq2, sOf]
    exact ⟨_, _, _, _, _, _, _, _, rfl, rfl⟩
end K08
/-! MJb04: the jug's making. -/
namespace K08
open PySem PySem.Spec PyProof.Rows L2 MG QD MU
theorem jug {ns : List Int} (h : ns.length ≤ 63) {i : Int} (i0 : 0 ≤ i) (i1 : i ≤ 1000) {st : Sto} : wR noX (F_l_jug [.fz (roD (ns.map PyData.int)), .fz (.int i)] st) fun w s => s = st ∧ ∃ a b : Int, w = .own [.int a, .int b, .int 0] ∧ JOk a b 0 0 := by
  have own : ∃ o : Int, wR noX (dIf (bT (dOp fLt (dVar 1) (dN (f1 fLen) (aCons (dVar 0) aNil)))) (dOp fIxL (dVar 0) (dVar 1)) (dOp fAdd (dC (.int 40)) (dVar 1)) [some (.fz (roD (ns.map PyData.int))), some (.fz (.int i)), none, none, none] st) fun w s => w = .fz (.int o) ∧ s = st := by
    have hl : ∀ s, fLen (.fz (roD (ns.map PyData.int))) s = .ok (.fz (.int (ns.length : Nat))) s := fun s => by unfold fLen; simp
    by_cases c : i < (ns.length : Int)
    · obtain ⟨k, rfl⟩ := Int.eq_ofNat_of_zero_le i0
      have hk : k < ns.length := by omega
      refine ⟨ns[k], ?_⟩
      simp [hl, hk, atI_n]
    · exact ⟨40 + i, by simp [hl, c]⟩
  obtain ⟨o, ho⟩ := own
  have cut : ∃ zs : List Int, QD.cutD (ns.map PyData.int) none (some 3) = zs.map PyData.int ∧ zs.length ≤ 63 := by
    refine ⟨(ns.drop (HT.sIx (ns.map PyData.int).length 0 none)).take (HT.sIx (ns.map PyData.int).length (ns.map PyData.int).length (some 3) - HT.sIx (ns.map PyData.int).length 0 none), ?_, ?_⟩
    · unfold QD.cutD
      rw [List.map_take, List.map_drop]
    · rw [List.length_take, List.length_drop]
      omega
  obtain ⟨zs, ez, lz⟩ := cut
  have sl : ∀ s, fSlL (.fz (roD (ns.map PyData.int))) none (some 3) s = .ok (.own (zs.map PyData.int)) s := fun s => by unfold fSlL; simp [ez]
  have ct : ∀ s, fCat (.own (zs.map PyData.int)) (.own [.int o]) s = .ok (.own ((zs ++ [o]).map PyData.int)) s := fun s => by
    unfold fCat
    simp only [seqW_own]
    rw [if_pos (by rw [List.length_map]; exact sz_le (by simp; omega))]
    simp
  generalize roD (ns.map PyData.int) = ro at *
  unfold F_l_jug d_l_jug
  simp only [wR_nox, wR_fn, wS_sSeq, wS_sSet, List.map_cons, List.map_nil, List.length_cons, List.length_nil, List.replicate, List.cons_append, List.nil_append]
  refine ho.use ?_
  rintro _ s0 ⟨rfl, rfl⟩
  have c1 : cMul 1299709 (i + 2) = true := cMul_ok (nat4000 (b := 1299709) (by omega) (by omega) (by decide +kernel)) (nat4000 (b := 10000) (by omega) (by omega) (by decide +kernel))
  simp [c1, dSl_eq, oNone_eq, oSome_eq, sl, ct, sz_le]
  refine wS_for (fun z : Int => PyData.int z) (zs ++ [o]) (fun k en s => s = s0 ∧ ∃ (m : Int) (v : Option QD.W), en = [some (.fz ro), some (.fz (.int i)), some (.fz (.int o)), some (.fz (.int m)), v] ∧ 0 ≤ m ∧ m ≤ 9223372036854775783 ∧ (0 < k → m < 9223372036854775783)) (by simp) ⟨rfl, _, _, rfl, by omega, by omega, by omega⟩ ?_ ?_
  · rintro k z en s hk ⟨rfl, m, v, rfl, m0, m1, _⟩
    have c2 : cMul m 2862933555777941757 = true := cMul_ok (nat4000 (b := 9223372036854775783) (by omega) (by omega) (by decide +kernel)) (nat4000 (b := 2862933555777941757) (by omega) (by omega) (by decide +kernel))
    have c3 : ∀ y, cMod y 9223372036854775337 = true := fun y => rfl
    have c4 : ∀ y, cMod y 9223372036854775783 = true := fun y => rfl
    unfold b_l_jug_1
    simp [c2, c3, c4]
    have := Int.emod_lt_of_pos (m * 2862933555777941757 + z % 9223372036854775337 + 5) (show (0 : Int) < 9223372036854775783 by decide)
    have := Int.emod_nonneg (m * 2862933555777941757 + z % 9223372036854775337 + 5) (show (9223372036854775783 : Int) ≠ 0 by decide)
    omega
  · rintro en s ⟨rfl, m, v, rfl, m0, m1, m2⟩
    have m3 := m2 (by simp)
    have c5 : cPow 10 18 = true := by decide +kernel
    simp [c5, sz_le]
    split
    · split <;> exact ⟨_, _, ⟨rfl, rfl⟩, by omega, m0, m3, by decide, by decide⟩
    · split <;> exact ⟨_, _, ⟨rfl, rfl⟩, by omega, m0, m3, by decide, by decide⟩
/-! ### tables drawn -/
end K08
/-! LW08: the law. -/
namespace K08
open PySem PySem.Spec PyProof.Rows L2 MG QD MU
theorem jr_tab {n N : Nat} {st s : Sto} {x : Option Ob} (j : JR n st s N) (hn : n ≠ 0) (h : st[0]? = x) : s[0]? = x := by rw [jr_get j (Ne.symm hn)]; exact h
def After (n N : Nat) (st : Sto) (en : En) (s' : Sto) : Prop := ∃ v1 v2 v3 v4 v5 v6 v7 s1 o, en = [some (.loc n), v1, v2, v3, v4, v5, v6, v7, none] ∧ s' = s1 ++ [o] ∧ JR n st s1 N
theorem turn {tt n N : Nat} {st : Sto} {v1 v2 v3 v4 v5 v6 v7 : Option QD.W} (h0 : st[0]? = some (.tab tt LAM)) (hn : n ≠ 0) (j : JAt st n N) (hN : N + 500 < 1000000) :
    wS noX (b_l_right_5 tt [some (.loc n), v1, v2, v3, v4, v5, v6, v7, none] st) (After n (N + 400) st) (fun _ _ => False) (fun _ _ => False) (fun _ _ => False) := by
  have tl := fun (d : D) (W : Wo d) (s : Sto) (M : Nat) (js : JR n st s M) (hM : M ≤ N + 400) => (tail (n := n) W (v1 := v1) (v3 := v3) (v4 := v4) (v5 := v5) (v6 := v6) (v7 := v7) (jr_tab js hn h0)).use (X := noX) (G := After n (N + 400) st) (R := fun _ _ => False) (B := fun _ _ => False) (C := fun _ _ => False) (fun en s' h => by
    obtain ⟨w1, w2, w3, w4, w5, w6, w7, o, rfl, rfl⟩ := h
    exact ⟨_, _, _, _, _, _, _, s, o, rfl, rfl, jr_mono js hM⟩) (fun _ _ h => h) (fun _ _ h => h) (fun _ _ h => h)
  rw [b5_eq]
  generalize T5 tt = T at *
  simp
  refine (pour0 (m := 5) j (by omega) (by decide) (by decide)).use ?_
  rintro _ s1 ⟨⟨a, rfl, a0, a1⟩, j1⟩
  by_cases ca : 0 < a
  · simp [ca]
    refine (drawn j1.2 (by omega)).use ?_
    rintro _ s2 ⟨⟨x, rfl, W⟩, j2⟩
    exact tl _ (wd_wo W) s2 _ (jr_trans j1 j2) (by omega)
  · simp [ca]
    refine (odd_wo j1.2 (by omega)).use ?_
    rintro _ s2 ⟨⟨d, rfl, W⟩, j2⟩
    exact tl _ W s2 _ (jr_trans j1 j2) (by omega)
theorem right {tt : Nat} {st : Sto} {n : Nat} (ht : st[0]? = some (.tab tt LAM)) (hn : n ≠ 0) (j : JAt st n 0) : wR noX (F_l_right tt [.loc n] st) fun w s => w = .fz (.bool true) ∧ s.length = st.length ∧ s[0]? = st[0]? := by
  have hr : r1S [(6 : Int)] = some (rngS 0 6) := r1S_k (n := 6) (by decide)
  unfold F_l_right d_l_right
  simp [hr]
  refine wS_rng (l0 := []) 6 (fun i en s => ∃ v1 v2 v3 v4 v5 v6 v7 s1 os, en = [some (.loc n), v1, v2, v3, v4, v5, v6, v7, none] ∧ s = s1 ++ os ∧ JR n st s1 (400 * i)) ⟨_, _, _, _, _, _, _, st, [], rfl, by rw [List.append_nil], jr_refl j⟩ ?_ ?_
  · rintro i en s hi ⟨v1, v2, v3, v4, v5, v6, v7, s1, os, rfl, rfl, js⟩
    have h1 : (s1 ++ os)[0]? = some (.tab tt LAM) := by
      have := jr_tab js hn ht
      rw [List.getElem?_append_left (List.getElem?_eq_some_iff.mp this).1]; exact this
    simp
    refine (turn h1 hn (jat_app js.2) (by omega)).use ?_ (fun _ _ h => h.elim) (fun _ _ h => h.elim) (fun _ _ h => h.elim)
    rintro en s' ⟨w1, w2, w3, w4, w5, w6, w7, s4, o, rfl, rfl, j4⟩
    obtain ⟨s5, rfl, j5⟩ := jr_app (jat_lt js.2) j4
    exact ⟨_, _, _, _, _, _, _, s5, os ++ [o], rfl, by rw [List.append_assoc], jr_mono (jr_trans js j5) (by omega)⟩
  · rintro en s ⟨v1, v2, v3, v4, v5, v6, v7, s1, os, rfl, rfl, js⟩
    have l1 := jr_len js
    have tk : List.take st.length (s1 ++ os) = s1 := by rw [← l1, List.take_left']; rfl
    simp [tk]
    exact ⟨l1, by rw [jr_tab js hn ht, ht]⟩
theorem law_ok {t_l_right : Nat} (ns : List Int) (h : ns.length ≤ 63) (hb : ∀ z ∈ ns, Builtin.Int.intBits z ≤ 1048576) : F_law t_l_right [.fz (roD (ns.map PyData.int))] (TopT.tabO [(t_l_right, (("_law_right" : Str) ++ ".<locals>." ++ "<lambda>"))]) = .ok (.fz (.bool true)) (TopT.tabO [(t_l_right, (("_law_right" : Str) ++ ".<locals>." ++ "<lambda>"))]) := by
  apply wR.eq
  have hl : ∀ s, fLen (.fz (roD (ns.map PyData.int))) s = .ok (.fz (.int (ns.length : Nat))) s := fun s => by unfold fLen; simp
  have jg := fun (i : Nat) (hi : i < 63) s => jug h (i := (i : Int)) (by omega) (by omega) (st := s)
  generalize roD (ns.map PyData.int) = ro at *
  have cnt : ∃ k : Nat, (if 2 < (if (5 : Int) < (ns.length : Int) then 5 else (ns.length : Int)) then (if (5 : Int) < (ns.length : Int) then 5 else (ns.length : Int)) else 2) = (k : Int) ∧ k ≤ 5 := by
    refine ⟨(if 2 < (if (5 : Int) < (ns.length : Int) then 5 else (ns.length : Int)) then (if (5 : Int) < (ns.length : Int) then 5 else (ns.length : Int)) else 2).toNat, ?_, ?_⟩ <;> split <;> split <;> omega
  obtain ⟨k, hk, k63⟩ := cnt
  have hr : r1S [(k : Int)] = some (rngS 0 k) := r1S_k (by omega)
  have tl : (TopT.tabO [(t_l_right, (("_law_right" : Str) ++ ".<locals>." ++ "<lambda>"))]).length = 1 := rfl
  have tg : (TopT.tabO [(t_l_right, (("_law_right" : Str) ++ ".<locals>." ++ "<lambda>"))])[0]? = some (.tab t_l_right (("_law_right" : Str) ++ ".<locals>." ++ "<lambda>")) := rfl
  generalize TopT.tabO [(t_l_right, (("_law_right" : Str) ++ ".<locals>." ++ "<lambda>"))] = S0 at *
  have out : ∀ s : Sto, 0 < s.length → s[0]? = S0[0]? → s.take S0.length = S0 := fun s hs e => by
    rw [tl]
    apply List.ext_getElem?
    intro i
    by_cases c : i = 0
    · subst c; rw [List.getElem?_take_of_lt (by decide)]; exact e
    · rw [List.getElem?_eq_none (by rw [List.length_take]; omega), List.getElem?_eq_none (by omega)]
  unfold F_law d_law
  simp [hl, hk, hr]
  refine wS_rng (l0 := []) k (fun i en s => s.length = i + 1 ∧ s[0]? = S0[0]? ∧ ∃ v, en = [some (.fz ro), v]) ⟨tl, rfl, _, rfl⟩ ?_ (fun en s hi => by
    obtain ⟨h1, h2, _⟩ := hi
    simp [out s (by omega) h2])
  rintro i en s hi ⟨hs, h0, v, rfl⟩
  unfold b_law_1
  simp
  refine (jg i (by omega) s).use ?_
  rintro _ s ⟨rfl, a, b, rfl, ok⟩
  simp
  have j : JAt (s ++ [.lst [.int a, .int b, .int 0]]) s.length 0 := ⟨a, b, 0, get_last rfl, ok⟩
  have g0 : (s ++ [.lst [.int a, .int b, .int 0]])[0]? = s[0]? := List.getElem?_append_left (by omega)
  refine (right (by rw [g0, h0, tg]) (by omega) j).use ?_
  rintro _ s' ⟨rfl, ls, l0⟩
  rw [g0, h0] at l0
  simp [ls, hs]
  rw [← l0]
  exact (List.getElem?_eq_getElem _).symm
end K08
namespace K08
open PySem PySem.Spec PyProof.Rows L2 MG QD
theorem fb_is_integer {K : PySem.W.Frag} {f : Addr} {fd : FuncData} (F : FunD K "is_integer" "is_integer" (defArgs s_is_integer) (defBody s_is_integer) (defScope s_is_integer) [.non] [] f fd) : Binds K fd ["value", "least", "most"] [] := by
  obtain ⟨ds, r, h⟩ := F.binds1 (ps := ["value", "least", "most"]) 3 1 (by simp) rfl (fun T kV doc pm an cdv ct us its l1 l2 => by
    obtain ⟨a0, a1, a2, rfl⟩ : ∃ a0 a1 a2, us = [a0, a1, a2] := by
      match us, l1 with
      | [a0, a1, a2], _ => exact ⟨a0, a1, a2, rfl⟩
    obtain ⟨e0, rfl⟩ : ∃ e0, its = [e0] := by
      match its, l2 with
      | [e0], _ => exact ⟨e0, rfl⟩
    exact ⟨_, rfl, rfl⟩)
  cases r
  exact h
theorem fb_Fairu_initu {K : PySem.W.Frag} {f : Addr} {fd : FuncData} (F : FunD K "__init__" "Fair.__init__" (defArgs s_Fairu_initu) (defBody s_Fairu_initu) (defScope s_Fairu_initu) [.non] [] f fd) : Binds K fd ["self", "hosts", "guests", "tables"] [] := by
  obtain ⟨ds, r, h⟩ := F.binds1 (ps := ["self", "hosts", "guests", "tables"]) 4 1 (by simp) rfl (fun T kV doc pm an cdv ct us its l1 l2 => by
    obtain ⟨a0, a1, a2, a3, rfl⟩ : ∃ a0 a1 a2 a3, us = [a0, a1, a2, a3] := by
      match us, l1 with
      | [a0, a1, a2, a3], _ => exact ⟨a0, a1, a2, a3, rfl⟩
    obtain ⟨e0, rfl⟩ : ∃ e0, its = [e0] := by
      match its, l2 with
      | [e0], _ => exact ⟨e0, rfl⟩
    exact ⟨_, rfl, rfl⟩)
  cases r
  exact h
theorem fbd_Fairu_initu_1 {K : PySem.W.Frag} {f : Addr} {fd : FuncData} (F : FunD K "__init__" "Fair.__init__" (defArgs s_Fairu_initu) (defBody s_Fairu_initu) (defScope s_Fairu_initu) [.non] [] f fd) : ∃ ds, Vals [.non] ds ∧ Binds K fd ["self", "hosts", "guests", "tables"] ds :=
  F.binds1 (ps := ["self", "hosts", "guests", "tables"]) 3 0 (by simp) rfl (fun T kV doc pm an cdv ct us its l1 l2 => by
    obtain ⟨a0, a1, a2, rfl⟩ : ∃ a0 a1 a2, us = [a0, a1, a2] := by
      match us, l1 with
      | [a0, a1, a2], _ => exact ⟨a0, a1, a2, rfl⟩
    obtain ⟨e0, rfl⟩ : ∃ e0, its = [e0] := by
      match its, l2 with
      | [e0], _ => exact ⟨e0, rfl⟩
    exact ⟨_, rfl, rfl⟩)
theorem all_mk {l : PySem.W.OpenLaw} {w : World} {K : PySem.W.Frag} {h : Heap} {mg : Str → Option Value} {fa : Addr} (X : K.In h) (G : h.Ns mainGlobals mg) (hfa : mg "law" = some (.ref fa))
    {C_Fair dd_is_integer f_is_integer f_is_name f_is_pair f_is_member f_fault f_names_of f_text_of f_number f_parts_of dd_Fairu_initu f_Fairu_initu pc_Fair_read f_Fair_read f_Fairu_containsu f_Fairu_stru f_l_jug f_l_pour f_l_bases f_l_is_name f_l_odd f_l_class f_l_keeps f_l_told f_l_drawn f_l_right cc_l_right P_l_right f_law C_WrongValue C_InvalidText C_InvalidNumber C_InvalidName C_InvalidTables C_InvalidRound C_InvalidSchedule C_InvalidWish C_InvalidIndex C_NotAFair C_InvalidHosts C_InvalidGuests C_InvalidMeetings C_InvalidUrgent C_InvalidGrowth C_InvalidChanges C_InvalidAsked C_WrongName C_UnknownName C_NoAnswer C_TooFewRounds C_TooMany C_NothingToUndo C_Broken i_InvalidText i_InvalidHosts i_InvalidGuests : Addr}
    {odd_is_integer od_is_integer an_is_integer od_is_name an_is_name od_is_pair an_is_pair od_is_member an_is_member od_fault an_fault od_names_of an_names_of od_text_of an_text_of od_number an_number od_parts_of an_parts_of odd_Fairu_initu od_Fairu_initu an_Fairu_initu od_Fair_read an_Fair_read od_Fairu_containsu an_Fairu_containsu od_Fairu_stru an_Fairu_stru od_l_jug an_l_jug od_l_pour an_l_pour od_l_bases an_l_bases od_l_is_name an_l_is_name od_l_odd an_l_odd od_l_class an_l_class od_l_keeps an_l_keeps od_l_told an_l_told od_l_drawn an_l_drawn od_l_right an_l_right odc_l_right od_law an_law oE_InvalidText aE_InvalidText oE_InvalidHosts aE_InvalidHosts oE_InvalidGuests aE_InvalidGuests : Option Addr} {sld_is_integer sl_is_integer sl_is_name sl_is_pair sl_is_member sl_fault sl_names_of sl_text_of sl_number sl_parts_of sld_Fairu_initu sl_Fairu_initu sl_Fair_read sl_Fairu_containsu sl_Fairu_stru sl_l_jug sl_l_pour sl_l_bases sl_l_is_name sl_l_odd sl_l_class sl_l_keeps sl_l_told sl_l_drawn sl_l_right slc_l_right sl_law sE_InvalidText sE_InvalidHosts sE_InvalidGuests : Array (Option Value)}
    {ocd_is_integer oc_is_integer kV_is_integer dc_is_integer pm_is_integer cd_is_integer ct_is_integer oc_is_name kV_is_name dc_is_name pm_is_name cd_is_name ct_is_name oc_is_pair kV_is_pair dc_is_pair pm_is_pair cd_is_pair ct_is_pair oc_is_member kV_is_member dc_is_member pm_is_member cd_is_member ct_is_member oc_fault kV_fault dc_fault pm_fault cd_fault ct_fault oc_names_of kV_names_of dc_names_of pm_names_of cd_names_of ct_names_of oc_text_of kV_text_of dc_text_of pm_text_of cd_text_of ct_text_of oc_number kV_number dc_number pm_number cd_number ct_number oc_parts_of kV_parts_of dc_parts_of pm_parts_of cd_parts_of ct_parts_of ocd_Fairu_initu oc_Fairu_initu kV_Fairu_initu dc_Fairu_initu pm_Fairu_initu cd_Fairu_initu ct_Fairu_initu oc_Fair_read kV_Fair_read dc_Fair_read pm_Fair_read cd_Fair_read ct_Fair_read oc_Fairu_containsu kV_Fairu_containsu dc_Fairu_containsu pm_Fairu_containsu cd_Fairu_containsu ct_Fairu_containsu oc_Fairu_stru kV_Fairu_stru dc_Fairu_stru pm_Fairu_stru cd_Fairu_stru ct_Fairu_stru oc_l_jug kV_l_jug dc_l_jug pm_l_jug cd_l_jug ct_l_jug oc_l_pour kV_l_pour dc_l_pour pm_l_pour cd_l_pour ct_l_pour oc_l_bases kV_l_bases dc_l_bases pm_l_bases cd_l_bases ct_l_bases oc_l_is_name kV_l_is_name dc_l_is_name pm_l_is_name cd_l_is_name ct_l_is_name oc_l_odd kV_l_odd dc_l_odd pm_l_odd cd_l_odd ct_l_odd oc_l_class kV_l_class dc_l_class pm_l_class cd_l_class ct_l_class oc_l_keeps kV_l_keeps dc_l_keeps pm_l_keeps cd_l_keeps ct_l_keeps oc_l_told kV_l_told dc_l_told pm_l_told cd_l_told ct_l_told oc_l_drawn kV_l_drawn dc_l_drawn pm_l_drawn cd_l_drawn ct_l_drawn oc_l_right kV_l_right dc_l_right pm_l_right ct_l_right oc_law kV_law dc_law pm_law cd_law ct_law ocE_InvalidText dcE_InvalidText pmE_InvalidText cdE_InvalidText ctE_InvalidText ocE_InvalidHosts dcE_InvalidHosts pmE_InvalidHosts cdE_InvalidHosts ctE_InvalidHosts ocE_InvalidGuests dcE_InvalidGuests pmE_InvalidGuests cdE_InvalidGuests ctE_InvalidGuests : Value} {p1_InvalidText p2_InvalidText q1_InvalidText q2_InvalidText q3_InvalidText q4_InvalidText p1_InvalidHosts p2_InvalidHosts q1_InvalidHosts q2_InvalidHosts q3_InvalidHosts q4_InvalidHosts p1_InvalidGuests p2_InvalidGuests q1_InvalidGuests q2_InvalidGuests q3_InvalidGuests q4_InvalidGuests : Pos} {vsc_l_right : Array Value} {nd_is_integer nd_Fairu_initu : Nat} {rest_Fair_read : List Value} {tk__LONGEST_NAME tk__FIRST_SIGNS tk__SIGNS tk_MOST_BOUND tk_MOST_TABLES tk_MOST_SIDE : Tok}
    (aC_Fair : PySem.W.nsIn K mainGlobals "Fair" = some (some (.ref C_Fair)))
    (a_is_integer : PySem.W.nsIn K mainGlobals "is_integer" = some (some (.ref f_is_integer)))
    (l_is_integer : K.lookup f_is_integer = some ⟨oc_is_integer, od_is_integer, .func (PySem.W.fnOf "is_integer" "is_integer" (defArgs s_is_integer) (defBody s_is_integer) (defScope s_is_integer) (.ref dd_is_integer) kV_is_integer dc_is_integer pm_is_integer an_is_integer cd_is_integer ct_is_integer), sl_is_integer⟩)
    (c_is_integer : PySem.W.codeIn K cd_is_integer "is_integer" = true)
    (k_is_integer : PySem.W.keepIn K (.ref f_is_integer) = true)
    (ld_is_integer : K.lookup dd_is_integer = some ⟨ocd_is_integer, odd_is_integer, .seq #[Value.none] nd_is_integer, sld_is_integer⟩)
    (a_is_name : PySem.W.nsIn K mainGlobals "is_name" = some (some (.ref f_is_name)))
    (l_is_name : K.lookup f_is_name = some ⟨oc_is_name, od_is_name, .func (PySem.W.fnOf "is_name" "is_name" (defArgs s_is_name) (defBody s_is_name) (defScope s_is_name) .none kV_is_name dc_is_name pm_is_name an_is_name cd_is_name ct_is_name), sl_is_name⟩)
    (c_is_name : PySem.W.codeIn K cd_is_name "is_name" = true)
    (k_is_name : PySem.W.keepIn K (.ref f_is_name) = true)
    (a_is_pair : PySem.W.nsIn K mainGlobals "is_pair" = some (some (.ref f_is_pair)))
    (l_is_pair : K.lookup f_is_pair = some ⟨oc_is_pair, od_is_pair, .func (PySem.W.fnOf "is_pair" "is_pair" (defArgs s_is_pair) (defBody s_is_pair) (defScope s_is_pair) .none kV_is_pair dc_is_pair pm_is_pair an_is_pair cd_is_pair ct_is_pair), sl_is_pair⟩)
    (c_is_pair : PySem.W.codeIn K cd_is_pair "is_pair" = true)
    (k_is_pair : PySem.W.keepIn K (.ref f_is_pair) = true)
    (a_is_member : PySem.W.nsIn K mainGlobals "_is_member" = some (some (.ref f_is_member)))
    (l_is_member : K.lookup f_is_member = some ⟨oc_is_member, od_is_member, .func (PySem.W.fnOf "_is_member" "_is_member" (defArgs s_is_member) (defBody s_is_member) (defScope s_is_member) .none kV_is_member dc_is_member pm_is_member an_is_member cd_is_member ct_is_member), sl_is_member⟩)
    (c_is_member : PySem.W.codeIn K cd_is_member "_is_member" = true)
    (k_is_member : PySem.W.keepIn K (.ref f_is_member) = true)
    (a_fault : PySem.W.nsIn K mainGlobals "_fault" = some (some (.ref f_fault)))
    (l_fault : K.lookup f_fault = some ⟨oc_fault, od_fault, .func (PySem.W.fnOf "_fault" "_fault" (defArgs s_fault) (defBody s_fault) (defScope s_fault) .none kV_fault dc_fault pm_fault an_fault cd_fault ct_fault), sl_fault⟩)
    (c_fault : PySem.W.codeIn K cd_fault "_fault" = true)
    (k_fault : PySem.W.keepIn K (.ref f_fault) = true)
    (a_names_of : PySem.W.nsIn K mainGlobals "_names_of" = some (some (.ref f_names_of)))
    (l_names_of : K.lookup f_names_of = some ⟨oc_names_of, od_names_of, .func (PySem.W.fnOf "_names_of" "_names_of" (defArgs s_names_of) (defBody s_names_of) (defScope s_names_of) .none kV_names_of dc_names_of pm_names_of an_names_of cd_names_of ct_names_of), sl_names_of⟩)
    (c_names_of : PySem.W.codeIn K cd_names_of "_names_of" = true)
    (k_names_of : PySem.W.keepIn K (.ref f_names_of) = true)
    (a_text_of : PySem.W.nsIn K mainGlobals "_text_of" = some (some (.ref f_text_of)))
    (l_text_of : K.lookup f_text_of = some ⟨oc_text_of, od_text_of, .func (PySem.W.fnOf "_text_of" "_text_of" (defArgs s_text_of) (defBody s_text_of) (defScope s_text_of) .none kV_text_of dc_text_of pm_text_of an_text_of cd_text_of ct_text_of), sl_text_of⟩)
    (c_text_of : PySem.W.codeIn K cd_text_of "_text_of" = true)
    (k_text_of : PySem.W.keepIn K (.ref f_text_of) = true)
    (a_number : PySem.W.nsIn K mainGlobals "_number" = some (some (.ref f_number)))
    (l_number : K.lookup f_number = some ⟨oc_number, od_number, .func (PySem.W.fnOf "_number" "_number" (defArgs s_number) (defBody s_number) (defScope s_number) .none kV_number dc_number pm_number an_number cd_number ct_number), sl_number⟩)
    (c_number : PySem.W.codeIn K cd_number "_number" = true)
    (k_number : PySem.W.keepIn K (.ref f_number) = true)
    (a_parts_of : PySem.W.nsIn K mainGlobals "_parts_of" = some (some (.ref f_parts_of)))
    (l_parts_of : K.lookup f_parts_of = some ⟨oc_parts_of, od_parts_of, .func (PySem.W.fnOf "_parts_of" "_parts_of" (defArgs s_parts_of) (defBody s_parts_of) (defScope s_parts_of) .none kV_parts_of dc_parts_of pm_parts_of an_parts_of cd_parts_of ct_parts_of), sl_parts_of⟩)
    (c_parts_of : PySem.W.codeIn K cd_parts_of "_parts_of" = true)
    (k_parts_of : PySem.W.keepIn K (.ref f_parts_of) = true)
    (a_Fairu_initu : PySem.W.findIn K (.ref C_Fair) "__init__" = some (some (.ref f_Fairu_initu)))
    (i_Fairu_initu : PySem.W.isFn K (.ref f_Fairu_initu) = true)
    (l_Fairu_initu : K.lookup f_Fairu_initu = some ⟨oc_Fairu_initu, od_Fairu_initu, .func (PySem.W.fnOf "__init__" "Fair.__init__" (defArgs s_Fairu_initu) (defBody s_Fairu_initu) (defScope s_Fairu_initu) (.ref dd_Fairu_initu) kV_Fairu_initu dc_Fairu_initu pm_Fairu_initu an_Fairu_initu cd_Fairu_initu ct_Fairu_initu), sl_Fairu_initu⟩)
    (c_Fairu_initu : PySem.W.codeIn K cd_Fairu_initu "Fair.__init__" = true)
    (k_Fairu_initu : PySem.W.keepIn K (.ref f_Fairu_initu) = true)
    (ld_Fairu_initu : K.lookup dd_Fairu_initu = some ⟨ocd_Fairu_initu, odd_Fairu_initu, .seq #[Value.none] nd_Fairu_initu, sld_Fairu_initu⟩)
    (a_Fair_read : PySem.W.findCls K (.ref C_Fair) (.type "type") "read" = some (.get (.builtin "classmethod.__get__") (.ref pc_Fair_read) .none (.ref C_Fair)))
    (r_Fair_read : PySem.W.recIn K pc_Fair_read "classmethod" = some (.ref f_Fair_read :: rest_Fair_read))
    (i_Fair_read : PySem.W.fnIn K f_Fair_read = true)
    (rd_Fair : PySem.W.readsIn K C_Fair (.type "type") = true)
    (gat_Fair : PySem.W.specialIn K (.ref C_Fair) "__getattribute__" = some (some (.builtin "type.__getattribute__")))
    (l_Fair_read : K.lookup f_Fair_read = some ⟨oc_Fair_read, od_Fair_read, .func (PySem.W.fnOf "read" "Fair.read" (defArgs s_Fair_read) (defBody s_Fair_read) (defScope s_Fair_read) .none kV_Fair_read dc_Fair_read pm_Fair_read an_Fair_read cd_Fair_read ct_Fair_read), sl_Fair_read⟩)
    (c_Fair_read : PySem.W.codeIn K cd_Fair_read "Fair.read" = true)
    (k_Fair_read : PySem.W.keepIn K (.ref f_Fair_read) = true)
    (a_Fairu_containsu : PySem.W.findIn K (.ref C_Fair) "__contains__" = some (some (.ref f_Fairu_containsu)))
    (i_Fairu_containsu : PySem.W.isFn K (.ref f_Fairu_containsu) = true)
    (l_Fairu_containsu : K.lookup f_Fairu_containsu = some ⟨oc_Fairu_containsu, od_Fairu_containsu, .func (PySem.W.fnOf "__contains__" "Fair.__contains__" (defArgs s_Fairu_containsu) (defBody s_Fairu_containsu) (defScope s_Fairu_containsu) .none kV_Fairu_containsu dc_Fairu_containsu pm_Fairu_containsu an_Fairu_containsu cd_Fairu_containsu ct_Fairu_containsu), sl_Fairu_containsu⟩)
    (c_Fairu_containsu : PySem.W.codeIn K cd_Fairu_containsu "Fair.__contains__" = true)
    (k_Fairu_containsu : PySem.W.keepIn K (.ref f_Fairu_containsu) = true)
    (a_Fairu_stru : PySem.W.findIn K (.ref C_Fair) "__str__" = some (some (.ref f_Fairu_stru)))
    (i_Fairu_stru : PySem.W.isFn K (.ref f_Fairu_stru) = true)
    (l_Fairu_stru : K.lookup f_Fairu_stru = some ⟨oc_Fairu_stru, od_Fairu_stru, .func (PySem.W.fnOf "__str__" "Fair.__str__" (defArgs s_Fairu_stru) (defBody s_Fairu_stru) (defScope s_Fairu_stru) .none kV_Fairu_stru dc_Fairu_stru pm_Fairu_stru an_Fairu_stru cd_Fairu_stru ct_Fairu_stru), sl_Fairu_stru⟩)
    (c_Fairu_stru : PySem.W.codeIn K cd_Fairu_stru "Fair.__str__" = true)
    (k_Fairu_stru : PySem.W.keepIn K (.ref f_Fairu_stru) = true)
    (a_l_jug : PySem.W.nsIn K mainGlobals "_law_jug" = some (some (.ref f_l_jug)))
    (l_l_jug : K.lookup f_l_jug = some ⟨oc_l_jug, od_l_jug, .func (PySem.W.fnOf "_law_jug" "_law_jug" (defArgs s_l_jug) (defBody s_l_jug) (defScope s_l_jug) .none kV_l_jug dc_l_jug pm_l_jug an_l_jug cd_l_jug ct_l_jug), sl_l_jug⟩)
    (c_l_jug : PySem.W.codeIn K cd_l_jug "_law_jug" = true)
    (k_l_jug : PySem.W.keepIn K (.ref f_l_jug) = true)
    (a_l_pour : PySem.W.nsIn K mainGlobals "_law_pour" = some (some (.ref f_l_pour)))
    (l_l_pour : K.lookup f_l_pour = some ⟨oc_l_pour, od_l_pour, .func (PySem.W.fnOf "_law_pour" "_law_pour" (defArgs s_l_pour) (defBody s_l_pour) (defScope s_l_pour) .none kV_l_pour dc_l_pour pm_l_pour an_l_pour cd_l_pour ct_l_pour), sl_l_pour⟩)
    (c_l_pour : PySem.W.codeIn K cd_l_pour "_law_pour" = true)
    (k_l_pour : PySem.W.keepIn K (.ref f_l_pour) = true)
    (a_l_bases : PySem.W.nsIn K mainGlobals "_law_bases" = some (some (.ref f_l_bases)))
    (l_l_bases : K.lookup f_l_bases = some ⟨oc_l_bases, od_l_bases, .func (PySem.W.fnOf "_law_bases" "_law_bases" (defArgs s_l_bases) (defBody s_l_bases) (defScope s_l_bases) .none kV_l_bases dc_l_bases pm_l_bases an_l_bases cd_l_bases ct_l_bases), sl_l_bases⟩)
    (c_l_bases : PySem.W.codeIn K cd_l_bases "_law_bases" = true)
    (k_l_bases : PySem.W.keepIn K (.ref f_l_bases) = true)
    (a_l_is_name : PySem.W.nsIn K mainGlobals "_law_is_name" = some (some (.ref f_l_is_name)))
    (l_l_is_name : K.lookup f_l_is_name = some ⟨oc_l_is_name, od_l_is_name, .func (PySem.W.fnOf "_law_is_name" "_law_is_name" (defArgs s_l_is_name) (defBody s_l_is_name) (defScope s_l_is_name) .none kV_l_is_name dc_l_is_name pm_l_is_name an_l_is_name cd_l_is_name ct_l_is_name), sl_l_is_name⟩)
    (c_l_is_name : PySem.W.codeIn K cd_l_is_name "_law_is_name" = true)
    (k_l_is_name : PySem.W.keepIn K (.ref f_l_is_name) = true)
    (a_l_odd : PySem.W.nsIn K mainGlobals "_law_odd" = some (some (.ref f_l_odd)))
    (l_l_odd : K.lookup f_l_odd = some ⟨oc_l_odd, od_l_odd, .func (PySem.W.fnOf "_law_odd" "_law_odd" (defArgs s_l_odd) (defBody s_l_odd) (defScope s_l_odd) .none kV_l_odd dc_l_odd pm_l_odd an_l_odd cd_l_odd ct_l_odd), sl_l_odd⟩)
    (c_l_odd : PySem.W.codeIn K cd_l_odd "_law_odd" = true)
    (k_l_odd : PySem.W.keepIn K (.ref f_l_odd) = true)
    (a_l_class : PySem.W.nsIn K mainGlobals "_law_class" = some (some (.ref f_l_class)))
    (l_l_class : K.lookup f_l_class = some ⟨oc_l_class, od_l_class, .func (PySem.W.fnOf "_law_class" "_law_class" (defArgs s_l_class) (defBody s_l_class) (defScope s_l_class) .none kV_l_class dc_l_class pm_l_class an_l_class cd_l_class ct_l_class), sl_l_class⟩)
    (c_l_class : PySem.W.codeIn K cd_l_class "_law_class" = true)
    (k_l_class : PySem.W.keepIn K (.ref f_l_class) = true)
    (a_l_keeps : PySem.W.nsIn K mainGlobals "_law_keeps" = some (some (.ref f_l_keeps)))
    (l_l_keeps : K.lookup f_l_keeps = some ⟨oc_l_keeps, od_l_keeps, .func (PySem.W.fnOf "_law_keeps" "_law_keeps" (defArgs s_l_keeps) (defBody s_l_keeps) (defScope s_l_keeps) .none kV_l_keeps dc_l_keeps pm_l_keeps an_l_keeps cd_l_keeps ct_l_keeps), sl_l_keeps⟩)
    (c_l_keeps : PySem.W.codeIn K cd_l_keeps "_law_keeps" = true)
    (k_l_keeps : PySem.W.keepIn K (.ref f_l_keeps) = true)
    (a_l_told : PySem.W.nsIn K mainGlobals "_law_told" = some (some (.ref f_l_told)))
    (l_l_told : K.lookup f_l_told = some ⟨oc_l_told, od_l_told, .func (PySem.W.fnOf "_law_told" "_law_told" (defArgs s_l_told) (defBody s_l_told) (defScope s_l_told) .none kV_l_told dc_l_told pm_l_told an_l_told cd_l_told ct_l_told), sl_l_told⟩)
    (c_l_told : PySem.W.codeIn K cd_l_told "_law_told" = true)
    (k_l_told : PySem.W.keepIn K (.ref f_l_told) = true)
    (a_l_drawn : PySem.W.nsIn K mainGlobals "_law_drawn" = some (some (.ref f_l_drawn)))
    (l_l_drawn : K.lookup f_l_drawn = some ⟨oc_l_drawn, od_l_drawn, .func (PySem.W.fnOf "_law_drawn" "_law_drawn" (defArgs s_l_drawn) (defBody s_l_drawn) (defScope s_l_drawn) .none kV_l_drawn dc_l_drawn pm_l_drawn an_l_drawn cd_l_drawn ct_l_drawn), sl_l_drawn⟩)
    (c_l_drawn : PySem.W.codeIn K cd_l_drawn "_law_drawn" = true)
    (k_l_drawn : PySem.W.keepIn K (.ref f_l_drawn) = true)
    (a_l_right : PySem.W.nsIn K mainGlobals "_law_right" = some (some (.ref f_l_right)))
    (l_l_right : K.lookup f_l_right = some ⟨oc_l_right, od_l_right, .func (PySem.W.fnOf "_law_right" "_law_right" (defArgs s_l_right) (defBody s_l_right) (defScope s_l_right) .none kV_l_right dc_l_right pm_l_right an_l_right (.ref cc_l_right) ct_l_right), sl_l_right⟩)
    (c_l_right : PySem.W.codeIn K (.ref cc_l_right) "_law_right" = true)
    (lc_l_right : K.lookup cc_l_right = some ⟨.type "code", odc_l_right, .fields vsc_l_right, slc_l_right⟩)
    (tp_l_right : (vsc_l_right[11]? : Option Value) = some (.ref P_l_right))
    (hc_l_right : PySem.W.codeHdIn K cc_l_right P_l_right = true)
    (nt_l_right : K.lookup P_l_right = none)
    (ht_l_right : h.get? P_l_right = some TopT.emptyTab)
    (k_l_right : PySem.W.keepIn K (.ref f_l_right) = true)
    (a_law : PySem.W.nsIn K mainGlobals "law" = some (some (.ref f_law)))
    (l_law : K.lookup f_law = some ⟨oc_law, od_law, .func (PySem.W.fnOf "law" "law" (defArgs s_law) (defBody s_law) (defScope s_law) .none kV_law dc_law pm_law an_law cd_law ct_law), sl_law⟩)
    (c_law : PySem.W.codeIn K cd_law "law" = true)
    (k_law : PySem.W.keepIn K (.ref f_law) = true)
    (pg_Fair : PySem.W.plainGet K C_Fair Str.empty = true)
    (hd_Fair : PySem.W.hasDictIn K C_Fair = true)
    (po_Fair : PySem.W.plainOver K C_Fair = true)
    (sa_Fair : PySem.W.findIn K (.ref C_Fair) "__setattr__" = some (some (.builtin "object.__setattr__")))
    (mk_Fair : PySem.W.makesIn K C_Fair = true)
    (kc_Fair : PySem.W.keepIn K (.ref C_Fair) = true)
    (na_hosts_Fair : PySem.W.findIn K (.ref C_Fair) "_hosts" = some none)
    (na_guests_Fair : PySem.W.findIn K (.ref C_Fair) "_guests" = some none)
    (na_tables_Fair : PySem.W.findIn K (.ref C_Fair) "_tables" = some none)
    (na_names_Fair : PySem.W.findIn K (.ref C_Fair) "_names" = some none)
    (na_text_Fair : PySem.W.findIn K (.ref C_Fair) "_text" = some none)
    (ha_Fair : PySem.W.findIn K (.ref C_Fair) "__class__" = some (some (.builtin "object.__class__")))
    (hn_Fair : PySem.W.specialIn K (.builtin "object.__class__") "__get__" = some (some (.builtin "getset_descriptor.__get__")))
    (htk_Fair : PySem.W.takesIn K (.builtin "object.__class__") = some true)
    (hm_Fair : PySem.W.mroIn K C_Fair (.type "object") = some true)
    (kC_Fair : PySem.W.kitOne K (.ref C_Fair) (.ref C_Fair) = some true)
    (kb0_Fair : PySem.W.kitOne K (.type "NoneType") (.ref C_Fair) = some false)
    (kb1_Fair : PySem.W.kitOne K (.type "bool") (.ref C_Fair) = some false)
    (kb2_Fair : PySem.W.kitOne K (.type "int") (.ref C_Fair) = some false)
    (kb3_Fair : PySem.W.kitOne K (.type "str") (.ref C_Fair) = some false)
    (kb4_Fair : PySem.W.kitOne K (.type "list") (.ref C_Fair) = some false)
    (kb5_Fair : PySem.W.kitOne K (.type "tuple") (.ref C_Fair) = some false)
    (kb6_Fair : PySem.W.kitOne K (.type "dict") (.ref C_Fair) = some false)
    (ko0_Fair : PySem.W.kitOne K (.ref C_Fair) (.type "NoneType") = some false)
    (ko1_Fair : PySem.W.kitOne K (.ref C_Fair) (.type "bool") = some false)
    (ko2_Fair : PySem.W.kitOne K (.ref C_Fair) (.type "int") = some false)
    (ko3_Fair : PySem.W.kitOne K (.ref C_Fair) (.type "str") = some false)
    (ko4_Fair : PySem.W.kitOne K (.ref C_Fair) (.type "list") = some false)
    (ko5_Fair : PySem.W.kitOne K (.ref C_Fair) (.type "tuple") = some false)
    (ko6_Fair : PySem.W.kitOne K (.ref C_Fair) (.type "dict") = some false)
    (aC_WrongValue : PySem.W.nsIn K mainGlobals "WrongValue" = some (some (.ref C_WrongValue)))
    (aC_InvalidText : PySem.W.nsIn K mainGlobals "InvalidText" = some (some (.ref C_InvalidText)))
    (aC_InvalidNumber : PySem.W.nsIn K mainGlobals "InvalidNumber" = some (some (.ref C_InvalidNumber)))
    (aC_InvalidName : PySem.W.nsIn K mainGlobals "InvalidName" = some (some (.ref C_InvalidName)))
    (aC_InvalidTables : PySem.W.nsIn K mainGlobals "InvalidTables" = some (some (.ref C_InvalidTables)))
    (aC_InvalidRound : PySem.W.nsIn K mainGlobals "InvalidRound" = some (some (.ref C_InvalidRound)))
    (aC_InvalidSchedule : PySem.W.nsIn K mainGlobals "InvalidSchedule" = some (some (.ref C_InvalidSchedule)))
    (aC_InvalidWish : PySem.W.nsIn K mainGlobals "InvalidWish" = some (some (.ref C_InvalidWish)))
    (aC_InvalidIndex : PySem.W.nsIn K mainGlobals "InvalidIndex" = some (some (.ref C_InvalidIndex)))
    (aC_NotAFair : PySem.W.nsIn K mainGlobals "NotAFair" = some (some (.ref C_NotAFair)))
    (aC_InvalidHosts : PySem.W.nsIn K mainGlobals "InvalidHosts" = some (some (.ref C_InvalidHosts)))
    (aC_InvalidGuests : PySem.W.nsIn K mainGlobals "InvalidGuests" = some (some (.ref C_InvalidGuests)))
    (aC_InvalidMeetings : PySem.W.nsIn K mainGlobals "InvalidMeetings" = some (some (.ref C_InvalidMeetings)))
    (aC_InvalidUrgent : PySem.W.nsIn K mainGlobals "InvalidUrgent" = some (some (.ref C_InvalidUrgent)))
    (aC_InvalidGrowth : PySem.W.nsIn K mainGlobals "InvalidGrowth" = some (some (.ref C_InvalidGrowth)))
    (aC_InvalidChanges : PySem.W.nsIn K mainGlobals "InvalidChanges" = some (some (.ref C_InvalidChanges)))
    (aC_InvalidAsked : PySem.W.nsIn K mainGlobals "InvalidAsked" = some (some (.ref C_InvalidAsked)))
    (aC_WrongName : PySem.W.nsIn K mainGlobals "WrongName" = some (some (.ref C_WrongName)))
    (aC_UnknownName : PySem.W.nsIn K mainGlobals "UnknownName" = some (some (.ref C_UnknownName)))
    (aC_NoAnswer : PySem.W.nsIn K mainGlobals "NoAnswer" = some (some (.ref C_NoAnswer)))
    (aC_TooFewRounds : PySem.W.nsIn K mainGlobals "TooFewRounds" = some (some (.ref C_TooFewRounds)))
    (aC_TooMany : PySem.W.nsIn K mainGlobals "TooMany" = some (some (.ref C_TooMany)))
    (aC_NothingToUndo : PySem.W.nsIn K mainGlobals "NothingToUndo" = some (some (.ref C_NothingToUndo)))
    (aC_Broken : PySem.W.nsIn K mainGlobals "Broken" = some (some (.ref C_Broken)))
    (iC_InvalidText : PySem.W.findIn K (.ref C_InvalidText) "__init__" = some (some (.ref i_InvalidText)))
    (fE_InvalidText : K.lookup i_InvalidText = some ⟨ocE_InvalidText, oE_InvalidText, .func (PySem.W.fnOf "__init__" "InvalidText.__init__" (XE.ixA "given" p1_InvalidText p2_InvalidText) (XE.ixB "given" q1_InvalidText q2_InvalidText q3_InvalidText q4_InvalidText) (XE.ixS "given") .none .none dcE_InvalidText pmE_InvalidText aE_InvalidText cdE_InvalidText ctE_InvalidText), sE_InvalidText⟩)
    (fc_InvalidText : PySem.W.codeIn K cdE_InvalidText "InvalidText.__init__" = true)
    (saE_InvalidText : PySem.W.findIn K (.ref C_InvalidText) "__setattr__" = some (some (.builtin "object.__setattr__")))
    (noE_InvalidText : PySem.W.findIn K (.ref C_InvalidText) "given" = some none)
    (tCE_InvalidText : PySem.W.typeIn K (.ref i_InvalidText) = some (.type "function"))
    (kCE_InvalidText : PySem.W.keepIn K (.ref C_InvalidText) = true)
    (sbE_InvalidText : PySem.W.subIn K (.ref C_InvalidText) (.type "BaseException") = some true)
    (tyE_InvalidText : PySem.W.typeIn K (.ref C_InvalidText) = some (.type "type"))
    (hdE_InvalidText : PySem.W.hasDictIn K C_InvalidText = true)
    (exE_InvalidText : PySem.W.excInitIn K C_InvalidText XE.bVE.ro XE.bVE.nw = true)
    (ovE_InvalidText : PySem.W.excOver K C_InvalidText XE.bVE.ro = true)
    (gaE_InvalidText : PySem.W.findIn K (.ref C_InvalidText) "__getattribute__" = some (some (.builtin "BaseException.__getattribute__")))
    (ggE_InvalidText : PySem.W.findIn K (.ref C_InvalidText) "__getattr__" = some none)
    (haE_InvalidText : PySem.W.findIn K (.ref C_InvalidText) "__class__" = some (some (.builtin "object.__class__")))
    (hnE_InvalidText : PySem.W.specialIn K (.builtin "object.__class__") "__get__" = some (some (.builtin "getset_descriptor.__get__")))
    (htE_InvalidText : PySem.W.takesIn K (.builtin "object.__class__") = some true)
    (hmE_InvalidText : PySem.W.mroIn K C_InvalidText (.type "object") = some true)
    (nf_InvalidText_index : PySem.W.findIn K (.ref C_InvalidText) "index" = some none)
    (nf_InvalidText_given : PySem.W.findIn K (.ref C_InvalidText) "given" = some none)
    (kx_InvalidText_NoAnswer : PySem.W.kitOne K (.ref C_InvalidText) (.ref C_NoAnswer) = some false)
    (kx_InvalidText_WrongName : PySem.W.kitOne K (.ref C_InvalidText) (.ref C_WrongName) = some false)
    (kx_InvalidText_WrongValue : PySem.W.kitOne K (.ref C_InvalidText) (.ref C_WrongValue) = some true)
    (kx_InvalidText_ArithmeticError : PySem.W.kitOne K (.ref C_InvalidText) (.type "ArithmeticError") = some false)
    (kx_InvalidText_LookupError : PySem.W.kitOne K (.ref C_InvalidText) (.type "LookupError") = some false)
    (kx_InvalidText_ValueError : PySem.W.kitOne K (.ref C_InvalidText) (.type "ValueError") = some true)
    (kx_InvalidText_InvalidName : PySem.W.kitOne K (.ref C_InvalidText) (.ref C_InvalidName) = some false)
    (kx_InvalidText_InvalidNumber : PySem.W.kitOne K (.ref C_InvalidText) (.ref C_InvalidNumber) = some false)
    (kx_InvalidText_InvalidText : PySem.W.kitOne K (.ref C_InvalidText) (.ref C_InvalidText) = some true)
    (kx_InvalidText_InvalidSchedule : PySem.W.kitOne K (.ref C_InvalidText) (.ref C_InvalidSchedule) = some false)
    (kx_InvalidText_InvalidRound : PySem.W.kitOne K (.ref C_InvalidText) (.ref C_InvalidRound) = some false)
    (kx_InvalidText_InvalidTables : PySem.W.kitOne K (.ref C_InvalidText) (.ref C_InvalidTables) = some false)
    (kx_InvalidText_NotAFair : PySem.W.kitOne K (.ref C_InvalidText) (.ref C_NotAFair) = some false)
    (kx_InvalidText_InvalidIndex : PySem.W.kitOne K (.ref C_InvalidText) (.ref C_InvalidIndex) = some false)
    (kx_InvalidText_InvalidWish : PySem.W.kitOne K (.ref C_InvalidText) (.ref C_InvalidWish) = some false)
    (kx_InvalidText_InvalidMeetings : PySem.W.kitOne K (.ref C_InvalidText) (.ref C_InvalidMeetings) = some false)
    (kx_InvalidText_InvalidGuests : PySem.W.kitOne K (.ref C_InvalidText) (.ref C_InvalidGuests) = some false)
    (kx_InvalidText_InvalidHosts : PySem.W.kitOne K (.ref C_InvalidText) (.ref C_InvalidHosts) = some false)
    (kx_InvalidText_InvalidChanges : PySem.W.kitOne K (.ref C_InvalidText) (.ref C_InvalidChanges) = some false)
    (kx_InvalidText_InvalidGrowth : PySem.W.kitOne K (.ref C_InvalidText) (.ref C_InvalidGrowth) = some false)
    (kx_InvalidText_InvalidUrgent : PySem.W.kitOne K (.ref C_InvalidText) (.ref C_InvalidUrgent) = some false)
    (kx_InvalidText_TooFewRounds : PySem.W.kitOne K (.ref C_InvalidText) (.ref C_TooFewRounds) = some false)
    (kx_InvalidText_UnknownName : PySem.W.kitOne K (.ref C_InvalidText) (.ref C_UnknownName) = some false)
    (kx_InvalidText_InvalidAsked : PySem.W.kitOne K (.ref C_InvalidText) (.ref C_InvalidAsked) = some false)
    (kx_InvalidText_Broken : PySem.W.kitOne K (.ref C_InvalidText) (.ref C_Broken) = some false)
    (kx_InvalidText_NothingToUndo : PySem.W.kitOne K (.ref C_InvalidText) (.ref C_NothingToUndo) = some false)
    (kx_InvalidText_TooMany : PySem.W.kitOne K (.ref C_InvalidText) (.ref C_TooMany) = some false)
    (xm_InvalidText : PySem.W.exmAny K (.ref C_InvalidText) [.ref C_WrongValue, .ref C_WrongName, .ref C_NoAnswer] = some true)
    (iC_InvalidHosts : PySem.W.findIn K (.ref C_InvalidHosts) "__init__" = some (some (.ref i_InvalidHosts)))
    (fE_InvalidHosts : K.lookup i_InvalidHosts = some ⟨ocE_InvalidHosts, oE_InvalidHosts, .func (PySem.W.fnOf "__init__" "InvalidHosts.__init__" (XE.ixA "index" p1_InvalidHosts p2_InvalidHosts) (XE.ixB "index" q1_InvalidHosts q2_InvalidHosts q3_InvalidHosts q4_InvalidHosts) (XE.ixS "index") .none .none dcE_InvalidHosts pmE_InvalidHosts aE_InvalidHosts cdE_InvalidHosts ctE_InvalidHosts), sE_InvalidHosts⟩)
    (fc_InvalidHosts : PySem.W.codeIn K cdE_InvalidHosts "InvalidHosts.__init__" = true)
    (saE_InvalidHosts : PySem.W.findIn K (.ref C_InvalidHosts) "__setattr__" = some (some (.builtin "object.__setattr__")))
    (noE_InvalidHosts : PySem.W.findIn K (.ref C_InvalidHosts) "index" = some none)
    (tCE_InvalidHosts : PySem.W.typeIn K (.ref i_InvalidHosts) = some (.type "function"))
    (kCE_InvalidHosts : PySem.W.keepIn K (.ref C_InvalidHosts) = true)
    (sbE_InvalidHosts : PySem.W.subIn K (.ref C_InvalidHosts) (.type "BaseException") = some true)
    (tyE_InvalidHosts : PySem.W.typeIn K (.ref C_InvalidHosts) = some (.type "type"))
    (hdE_InvalidHosts : PySem.W.hasDictIn K C_InvalidHosts = true)
    (exE_InvalidHosts : PySem.W.excInitIn K C_InvalidHosts XE.bVE.ro XE.bVE.nw = true)
    (ovE_InvalidHosts : PySem.W.excOver K C_InvalidHosts XE.bVE.ro = true)
    (gaE_InvalidHosts : PySem.W.findIn K (.ref C_InvalidHosts) "__getattribute__" = some (some (.builtin "BaseException.__getattribute__")))
    (ggE_InvalidHosts : PySem.W.findIn K (.ref C_InvalidHosts) "__getattr__" = some none)
    (haE_InvalidHosts : PySem.W.findIn K (.ref C_InvalidHosts) "__class__" = some (some (.builtin "object.__class__")))
    (hnE_InvalidHosts : PySem.W.specialIn K (.builtin "object.__class__") "__get__" = some (some (.builtin "getset_descriptor.__get__")))
    (htE_InvalidHosts : PySem.W.takesIn K (.builtin "object.__class__") = some true)
    (hmE_InvalidHosts : PySem.W.mroIn K C_InvalidHosts (.type "object") = some true)
    (nf_InvalidHosts_index : PySem.W.findIn K (.ref C_InvalidHosts) "index" = some none)
    (nf_InvalidHosts_given : PySem.W.findIn K (.ref C_InvalidHosts) "given" = some none)
    (kx_InvalidHosts_NoAnswer : PySem.W.kitOne K (.ref C_InvalidHosts) (.ref C_NoAnswer) = some false)
    (kx_InvalidHosts_WrongName : PySem.W.kitOne K (.ref C_InvalidHosts) (.ref C_WrongName) = some false)
    (kx_InvalidHosts_WrongValue : PySem.W.kitOne K (.ref C_InvalidHosts) (.ref C_WrongValue) = some true)
    (kx_InvalidHosts_ArithmeticError : PySem.W.kitOne K (.ref C_InvalidHosts) (.type "ArithmeticError") = some false)
    (kx_InvalidHosts_LookupError : PySem.W.kitOne K (.ref C_InvalidHosts) (.type "LookupError") = some false)
    (kx_InvalidHosts_ValueError : PySem.W.kitOne K (.ref C_InvalidHosts) (.type "ValueError") = some true)
    (kx_InvalidHosts_InvalidName : PySem.W.kitOne K (.ref C_InvalidHosts) (.ref C_InvalidName) = some false)
    (kx_InvalidHosts_InvalidNumber : PySem.W.kitOne K (.ref C_InvalidHosts) (.ref C_InvalidNumber) = some false)
    (kx_InvalidHosts_InvalidText : PySem.W.kitOne K (.ref C_InvalidHosts) (.ref C_InvalidText) = some false)
    (kx_InvalidHosts_InvalidSchedule : PySem.W.kitOne K (.ref C_InvalidHosts) (.ref C_InvalidSchedule) = some false)
    (kx_InvalidHosts_InvalidRound : PySem.W.kitOne K (.ref C_InvalidHosts) (.ref C_InvalidRound) = some false)
    (kx_InvalidHosts_InvalidTables : PySem.W.kitOne K (.ref C_InvalidHosts) (.ref C_InvalidTables) = some false)
    (kx_InvalidHosts_NotAFair : PySem.W.kitOne K (.ref C_InvalidHosts) (.ref C_NotAFair) = some false)
    (kx_InvalidHosts_InvalidIndex : PySem.W.kitOne K (.ref C_InvalidHosts) (.ref C_InvalidIndex) = some false)
    (kx_InvalidHosts_InvalidWish : PySem.W.kitOne K (.ref C_InvalidHosts) (.ref C_InvalidWish) = some false)
    (kx_InvalidHosts_InvalidMeetings : PySem.W.kitOne K (.ref C_InvalidHosts) (.ref C_InvalidMeetings) = some false)
    (kx_InvalidHosts_InvalidGuests : PySem.W.kitOne K (.ref C_InvalidHosts) (.ref C_InvalidGuests) = some false)
    (kx_InvalidHosts_InvalidHosts : PySem.W.kitOne K (.ref C_InvalidHosts) (.ref C_InvalidHosts) = some true)
    (kx_InvalidHosts_InvalidChanges : PySem.W.kitOne K (.ref C_InvalidHosts) (.ref C_InvalidChanges) = some false)
    (kx_InvalidHosts_InvalidGrowth : PySem.W.kitOne K (.ref C_InvalidHosts) (.ref C_InvalidGrowth) = some false)
    (kx_InvalidHosts_InvalidUrgent : PySem.W.kitOne K (.ref C_InvalidHosts) (.ref C_InvalidUrgent) = some false)
    (kx_InvalidHosts_TooFewRounds : PySem.W.kitOne K (.ref C_InvalidHosts) (.ref C_TooFewRounds) = some false)
    (kx_InvalidHosts_UnknownName : PySem.W.kitOne K (.ref C_InvalidHosts) (.ref C_UnknownName) = some false)
    (kx_InvalidHosts_InvalidAsked : PySem.W.kitOne K (.ref C_InvalidHosts) (.ref C_InvalidAsked) = some false)
    (kx_InvalidHosts_Broken : PySem.W.kitOne K (.ref C_InvalidHosts) (.ref C_Broken) = some false)
    (kx_InvalidHosts_NothingToUndo : PySem.W.kitOne K (.ref C_InvalidHosts) (.ref C_NothingToUndo) = some false)
    (kx_InvalidHosts_TooMany : PySem.W.kitOne K (.ref C_InvalidHosts) (.ref C_TooMany) = some false)
    (xm_InvalidHosts : PySem.W.exmAny K (.ref C_InvalidHosts) [.ref C_WrongValue, .ref C_WrongName, .ref C_NoAnswer] = some true)
    (iC_InvalidGuests : PySem.W.findIn K (.ref C_InvalidGuests) "__init__" = some (some (.ref i_InvalidGuests)))
    (fE_InvalidGuests : K.lookup i_InvalidGuests = some ⟨ocE_InvalidGuests, oE_InvalidGuests, .func (PySem.W.fnOf "__init__" "InvalidGuests.__init__" (XE.ixA "index" p1_InvalidGuests p2_InvalidGuests) (XE.ixB "index" q1_InvalidGuests q2_InvalidGuests q3_InvalidGuests q4_InvalidGuests) (XE.ixS "index") .none .none dcE_InvalidGuests pmE_InvalidGuests aE_InvalidGuests cdE_InvalidGuests ctE_InvalidGuests), sE_InvalidGuests⟩)
    (fc_InvalidGuests : PySem.W.codeIn K cdE_InvalidGuests "InvalidGuests.__init__" = true)
    (saE_InvalidGuests : PySem.W.findIn K (.ref C_InvalidGuests) "__setattr__" = some (some (.builtin "object.__setattr__")))
    (noE_InvalidGuests : PySem.W.findIn K (.ref C_InvalidGuests) "index" = some none)
    (tCE_InvalidGuests : PySem.W.typeIn K (.ref i_InvalidGuests) = some (.type "function"))
    (kCE_InvalidGuests : PySem.W.keepIn K (.ref C_InvalidGuests) = true)
    (sbE_InvalidGuests : PySem.W.subIn K (.ref C_InvalidGuests) (.type "BaseException") = some true)
    (tyE_InvalidGuests : PySem.W.typeIn K (.ref C_InvalidGuests) = some (.type "type"))
    (hdE_InvalidGuests : PySem.W.hasDictIn K C_InvalidGuests = true)
    (exE_InvalidGuests : PySem.W.excInitIn K C_InvalidGuests XE.bVE.ro XE.bVE.nw = true)
    (ovE_InvalidGuests : PySem.W.excOver K C_InvalidGuests XE.bVE.ro = true)
    (gaE_InvalidGuests : PySem.W.findIn K (.ref C_InvalidGuests) "__getattribute__" = some (some (.builtin "BaseException.__getattribute__")))
    (ggE_InvalidGuests : PySem.W.findIn K (.ref C_InvalidGuests) "__getattr__" = some none)
    (haE_InvalidGuests : PySem.W.findIn K (.ref C_InvalidGuests) "__class__" = some (some (.builtin "object.__class__")))
    (hnE_InvalidGuests : PySem.W.specialIn K (.builtin "object.__class__") "__get__" = some (some (.builtin "getset_descriptor.__get__")))
    (htE_InvalidGuests : PySem.W.takesIn K (.builtin "object.__class__") = some true)
    (hmE_InvalidGuests : PySem.W.mroIn K C_InvalidGuests (.type "object") = some true)
    (nf_InvalidGuests_index : PySem.W.findIn K (.ref C_InvalidGuests) "index" = some none)
    (nf_InvalidGuests_given : PySem.W.findIn K (.ref C_InvalidGuests) "given" = some none)
    (kx_InvalidGuests_NoAnswer : PySem.W.kitOne K (.ref C_InvalidGuests) (.ref C_NoAnswer) = some false)
    (kx_InvalidGuests_WrongName : PySem.W.kitOne K (.ref C_InvalidGuests) (.ref C_WrongName) = some false)
    (kx_InvalidGuests_WrongValue : PySem.W.kitOne K (.ref C_InvalidGuests) (.ref C_WrongValue) = some true)
    (kx_InvalidGuests_ArithmeticError : PySem.W.kitOne K (.ref C_InvalidGuests) (.type "ArithmeticError") = some false)
    (kx_InvalidGuests_LookupError : PySem.W.kitOne K (.ref C_InvalidGuests) (.type "LookupError") = some false)
    (kx_InvalidGuests_ValueError : PySem.W.kitOne K (.ref C_InvalidGuests) (.type "ValueError") = some true)
    (kx_InvalidGuests_InvalidName : PySem.W.kitOne K (.ref C_InvalidGuests) (.ref C_InvalidName) = some false)
    (kx_InvalidGuests_InvalidNumber : PySem.W.kitOne K (.ref C_InvalidGuests) (.ref C_InvalidNumber) = some false)
    (kx_InvalidGuests_InvalidText : PySem.W.kitOne K (.ref C_InvalidGuests) (.ref C_InvalidText) = some false)
    (kx_InvalidGuests_InvalidSchedule : PySem.W.kitOne K (.ref C_InvalidGuests) (.ref C_InvalidSchedule) = some false)
    (kx_InvalidGuests_InvalidRound : PySem.W.kitOne K (.ref C_InvalidGuests) (.ref C_InvalidRound) = some false)
    (kx_InvalidGuests_InvalidTables : PySem.W.kitOne K (.ref C_InvalidGuests) (.ref C_InvalidTables) = some false)
    (kx_InvalidGuests_NotAFair : PySem.W.kitOne K (.ref C_InvalidGuests) (.ref C_NotAFair) = some false)
    (kx_InvalidGuests_InvalidIndex : PySem.W.kitOne K (.ref C_InvalidGuests) (.ref C_InvalidIndex) = some false)
    (kx_InvalidGuests_InvalidWish : PySem.W.kitOne K (.ref C_InvalidGuests) (.ref C_InvalidWish) = some false)
    (kx_InvalidGuests_InvalidMeetings : PySem.W.kitOne K (.ref C_InvalidGuests) (.ref C_InvalidMeetings) = some false)
    (kx_InvalidGuests_InvalidGuests : PySem.W.kitOne K (.ref C_InvalidGuests) (.ref C_InvalidGuests) = some true)
    (kx_InvalidGuests_InvalidHosts : PySem.W.kitOne K (.ref C_InvalidGuests) (.ref C_InvalidHosts) = some false)
    (kx_InvalidGuests_InvalidChanges : PySem.W.kitOne K (.ref C_InvalidGuests) (.ref C_InvalidChanges) = some false)
    (kx_InvalidGuests_InvalidGrowth : PySem.W.kitOne K (.ref C_InvalidGuests) (.ref C_InvalidGrowth) = some false)
    (kx_InvalidGuests_InvalidUrgent : PySem.W.kitOne K (.ref C_InvalidGuests) (.ref C_InvalidUrgent) = some false)
    (kx_InvalidGuests_TooFewRounds : PySem.W.kitOne K (.ref C_InvalidGuests) (.ref C_TooFewRounds) = some false)
    (kx_InvalidGuests_UnknownName : PySem.W.kitOne K (.ref C_InvalidGuests) (.ref C_UnknownName) = some false)
    (kx_InvalidGuests_InvalidAsked : PySem.W.kitOne K (.ref C_InvalidGuests) (.ref C_InvalidAsked) = some false)
    (kx_InvalidGuests_Broken : PySem.W.kitOne K (.ref C_InvalidGuests) (.ref C_Broken) = some false)
    (kx_InvalidGuests_NothingToUndo : PySem.W.kitOne K (.ref C_InvalidGuests) (.ref C_NothingToUndo) = some false)
    (kx_InvalidGuests_TooMany : PySem.W.kitOne K (.ref C_InvalidGuests) (.ref C_TooMany) = some false)
    (xm_InvalidGuests : PySem.W.exmAny K (.ref C_InvalidGuests) [.ref C_WrongValue, .ref C_WrongName, .ref C_NoAnswer] = some true)
    (z_int : PySem.W.nsIn K mainGlobals "int" = some none)
    (z_isinstance : PySem.W.nsIn K mainGlobals "isinstance" = some none)
    (z_bool : PySem.W.nsIn K mainGlobals "bool" = some none)
    (z_str : PySem.W.nsIn K mainGlobals "str" = some none)
    (z_len : PySem.W.nsIn K mainGlobals "len" = some none)
    (z_all : PySem.W.nsIn K mainGlobals "all" = some none)
    (z_tuple : PySem.W.nsIn K mainGlobals "tuple" = some none)
    (z_range : PySem.W.nsIn K mainGlobals "range" = some none)
    (z_abs : PySem.W.nsIn K mainGlobals "abs" = some none)
    (z_divmod : PySem.W.nsIn K mainGlobals "divmod" = some none)
    (z_ArithmeticError : PySem.W.nsIn K mainGlobals "ArithmeticError" = some none)
    (z_LookupError : PySem.W.nsIn K mainGlobals "LookupError" = some none)
    (z_ValueError : PySem.W.nsIn K mainGlobals "ValueError" = some none)
    (z_list : PySem.W.nsIn K mainGlobals "list" = some none)
    (z_enumerate : PySem.W.nsIn K mainGlobals "enumerate" = some none)
    (z_repr : PySem.W.nsIn K mainGlobals "repr" = some none)
    (z_min : PySem.W.nsIn K mainGlobals "min" = some none)
    (z_max : PySem.W.nsIn K mainGlobals "max" = some none)
    (m__LONGEST_NAME : PySem.W.nsIn K mainGlobals "_LONGEST_NAME" = some (some (.int 8 tk__LONGEST_NAME)))
    (m__FIRST_SIGNS : PySem.W.nsIn K mainGlobals "_FIRST_SIGNS" = some (some (.str "abcdefghijklmnopqrstuvwxyz" tk__FIRST_SIGNS)))
    (m__SIGNS : PySem.W.nsIn K mainGlobals "_SIGNS" = some (some (.str "abcdefghijklmnopqrstuvwxyz0123456789" tk__SIGNS)))
    (m_MOST_BOUND : PySem.W.nsIn K mainGlobals "MOST_BOUND" = some (some (.int 4 tk_MOST_BOUND)))
    (m_MOST_TABLES : PySem.W.nsIn K mainGlobals "MOST_TABLES" = some (some (.int 12 tk_MOST_TABLES)))
    (m_MOST_SIDE : PySem.W.nsIn K mainGlobals "MOST_SIDE" = some (some (.int 4 tk_MOST_SIDE)))
    (nd_tabs : [P_l_right].Nodup)
    : ∃ (fd : FuncData) (cs : List (Addr × Addr)) (sp : Sp), (∀ p ∈ cs, h.get? p.2 = some TopT.emptyTab) ∧ (∀ p ∈ cs, K.lookup p.2 = none) ∧ (∀ p ∈ cs, PySem.W.CodeHd h p.1 p.2) ∧ (∀ (s : Shared) (v : Value), BindsTo s fd ⟨[v], []⟩ [("_law_script", v)]) ∧
        (∀ (H : Hp) (a : Addr) (ns : List Int), ns.length ≤ 63 → (∀ z ∈ ns, Builtin.Int.intBits z ≤ 1048576) → (∀ p ∈ cs, H p.2 = some (.tbl #[])) → a ∉ cs.map (·.2) → SqL K H a (ns.map V.int) → sp [.ref a] H (fun v _ => v = .bl true) fun _ _ _ => False) ∧
        ∀ base : Heap, K.In base → base.Ns mainGlobals mg → (∀ p ∈ cs, LamX.TabB base mg p.1 p.2) → FnG l.prog w K mg base CX0 10 fa fd ["_law_script"] sp := by
  have e := hfa.symm.trans (PySem.W.mg_of X G a_law)
  cases e
  have F_is_integer : FunD K "is_integer" "is_integer" (defArgs s_is_integer) (defBody s_is_integer) (defScope s_is_integer) [.non] [] f_is_integer _ := ⟨⟨_, _, _, _, _, _, _, _, _, _, rfl, l_is_integer, c_is_integer, .inr ⟨by simp, dd_is_integer, _, [Value.none], nd_is_integer, rfl, ld_is_integer, rfl, (.cons rfl .nil)⟩, .inl rfl⟩, k_is_integer⟩
  have F_is_name := fun_mk (st := s_is_name) l_is_name c_is_name k_is_name
  have F_is_pair := fun_mk (st := s_is_pair) l_is_pair c_is_pair k_is_pair
  have F_is_member := fun_mk (st := s_is_member) l_is_member c_is_member k_is_member
  have F_fault := fun_mk (st := s_fault) l_fault c_fault k_fault
  have F_names_of := fun_mk (st := s_names_of) l_names_of c_names_of k_names_of
  have F_text_of := fun_mk (st := s_text_of) l_text_of c_text_of k_text_of
  have F_number := fun_mk (st := s_number) l_number c_number k_number
  have F_parts_of := fun_mk (st := s_parts_of) l_parts_of c_parts_of k_parts_of
  have F_Fairu_initu : FunD K "__init__" "Fair.__init__" (defArgs s_Fairu_initu) (defBody s_Fairu_initu) (defScope s_Fairu_initu) [.non] [] f_Fairu_initu _ := ⟨⟨_, _, _, _, _, _, _, _, _, _, rfl, l_Fairu_initu, c_Fairu_initu, .inr ⟨by simp, dd_Fairu_initu, _, [Value.none], nd_Fairu_initu, rfl, ld_Fairu_initu, rfl, (.cons rfl .nil)⟩, .inl rfl⟩, k_Fairu_initu⟩
  have F_Fair_read := fun_mk (st := s_Fair_read) l_Fair_read c_Fair_read k_Fair_read
  have F_Fairu_containsu := fun_mk (st := s_Fairu_containsu) l_Fairu_containsu c_Fairu_containsu k_Fairu_containsu
  have F_Fairu_stru := fun_mk (st := s_Fairu_stru) l_Fairu_stru c_Fairu_stru k_Fairu_stru
  have F_l_jug := fun_mk (st := s_l_jug) l_l_jug c_l_jug k_l_jug
  have F_l_pour := fun_mk (st := s_l_pour) l_l_pour c_l_pour k_l_pour
  have F_l_bases := fun_mk (st := s_l_bases) l_l_bases c_l_bases k_l_bases
  have F_l_is_name := fun_mk (st := s_l_is_name) l_l_is_name c_l_is_name k_l_is_name
  have F_l_odd := fun_mk (st := s_l_odd) l_l_odd c_l_odd k_l_odd
  have F_l_class := fun_mk (st := s_l_class) l_l_class c_l_class k_l_class
  have F_l_keeps := fun_mk (st := s_l_keeps) l_l_keeps c_l_keeps k_l_keeps
  have F_l_told := fun_mk (st := s_l_told) l_l_told c_l_told k_l_told
  have F_l_drawn := fun_mk (st := s_l_drawn) l_l_drawn c_l_drawn k_l_drawn
  have F_l_right := fun_mk (st := s_l_right) l_l_right c_l_right k_l_right
  have F_law := fun_mk (st := s_law) l_law c_law k_law
  have T_Fair : ClsT K C_Fair := ⟨⟨pg_Fair, hd_Fair, po_Fair, sa_Fair⟩, ha_Fair, hn_Fair, htk_Fair, hm_Fair⟩
  have KT_Fair := kitT_one (ns := ns_Fair) T_Fair kC_Fair (by intro b hb; simp only [bts, List.mem_cons, List.not_mem_nil, or_false] at hb; rcases hb with rfl | rfl | rfl | rfl | rfl | rfl | rfl <;> assumption) (by intro b hb; simp only [bts, List.mem_cons, List.not_mem_nil, or_false] at hb; rcases hb with rfl | rfl | rfl | rfl | rfl | rfl | rfl <;> assumption)
  let T : Tx K mg (fun k => if k = 0 then some (C_Fair, ns_Fair) else none) := {
    f_is_integer := f_is_integer
    d_is_integer := _
    f_is_name := f_is_name
    d_is_name := _
    f_is_pair := f_is_pair
    d_is_pair := _
    f_is_member := f_is_member
    d_is_member := _
    f_fault := f_fault
    d_fault := _
    f_names_of := f_names_of
    d_names_of := _
    f_text_of := f_text_of
    d_text_of := _
    f_number := f_number
    d_number := _
    f_parts_of := f_parts_of
    d_parts_of := _
    f_Fairu_initu := f_Fairu_initu
    d_Fairu_initu := _
    f_Fair_read := f_Fair_read
    d_Fair_read := _
    f_Fairu_containsu := f_Fairu_containsu
    d_Fairu_containsu := _
    f_Fairu_stru := f_Fairu_stru
    d_Fairu_stru := _
    f_l_jug := f_l_jug
    d_l_jug := _
    f_l_pour := f_l_pour
    d_l_pour := _
    f_l_bases := f_l_bases
    d_l_bases := _
    f_l_is_name := f_l_is_name
    d_l_is_name := _
    f_l_odd := f_l_odd
    d_l_odd := _
    f_l_class := f_l_class
    d_l_class := _
    f_l_keeps := f_l_keeps
    d_l_keeps := _
    f_l_told := f_l_told
    d_l_told := _
    f_l_drawn := f_l_drawn
    d_l_drawn := _
    f_l_right := f_l_right
    d_l_right := _
    f_law := fa
    d_law := _
    C_Fair := C_Fair
    C_WrongValue := C_WrongValue
    C_InvalidText := C_InvalidText
    C_InvalidNumber := C_InvalidNumber
    C_InvalidName := C_InvalidName
    C_InvalidTables := C_InvalidTables
    C_InvalidRound := C_InvalidRound
    C_InvalidSchedule := C_InvalidSchedule
    C_InvalidWish := C_InvalidWish
    C_InvalidIndex := C_InvalidIndex
    C_NotAFair := C_NotAFair
    C_InvalidHosts := C_InvalidHosts
    C_InvalidGuests := C_InvalidGuests
    C_InvalidMeetings := C_InvalidMeetings
    C_InvalidUrgent := C_InvalidUrgent
    C_InvalidGrowth := C_InvalidGrowth
    C_InvalidChanges := C_InvalidChanges
    C_InvalidAsked := C_InvalidAsked
    C_WrongName := C_WrongName
    C_UnknownName := C_UnknownName
    C_NoAnswer := C_NoAnswer
    C_TooFewRounds := C_TooFewRounds
    C_TooMany := C_TooMany
    C_NothingToUndo := C_NothingToUndo
    C_Broken := C_Broken
    i_InvalidText := i_InvalidText
    i_InvalidHosts := i_InvalidHosts
    i_InvalidGuests := i_InvalidGuests
    P_l_right := P_l_right
    c_l_right := cc_l_right
    pc_Fair_read := pc_Fair_read
    eq_InvalidText := ⟨gaE_InvalidText, ggE_InvalidText, sbE_InvalidText, hdE_InvalidText, haE_InvalidText, hnE_InvalidText, htE_InvalidText, hmE_InvalidText⟩
    nf_InvalidText_index := nf_InvalidText_index
    nf_InvalidText_given := nf_InvalidText_given
    kx_InvalidText_NoAnswer := kx_InvalidText_NoAnswer
    kx_InvalidText_WrongName := kx_InvalidText_WrongName
    kx_InvalidText_WrongValue := kx_InvalidText_WrongValue
    kx_InvalidText_ArithmeticError := kx_InvalidText_ArithmeticError
    kx_InvalidText_LookupError := kx_InvalidText_LookupError
    kx_InvalidText_ValueError := kx_InvalidText_ValueError
    kx_InvalidText_InvalidName := kx_InvalidText_InvalidName
    kx_InvalidText_InvalidNumber := kx_InvalidText_InvalidNumber
    kx_InvalidText_InvalidText := kx_InvalidText_InvalidText
    kx_InvalidText_InvalidSchedule := kx_InvalidText_InvalidSchedule
    kx_InvalidText_InvalidRound := kx_InvalidText_InvalidRound
    kx_InvalidText_InvalidTables := kx_InvalidText_InvalidTables
    kx_InvalidText_NotAFair := kx_InvalidText_NotAFair
    kx_InvalidText_InvalidIndex := kx_InvalidText_InvalidIndex
    kx_InvalidText_InvalidWish := kx_InvalidText_InvalidWish
    kx_InvalidText_InvalidMeetings := kx_InvalidText_InvalidMeetings
    kx_InvalidText_InvalidGuests := kx_InvalidText_InvalidGuests
    kx_InvalidText_InvalidHosts := kx_InvalidText_InvalidHosts
    kx_InvalidText_InvalidChanges := kx_InvalidText_InvalidChanges
    kx_InvalidText_InvalidGrowth := kx_InvalidText_InvalidGrowth
    kx_InvalidText_InvalidUrgent := kx_InvalidText_InvalidUrgent
    kx_InvalidText_TooFewRounds := kx_InvalidText_TooFewRounds
    kx_InvalidText_UnknownName := kx_InvalidText_UnknownName
    kx_InvalidText_InvalidAsked := kx_InvalidText_InvalidAsked
    kx_InvalidText_Broken := kx_InvalidText_Broken
    kx_InvalidText_NothingToUndo := kx_InvalidText_NothingToUndo
    kx_InvalidText_TooMany := kx_InvalidText_TooMany
    xm_InvalidText := xm_InvalidText
    eq_InvalidHosts := ⟨gaE_InvalidHosts, ggE_InvalidHosts, sbE_InvalidHosts, hdE_InvalidHosts, haE_InvalidHosts, hnE_InvalidHosts, htE_InvalidHosts, hmE_InvalidHosts⟩
    nf_InvalidHosts_index := nf_InvalidHosts_index
    nf_InvalidHosts_given := nf_InvalidHosts_given
    kx_InvalidHosts_NoAnswer := kx_InvalidHosts_NoAnswer
    kx_InvalidHosts_WrongName := kx_InvalidHosts_WrongName
    kx_InvalidHosts_WrongValue := kx_InvalidHosts_WrongValue
    kx_InvalidHosts_ArithmeticError := kx_InvalidHosts_ArithmeticError
    kx_InvalidHosts_LookupError := kx_InvalidHosts_LookupError
    kx_InvalidHosts_ValueError := kx_InvalidHosts_ValueError
    kx_InvalidHosts_InvalidName := kx_InvalidHosts_InvalidName
    kx_InvalidHosts_InvalidNumber := kx_InvalidHosts_InvalidNumber
    kx_InvalidHosts_InvalidText := kx_InvalidHosts_InvalidText
    kx_InvalidHosts_InvalidSchedule := kx_InvalidHosts_InvalidSchedule
    kx_InvalidHosts_InvalidRound := kx_InvalidHosts_InvalidRound
    kx_InvalidHosts_InvalidTables := kx_InvalidHosts_InvalidTables
    kx_InvalidHosts_NotAFair := kx_InvalidHosts_NotAFair
    kx_InvalidHosts_InvalidIndex := kx_InvalidHosts_InvalidIndex
    kx_InvalidHosts_InvalidWish := kx_InvalidHosts_InvalidWish
    kx_InvalidHosts_InvalidMeetings := kx_InvalidHosts_InvalidMeetings
    kx_InvalidHosts_InvalidGuests := kx_InvalidHosts_InvalidGuests
    kx_InvalidHosts_InvalidHosts := kx_InvalidHosts_InvalidHosts
    kx_InvalidHosts_InvalidChanges := kx_InvalidHosts_InvalidChanges
    kx_InvalidHosts_InvalidGrowth := kx_InvalidHosts_InvalidGrowth
    kx_InvalidHosts_InvalidUrgent := kx_InvalidHosts_InvalidUrgent
    kx_InvalidHosts_TooFewRounds := kx_InvalidHosts_TooFewRounds
    kx_InvalidHosts_UnknownName := kx_InvalidHosts_UnknownName
    kx_InvalidHosts_InvalidAsked := kx_InvalidHosts_InvalidAsked
    kx_InvalidHosts_Broken := kx_InvalidHosts_Broken
    kx_InvalidHosts_NothingToUndo := kx_InvalidHosts_NothingToUndo
    kx_InvalidHosts_TooMany := kx_InvalidHosts_TooMany
    xm_InvalidHosts := xm_InvalidHosts
    eq_InvalidGuests := ⟨gaE_InvalidGuests, ggE_InvalidGuests, sbE_InvalidGuests, hdE_InvalidGuests, haE_InvalidGuests, hnE_InvalidGuests, htE_InvalidGuests, hmE_InvalidGuests⟩
    nf_InvalidGuests_index := nf_InvalidGuests_index
    nf_InvalidGuests_given := nf_InvalidGuests_given
    kx_InvalidGuests_NoAnswer := kx_InvalidGuests_NoAnswer
    kx_InvalidGuests_WrongName := kx_InvalidGuests_WrongName
    kx_InvalidGuests_WrongValue := kx_InvalidGuests_WrongValue
    kx_InvalidGuests_ArithmeticError := kx_InvalidGuests_ArithmeticError
    kx_InvalidGuests_LookupError := kx_InvalidGuests_LookupError
    kx_InvalidGuests_ValueError := kx_InvalidGuests_ValueError
    kx_InvalidGuests_InvalidName := kx_InvalidGuests_InvalidName
    kx_InvalidGuests_InvalidNumber := kx_InvalidGuests_InvalidNumber
    kx_InvalidGuests_InvalidText := kx_InvalidGuests_InvalidText
    kx_InvalidGuests_InvalidSchedule := kx_InvalidGuests_InvalidSchedule
    kx_InvalidGuests_InvalidRound := kx_InvalidGuests_InvalidRound
    kx_InvalidGuests_InvalidTables := kx_InvalidGuests_InvalidTables
    kx_InvalidGuests_NotAFair := kx_InvalidGuests_NotAFair
    kx_InvalidGuests_InvalidIndex := kx_InvalidGuests_InvalidIndex
    kx_InvalidGuests_InvalidWish := kx_InvalidGuests_InvalidWish
    kx_InvalidGuests_InvalidMeetings := kx_InvalidGuests_InvalidMeetings
    kx_InvalidGuests_InvalidGuests := kx_InvalidGuests_InvalidGuests
    kx_InvalidGuests_InvalidHosts := kx_InvalidGuests_InvalidHosts
    kx_InvalidGuests_InvalidChanges := kx_InvalidGuests_InvalidChanges
    kx_InvalidGuests_InvalidGrowth := kx_InvalidGuests_InvalidGrowth
    kx_InvalidGuests_InvalidUrgent := kx_InvalidGuests_InvalidUrgent
    kx_InvalidGuests_TooFewRounds := kx_InvalidGuests_TooFewRounds
    kx_InvalidGuests_UnknownName := kx_InvalidGuests_UnknownName
    kx_InvalidGuests_InvalidAsked := kx_InvalidGuests_InvalidAsked
    kx_InvalidGuests_Broken := kx_InvalidGuests_Broken
    kx_InvalidGuests_NothingToUndo := kx_InvalidGuests_NothingToUndo
    kx_InvalidGuests_TooMany := kx_InvalidGuests_TooMany
    xm_InvalidGuests := xm_InvalidGuests
    n_int := PySem.W.mg_none_of X G z_int
    kt := KT_Fair
    n_isinstance := PySem.W.mg_none_of X G z_isinstance
    n_bool := PySem.W.mg_none_of X G z_bool
    F_is_integer := F_is_integer
    n_str := PySem.W.mg_none_of X G z_str
    n_len := PySem.W.mg_none_of X G z_len
    c_LONGEST_NAME := ⟨_, PySem.W.mg_of X G m__LONGEST_NAME⟩
    c_FIRST_SIGNS := ⟨_, PySem.W.mg_of X G m__FIRST_SIGNS⟩
    c_SIGNS := ⟨_, PySem.W.mg_of X G m__SIGNS⟩
    n_all := PySem.W.mg_none_of X G z_all
    F_is_name := F_is_name
    n_tuple := PySem.W.mg_none_of X G z_tuple
    F_is_pair := F_is_pair
    F_names_of := F_names_of
    F_text_of := F_text_of
    n_range := PySem.W.mg_none_of X G z_range
    F_number := F_number
    ct_Fair := rfl
    cl_Fair := T_Fair
    na_Fair_names := na_names_Fair
    F_Fairu_containsu := F_Fairu_containsu
    na_Fair_text := na_text_Fair
    F_Fairu_stru := F_Fairu_stru
    n_abs := PySem.W.mg_none_of X G z_abs
    F_l_jug := F_l_jug
    n_divmod := PySem.W.mg_none_of X G z_divmod
    F_l_pour := F_l_pour
    gE_NoAnswer := PySem.W.mg_of X G aC_NoAnswer
    gE_WrongName := PySem.W.mg_of X G aC_WrongName
    gE_WrongValue := PySem.W.mg_of X G aC_WrongValue
    n_ArithmeticError := PySem.W.mg_none_of X G z_ArithmeticError
    n_LookupError := PySem.W.mg_none_of X G z_LookupError
    n_ValueError := PySem.W.mg_none_of X G z_ValueError
    F_l_bases := F_l_bases
    F_l_is_name := F_l_is_name
    F_l_keeps := F_l_keeps
    b_is_pair := F_is_pair.binds (ps := ["value"]) fun _ _ _ _ _ _ us hl => match us, hl with | [_], _ => rfl
    v_is_pair := PySem.W.mg_of X G a_is_pair
    k_is_pair := k_is_pair
    b_is_name := F_is_name.binds (ps := ["value"]) fun _ _ _ _ _ _ us hl => match us, hl with | [_], _ => rfl
    v_is_name := PySem.W.mg_of X G a_is_name
    k_is_name := k_is_name
    c_MOST_BOUND := ⟨_, PySem.W.mg_of X G m_MOST_BOUND⟩
    b_is_integer := fb_is_integer F_is_integer
    v_is_integer := PySem.W.mg_of X G a_is_integer
    k_is_integer := k_is_integer
    F_is_member := F_is_member
    b_number := F_number.binds (ps := ["digits", "most"]) fun _ _ _ _ _ _ us hl => match us, hl with | [_, _], _ => rfl
    v_number := PySem.W.mg_of X G a_number
    k_number := k_number
    c_MOST_TABLES := ⟨_, PySem.W.mg_of X G m_MOST_TABLES⟩
    F_parts_of := F_parts_of
    b_l_pour := F_l_pour.binds (ps := ["_law_jug_here", "_law_many"]) fun _ _ _ _ _ _ us hl => match us, hl with | [_, _], _ => rfl
    v_l_pour := PySem.W.mg_of X G a_l_pour
    k_l_pour := k_l_pour
    F_l_odd := F_l_odd
    gE_InvalidName := PySem.W.mg_of X G aC_InvalidName
    gE_InvalidNumber := PySem.W.mg_of X G aC_InvalidNumber
    gE_InvalidText := PySem.W.mg_of X G aC_InvalidText
    gE_InvalidSchedule := PySem.W.mg_of X G aC_InvalidSchedule
    gE_InvalidRound := PySem.W.mg_of X G aC_InvalidRound
    gE_InvalidTables := PySem.W.mg_of X G aC_InvalidTables
    gE_NotAFair := PySem.W.mg_of X G aC_NotAFair
    gE_InvalidIndex := PySem.W.mg_of X G aC_InvalidIndex
    gE_InvalidWish := PySem.W.mg_of X G aC_InvalidWish
    gE_InvalidMeetings := PySem.W.mg_of X G aC_InvalidMeetings
    gE_InvalidGuests := PySem.W.mg_of X G aC_InvalidGuests
    gE_InvalidHosts := PySem.W.mg_of X G aC_InvalidHosts
    gE_InvalidChanges := PySem.W.mg_of X G aC_InvalidChanges
    gE_InvalidGrowth := PySem.W.mg_of X G aC_InvalidGrowth
    gE_InvalidUrgent := PySem.W.mg_of X G aC_InvalidUrgent
    gE_TooFewRounds := PySem.W.mg_of X G aC_TooFewRounds
    gE_UnknownName := PySem.W.mg_of X G aC_UnknownName
    gE_InvalidAsked := PySem.W.mg_of X G aC_InvalidAsked
    gE_Broken := PySem.W.mg_of X G aC_Broken
    gE_NothingToUndo := PySem.W.mg_of X G aC_NothingToUndo
    gE_TooMany := PySem.W.mg_of X G aC_TooMany
    b_l_bases := F_l_bases.binds (ps := ["_law_e"]) fun _ _ _ _ _ _ us hl => match us, hl with | [_], _ => rfl
    v_l_bases := PySem.W.mg_of X G a_l_bases
    k_l_bases := k_l_bases
    F_l_class := F_l_class
    F_l_drawn := F_l_drawn
    n_list := PySem.W.mg_none_of X G z_list
    n_enumerate := PySem.W.mg_none_of X G z_enumerate
    c_MOST_SIDE := ⟨_, PySem.W.mg_of X G m_MOST_SIDE⟩
    b_is_member := F_is_member.binds (ps := ["value"]) fun _ _ _ _ _ _ us hl => match us, hl with | [_], _ => rfl
    v_is_member := PySem.W.mg_of X G a_is_member
    k_is_member := k_is_member
    F_fault := F_fault
    b_fault := F_fault.binds (ps := ["side", "taken"]) fun _ _ _ _ _ _ us hl => match us, hl with | [_, _], _ => rfl
    v_fault := PySem.W.mg_of X G a_fault
    k_fault := k_fault
    er_InvalidHosts := ⟨PySem.W.mg_of X G aC_InvalidHosts, exE_InvalidHosts, ovE_InvalidHosts, saE_InvalidHosts, noE_InvalidHosts, iC_InvalidHosts, tCE_InvalidHosts, kCE_InvalidHosts, sbE_InvalidHosts, tyE_InvalidHosts, hdE_InvalidHosts, ⟨_, _, _, _, _, _, _, _, _, _, _, _, _, _, _, fE_InvalidHosts, fc_InvalidHosts⟩⟩
    b_names_of := F_names_of.binds (ps := ["side"]) fun _ _ _ _ _ _ us hl => match us, hl with | [_], _ => rfl
    v_names_of := PySem.W.mg_of X G a_names_of
    k_names_of := k_names_of
    er_InvalidGuests := ⟨PySem.W.mg_of X G aC_InvalidGuests, exE_InvalidGuests, ovE_InvalidGuests, saE_InvalidGuests, noE_InvalidGuests, iC_InvalidGuests, tCE_InvalidGuests, kCE_InvalidGuests, sbE_InvalidGuests, tyE_InvalidGuests, hdE_InvalidGuests, ⟨_, _, _, _, _, _, _, _, _, _, _, _, _, _, _, fE_InvalidGuests, fc_InvalidGuests⟩⟩
    na_Fair_hosts := na_hosts_Fair
    na_Fair_guests := na_guests_Fair
    na_Fair_tables := na_tables_Fair
    b_text_of := F_text_of.binds (ps := ["hosts", "guests", "tables"]) fun _ _ _ _ _ _ us hl => match us, hl with | [_, _, _], _ => rfl
    v_text_of := PySem.W.mg_of X G a_text_of
    k_text_of := k_text_of
    F_Fairu_initu := F_Fairu_initu
    b_parts_of := F_parts_of.binds (ps := ["text"]) fun _ _ _ _ _ _ us hl => match us, hl with | [_], _ => rfl
    v_parts_of := PySem.W.mg_of X G a_parts_of
    k_parts_of := k_parts_of
    er_InvalidText := ⟨PySem.W.mg_of X G aC_InvalidText, exE_InvalidText, ovE_InvalidText, saE_InvalidText, noE_InvalidText, iC_InvalidText, tCE_InvalidText, kCE_InvalidText, sbE_InvalidText, tyE_InvalidText, hdE_InvalidText, ⟨_, _, _, _, _, _, _, _, _, _, _, _, _, _, _, fE_InvalidText, fc_InvalidText⟩⟩
    b_Fairu_initu := fb_Fairu_initu F_Fairu_initu
    M_Fair := ⟨mk_Fair, a_Fairu_initu, i_Fairu_initu, kc_Fair⟩
    F_Fair_read := F_Fair_read
    b_l_class := F_l_class.binds (ps := ["_law_e"]) fun _ _ _ _ _ _ us hl => match us, hl with | [_], _ => rfl
    v_l_class := PySem.W.mg_of X G a_l_class
    k_l_class := k_l_class
    b_l_keeps := F_l_keeps.binds (ps := ["_law_e", "_law_at"]) fun _ _ _ _ _ _ us hl => match us, hl with | [_, _], _ => rfl
    v_l_keeps := PySem.W.mg_of X G a_l_keeps
    k_l_keeps := k_l_keeps
    n_repr := PySem.W.mg_none_of X G z_repr
    F_l_told := F_l_told
    b_l_drawn := F_l_drawn.binds (ps := ["_law_jug_here"]) fun _ _ _ _ _ _ us hl => match us, hl with | [_], _ => rfl
    v_l_drawn := PySem.W.mg_of X G a_l_drawn
    k_l_drawn := k_l_drawn
    b_l_odd := F_l_odd.binds (ps := ["_law_jug_here"]) fun _ _ _ _ _ _ us hl => match us, hl with | [_], _ => rfl
    v_l_odd := PySem.W.mg_of X G a_l_odd
    k_l_odd := k_l_odd
    bd_Fairu_initu_1 := fbd_Fairu_initu_1 F_Fairu_initu
    g_Fair := PySem.W.mg_of X G aC_Fair
    mt_Fairu_containsu := ⟨a_Fairu_containsu, i_Fairu_containsu, k_Fairu_containsu⟩
    b_Fairu_containsu := F_Fairu_containsu.binds (ps := ["self", "value"]) fun _ _ _ _ _ _ us hl => match us, hl with | [_, _], _ => rfl
    v_l_told := PySem.W.mg_of X G a_l_told
    k_l_told := k_l_told
    b_l_told := F_l_told.binds (ps := ["_law_act"]) fun _ _ _ _ _ _ us hl => match us, hl with | [_], _ => rfl
    b_l_is_name := F_l_is_name.binds (ps := ["_law_thing"]) fun _ _ _ _ _ _ us hl => match us, hl with | [_], _ => rfl
    v_l_is_name := PySem.W.mg_of X G a_l_is_name
    k_l_is_name := k_l_is_name
    cr_Fair := ⟨rd_Fair, gat_Fair⟩
    cm_Fair_read := ⟨a_Fair_read, ⟨_, r_Fair_read⟩, i_Fair_read⟩
    b_Fair_read := F_Fair_read.binds (ps := ["cls", "text"]) fun _ _ _ _ _ _ us hl => match us, hl with | [_, _], _ => rfl
    mt_Fairu_stru := ⟨a_Fairu_stru, i_Fairu_stru, k_Fairu_stru⟩
    b_Fairu_stru := F_Fairu_stru.binds (ps := ["self"]) fun _ _ _ _ _ _ us hl => match us, hl with | [_], _ => rfl
    F_l_right := F_l_right
    cd_l_right := rfl
    n_min := PySem.W.mg_none_of X G z_min
    n_max := PySem.W.mg_none_of X G z_max
    b_l_jug := F_l_jug.binds (ps := ["_law_script", "_law_at"]) fun _ _ _ _ _ _ us hl => match us, hl with | [_, _], _ => rfl
    v_l_jug := PySem.W.mg_of X G a_l_jug
    k_l_jug := k_l_jug
    b_l_right := F_l_right.binds (ps := ["_law_jug_here"]) fun _ _ _ _ _ _ us hl => match us, hl with | [_], _ => rfl
    v_l_right := PySem.W.mg_of X G a_l_right
    k_l_right := k_l_right
    F_law := F_law }
  refine ⟨_, T.tabs, TopT.sp_topT K [(P_l_right, (("_law_right" : Str) ++ ".<locals>." ++ "<lambda>"))], (List.forall_mem_cons.mpr ⟨ht_l_right, fun _ z => nomatch z⟩), (List.forall_mem_cons.mpr ⟨nt_l_right, fun _ z => nomatch z⟩), (List.forall_mem_cons.mpr ⟨PySem.W.codeHd_of_K X hc_l_right, fun _ z => nomatch z⟩), fun s v => .of_eq rfl, fun H a ns hl hb hH na hS => ⟨a, ns, rfl, hS, hl, hb, (List.forall_mem_cons.mpr ⟨hH (cc_l_right, P_l_right) (by repeat (first | exact List.mem_cons_self | apply List.mem_cons_of_mem)), fun _ z => nomatch z⟩), na, fun _ => rfl⟩, fun base _ _ TB => QD.FnG.imp (ok_law (P := l.prog) (w := w) (base := base) T TB) fun vs H Q E s => TopT.sp_topT_ok (cf := ⟨K, (fun k => if k = 0 then some (C_Fair, ns_Fair) else none), ceL T.errs⟩) (ts := [(P_l_right, (("_law_right" : Str) ++ ".<locals>." ++ "<lambda>"))]) nd_tabs law_ok s⟩
end K08
open PySem PySem.W PyProof.Rows in
set_option maxRecDepth 100000 in
set_option maxHeartbeats 0 in
theorem PySem.Challenge.cw_meetrounds_k08_whole_words_as_names_holds : PySem.Challenge.rw_meetrounds_k08_whole_words_as_names.Holds := by
  w_on; o_law; k_head; (case hw => w_witness2)
  k_fill
  refine TopT.walkT (l := PySem.Challenge.rw_meetrounds_k08_whole_words_as_names) (n := 63) (k := 10) (x := "_law_script") rfl (by decide) rfl ⟨rfl, by decide, by decide⟩ (fun w h Y => PySem.W.km_in_of Y) ?F
  case F =>
    intro w mg fa h Y KX G hmg
    refine' K08.all_mk (h := h) KX G hmg ?aC_Fair ?a_is_integer ?l_is_integer ?c_is_integer ?k_is_integer ?ld_is_integer ?a_is_name ?l_is_name ?c_is_name ?k_is_name ?a_is_pair ?l_is_pair ?c_is_pair ?k_is_pair ?a_is_member ?l_is_member ?c_is_member ?k_is_member ?a_fault ?l_fault ?c_fault ?k_fault ?a_names_of ?l_names_of ?c_names_of ?k_names_of ?a_text_of ?l_text_of ?c_text_of ?k_text_of ?a_number ?l_number ?c_number ?k_number ?a_parts_of ?l_parts_of ?c_parts_of ?k_parts_of ?a_Fairu_initu ?i_Fairu_initu ?l_Fairu_initu ?c_Fairu_initu ?k_Fairu_initu ?ld_Fairu_initu ?a_Fair_read ?r_Fair_read ?i_Fair_read ?rd_Fair ?gat_Fair ?l_Fair_read ?c_Fair_read ?k_Fair_read ?a_Fairu_containsu ?i_Fairu_containsu ?l_Fairu_containsu ?c_Fairu_containsu ?k_Fairu_containsu ?a_Fairu_stru ?i_Fairu_stru ?l_Fairu_stru ?c_Fairu_stru ?k_Fairu_stru ?a_l_jug ?l_l_jug ?c_l_jug ?k_l_jug ?a_l_pour ?l_l_pour ?c_l_pour ?k_l_pour ?a_l_bases ?l_l_bases ?c_l_bases ?k_l_bases ?a_l_is_name ?l_l_is_name ?c_l_is_name ?k_l_is_name ?a_l_odd ?l_l_odd ?c_l_odd ?k_l_odd ?a_l_class ?l_l_class ?c_l_class ?k_l_class ?a_l_keeps ?l_l_keeps ?c_l_keeps ?k_l_keeps ?a_l_told ?l_l_told ?c_l_told ?k_l_told ?a_l_drawn ?l_l_drawn ?c_l_drawn ?k_l_drawn ?a_l_right ?l_l_right ?c_l_right ?lc_l_right ?tp_l_right ?hc_l_right ?nt_l_right ?ht_l_right ?k_l_right ?a_law ?l_law ?c_law ?k_law ?pg_Fair ?hd_Fair ?po_Fair ?sa_Fair ?mk_Fair ?kc_Fair ?na_hosts_Fair ?na_guests_Fair ?na_tables_Fair ?na_names_Fair ?na_text_Fair ?ha_Fair ?hn_Fair ?htk_Fair ?hm_Fair ?kC_Fair ?kb0_Fair ?kb1_Fair ?kb2_Fair ?kb3_Fair ?kb4_Fair ?kb5_Fair ?kb6_Fair ?ko0_Fair ?ko1_Fair ?ko2_Fair ?ko3_Fair ?ko4_Fair ?ko5_Fair ?ko6_Fair ?aC_WrongValue ?aC_InvalidText ?aC_InvalidNumber ?aC_InvalidName ?aC_InvalidTables ?aC_InvalidRound ?aC_InvalidSchedule ?aC_InvalidWish ?aC_InvalidIndex ?aC_NotAFair ?aC_InvalidHosts ?aC_InvalidGuests ?aC_InvalidMeetings ?aC_InvalidUrgent ?aC_InvalidGrowth ?aC_InvalidChanges ?aC_InvalidAsked ?aC_WrongName ?aC_UnknownName ?aC_NoAnswer ?aC_TooFewRounds ?aC_TooMany ?aC_NothingToUndo ?aC_Broken ?iC_InvalidText ?fE_InvalidText ?fc_InvalidText ?saE_InvalidText ?noE_InvalidText ?tCE_InvalidText ?kCE_InvalidText ?sbE_InvalidText ?tyE_InvalidText ?hdE_InvalidText ?exE_InvalidText ?ovE_InvalidText ?gaE_InvalidText ?ggE_InvalidText ?haE_InvalidText ?hnE_InvalidText ?htE_InvalidText ?hmE_InvalidText ?nf_InvalidText_index ?nf_InvalidText_given ?kx_InvalidText_NoAnswer ?kx_InvalidText_WrongName ?kx_InvalidText_WrongValue ?kx_InvalidText_ArithmeticError ?kx_InvalidText_LookupError ?kx_InvalidText_ValueError ?kx_InvalidText_InvalidName ?kx_InvalidText_InvalidNumber ?kx_InvalidText_InvalidText ?kx_InvalidText_InvalidSchedule ?kx_InvalidText_InvalidRound ?kx_InvalidText_InvalidTables ?kx_InvalidText_NotAFair ?kx_InvalidText_InvalidIndex ?kx_InvalidText_InvalidWish ?kx_InvalidText_InvalidMeetings ?kx_InvalidText_InvalidGuests ?kx_InvalidText_InvalidHosts ?kx_InvalidText_InvalidChanges ?kx_InvalidText_InvalidGrowth ?kx_InvalidText_InvalidUrgent ?kx_InvalidText_TooFewRounds ?kx_InvalidText_UnknownName ?kx_InvalidText_InvalidAsked ?kx_InvalidText_Broken ?kx_InvalidText_NothingToUndo ?kx_InvalidText_TooMany ?xm_InvalidText ?iC_InvalidHosts ?fE_InvalidHosts ?fc_InvalidHosts ?saE_InvalidHosts ?noE_InvalidHosts ?tCE_InvalidHosts ?kCE_InvalidHosts ?sbE_InvalidHosts ?tyE_InvalidHosts ?hdE_InvalidHosts ?exE_InvalidHosts ?ovE_InvalidHosts ?gaE_InvalidHosts ?ggE_InvalidHosts ?haE_InvalidHosts ?hnE_InvalidHosts ?htE_InvalidHosts ?hmE_InvalidHosts ?nf_InvalidHosts_index ?nf_InvalidHosts_given ?kx_InvalidHosts_NoAnswer ?kx_InvalidHosts_WrongName ?kx_InvalidHosts_WrongValue ?kx_InvalidHosts_ArithmeticError ?kx_InvalidHosts_LookupError ?kx_InvalidHosts_ValueError ?kx_InvalidHosts_InvalidName ?kx_InvalidHosts_InvalidNumber ?kx_InvalidHosts_InvalidText ?kx_InvalidHosts_InvalidSchedule ?kx_InvalidHosts_InvalidRound ?kx_InvalidHosts_InvalidTables ?kx_InvalidHosts_NotAFair ?kx_InvalidHosts_InvalidIndex ?kx_InvalidHosts_InvalidWish ?kx_InvalidHosts_InvalidMeetings ?kx_InvalidHosts_InvalidGuests ?kx_InvalidHosts_InvalidHosts ?kx_InvalidHosts_InvalidChanges ?kx_InvalidHosts_InvalidGrowth ?kx_InvalidHosts_InvalidUrgent ?kx_InvalidHosts_TooFewRounds ?kx_InvalidHosts_UnknownName ?kx_InvalidHosts_InvalidAsked ?kx_InvalidHosts_Broken ?kx_InvalidHosts_NothingToUndo ?kx_InvalidHosts_TooMany ?xm_InvalidHosts ?iC_InvalidGuests ?fE_InvalidGuests ?fc_InvalidGuests ?saE_InvalidGuests ?noE_InvalidGuests ?tCE_InvalidGuests ?kCE_InvalidGuests ?sbE_InvalidGuests ?tyE_InvalidGuests ?hdE_InvalidGuests ?exE_InvalidGuests ?ovE_InvalidGuests ?gaE_InvalidGuests ?ggE_InvalidGuests ?haE_InvalidGuests ?hnE_InvalidGuests ?htE_InvalidGuests ?hmE_InvalidGuests ?nf_InvalidGuests_index ?nf_InvalidGuests_given ?kx_InvalidGuests_NoAnswer ?kx_InvalidGuests_WrongName ?kx_InvalidGuests_WrongValue ?kx_InvalidGuests_ArithmeticError ?kx_InvalidGuests_LookupError ?kx_InvalidGuests_ValueError ?kx_InvalidGuests_InvalidName ?kx_InvalidGuests_InvalidNumber ?kx_InvalidGuests_InvalidText ?kx_InvalidGuests_InvalidSchedule ?kx_InvalidGuests_InvalidRound ?kx_InvalidGuests_InvalidTables ?kx_InvalidGuests_NotAFair ?kx_InvalidGuests_InvalidIndex ?kx_InvalidGuests_InvalidWish ?kx_InvalidGuests_InvalidMeetings ?kx_InvalidGuests_InvalidGuests ?kx_InvalidGuests_InvalidHosts ?kx_InvalidGuests_InvalidChanges ?kx_InvalidGuests_InvalidGrowth ?kx_InvalidGuests_InvalidUrgent ?kx_InvalidGuests_TooFewRounds ?kx_InvalidGuests_UnknownName ?kx_InvalidGuests_InvalidAsked ?kx_InvalidGuests_Broken ?kx_InvalidGuests_NothingToUndo ?kx_InvalidGuests_TooMany ?xm_InvalidGuests ?z_int ?z_isinstance ?z_bool ?z_str ?z_len ?z_all ?z_tuple ?z_range ?z_abs ?z_divmod ?z_ArithmeticError ?z_LookupError ?z_ValueError ?z_list ?z_enumerate ?z_repr ?z_min ?z_max ?m__LONGEST_NAME ?m__FIRST_SIGNS ?m__SIGNS ?m_MOST_BOUND ?m_MOST_TABLES ?m_MOST_SIDE ?nd_tabs
    (case aC_Fair => k_is)
    (case a_is_integer => k_is)
    (case l_is_integer => k_is)
    (case c_is_integer => k_is)
    (case k_is_integer => k_is)
    (case ld_is_integer => k_is)
    (case a_is_name => k_is)
    (case l_is_name => k_is)
    (case c_is_name => k_is)
    (case k_is_name => k_is)
    (case a_is_pair => k_is)
    (case l_is_pair => k_is)
    (case c_is_pair => k_is)
    (case k_is_pair => k_is)
    (case a_is_member => k_is)
    (case l_is_member => k_is)
    (case c_is_member => k_is)
    (case k_is_member => k_is)
    (case a_fault => k_is)
    (case l_fault => k_is)
    (case c_fault => k_is)
    (case k_fault => k_is)
    (case a_names_of => k_is)
    (case l_names_of => k_is)
    (case c_names_of => k_is)
    (case k_names_of => k_is)
    (case a_text_of => k_is)
    (case l_text_of => k_is)
    (case c_text_of => k_is)
    (case k_text_of => k_is)
    (case a_number => k_is)
    (case l_number => k_is)
    (case c_number => k_is)
    (case k_number => k_is)
    (case a_parts_of => k_is)
    (case l_parts_of => k_is)
    (case c_parts_of => k_is)
    (case k_parts_of => k_is)
    (case a_Fairu_initu => k_is)
    (case i_Fairu_initu => k_is)
    (case l_Fairu_initu => k_is)
    (case c_Fairu_initu => k_is)
    (case k_Fairu_initu => k_is)
    (case ld_Fairu_initu => k_is)
    (case a_Fair_read => k_is)
    (case r_Fair_read => k_is)
    (case i_Fair_read => k_is)
    (case rd_Fair => k_is)
    (case gat_Fair => k_is)
    (case l_Fair_read => k_is)
    (case c_Fair_read => k_is)
    (case k_Fair_read => k_is)
    (case a_Fairu_containsu => k_is)
    (case i_Fairu_containsu => k_is)
    (case l_Fairu_containsu => k_is)
    (case c_Fairu_containsu => k_is)
    (case k_Fairu_containsu => k_is)
    (case a_Fairu_stru => k_is)
    (case i_Fairu_stru => k_is)
    (case l_Fairu_stru => k_is)
    (case c_Fairu_stru => k_is)
    (case k_Fairu_stru => k_is)
    (case a_l_jug => k_is)
    (case l_l_jug => k_is)
    (case c_l_jug => k_is)
    (case k_l_jug => k_is)
    (case a_l_pour => k_is)
    (case l_l_pour => k_is)
    (case c_l_pour => k_is)
    (case k_l_pour => k_is)
    (case a_l_bases => k_is)
    (case l_l_bases => k_is)
    (case c_l_bases => k_is)
    (case k_l_bases => k_is)
    (case a_l_is_name => k_is)
    (case l_l_is_name => k_is)
    (case c_l_is_name => k_is)
    (case k_l_is_name => k_is)
    (case a_l_odd => k_is)
    (case l_l_odd => k_is)
    (case c_l_odd => k_is)
    (case k_l_odd => k_is)
    (case a_l_class => k_is)
    (case l_l_class => k_is)
    (case c_l_class => k_is)
    (case k_l_class => k_is)
    (case a_l_keeps => k_is)
    (case l_l_keeps => k_is)
    (case c_l_keeps => k_is)
    (case k_l_keeps => k_is)
    (case a_l_told => k_is)
    (case l_l_told => k_is)
    (case c_l_told => k_is)
    (case k_l_told => k_is)
    (case a_l_drawn => k_is)
    (case l_l_drawn => k_is)
    (case c_l_drawn => k_is)
    (case k_l_drawn => k_is)
    (case a_l_right => k_is)
    (case l_l_right => k_is)
    (case c_l_right => k_is)
    (case lc_l_right => k_is)
    (case tp_l_right => exact rfl)
    (case hc_l_right => kernel_rfl)
    (case nt_l_right => kernel_rfl)
    (case ht_l_right => exact PySem.W.km_tabs_of Y _ (by k_mem))
    (case k_l_right => k_is)
    (case a_law => k_is)
    (case l_law => k_is)
    (case c_law => k_is)
    (case k_law => k_is)
    (case pg_Fair => k_is)
    (case hd_Fair => k_is)
    (case po_Fair => k_is)
    (case sa_Fair => k_is)
    (case mk_Fair => k_is)
    (case kc_Fair => k_is)
    (case na_hosts_Fair => k_is)
    (case na_guests_Fair => k_is)
    (case na_tables_Fair => k_is)
    (case na_names_Fair => k_is)
    (case na_text_Fair => k_is)
    (case ha_Fair => k_is)
    (case hn_Fair => k_is)
    (case htk_Fair => k_is)
    (case hm_Fair => k_is)
    (case kC_Fair => kit_is)
    (case kb0_Fair => kit_is)
    (case kb1_Fair => kit_is)
    (case kb2_Fair => kit_is)
    (case kb3_Fair => kit_is)
    (case kb4_Fair => kit_is)
    (case kb5_Fair => kit_is)
    (case kb6_Fair => kit_is)
    (case ko0_Fair => kit_is)
    (case ko1_Fair => kit_is)
    (case ko2_Fair => kit_is)
    (case ko3_Fair => kit_is)
    (case ko4_Fair => kit_is)
    (case ko5_Fair => kit_is)
    (case ko6_Fair => kit_is)
    (case aC_WrongValue => k_is)
    (case aC_InvalidText => k_is)
    (case aC_InvalidNumber => k_is)
    (case aC_InvalidName => k_is)
    (case aC_InvalidTables => k_is)
    (case aC_InvalidRound => k_is)
    (case aC_InvalidSchedule => k_is)
    (case aC_InvalidWish => k_is)
    (case aC_InvalidIndex => k_is)
    (case aC_NotAFair => k_is)
    (case aC_InvalidHosts => k_is)
    (case aC_InvalidGuests => k_is)
    (case aC_InvalidMeetings => k_is)
    (case aC_InvalidUrgent => k_is)
    (case aC_InvalidGrowth => k_is)
    (case aC_InvalidChanges => k_is)
    (case aC_InvalidAsked => k_is)
    (case aC_WrongName => k_is)
    (case aC_UnknownName => k_is)
    (case aC_NoAnswer => k_is)
    (case aC_TooFewRounds => k_is)
    (case aC_TooMany => k_is)
    (case aC_NothingToUndo => k_is)
    (case aC_Broken => k_is)
    (case iC_InvalidText => k_is)
    (case fE_InvalidText => k_is)
    (case fc_InvalidText => k_is)
    (case saE_InvalidText => k_is)
    (case noE_InvalidText => k_is)
    (case tCE_InvalidText => k_is)
    (case kCE_InvalidText => k_is)
    (case sbE_InvalidText => k_is)
    (case tyE_InvalidText => k_is)
    (case hdE_InvalidText => k_is)
    (case exE_InvalidText => kernel_rfl)
    (case ovE_InvalidText => kernel_rfl)
    (case gaE_InvalidText => k_is)
    (case ggE_InvalidText => k_is)
    (case haE_InvalidText => k_is)
    (case hnE_InvalidText => k_is)
    (case htE_InvalidText => k_is)
    (case hmE_InvalidText => k_is)
    (case nf_InvalidText_index => k_is)
    (case nf_InvalidText_given => k_is)
    (case kx_InvalidText_NoAnswer => kit_is)
    (case kx_InvalidText_WrongName => kit_is)
    (case kx_InvalidText_WrongValue => kit_is)
    (case kx_InvalidText_ArithmeticError => kit_is)
    (case kx_InvalidText_LookupError => kit_is)
    (case kx_InvalidText_ValueError => kit_is)
    (case kx_InvalidText_InvalidName => kit_is)
    (case kx_InvalidText_InvalidNumber => kit_is)
    (case kx_InvalidText_InvalidText => kit_is)
    (case kx_InvalidText_InvalidSchedule => kit_is)
    (case kx_InvalidText_InvalidRound => kit_is)
    (case kx_InvalidText_InvalidTables => kit_is)
    (case kx_InvalidText_NotAFair => kit_is)
    (case kx_InvalidText_InvalidIndex => kit_is)
    (case kx_InvalidText_InvalidWish => kit_is)
    (case kx_InvalidText_InvalidMeetings => kit_is)
    (case kx_InvalidText_InvalidGuests => kit_is)
    (case kx_InvalidText_InvalidHosts => kit_is)
    (case kx_InvalidText_InvalidChanges => kit_is)
    (case kx_InvalidText_InvalidGrowth => kit_is)
    (case kx_InvalidText_InvalidUrgent => kit_is)
    (case kx_InvalidText_TooFewRounds => kit_is)
    (case kx_InvalidText_UnknownName => kit_is)
    (case kx_InvalidText_InvalidAsked => kit_is)
    (case kx_InvalidText_Broken => kit_is)
    (case kx_InvalidText_NothingToUndo => kit_is)
    (case kx_InvalidText_TooMany => kit_is)
    (case xm_InvalidText => kernel_rfl)
    (case iC_InvalidHosts => k_is)
    (case fE_InvalidHosts => k_is)
    (case fc_InvalidHosts => k_is)
    (case saE_InvalidHosts => k_is)
    (case noE_InvalidHosts => k_is)
    (case tCE_InvalidHosts => k_is)
    (case kCE_InvalidHosts => k_is)
    (case sbE_InvalidHosts => k_is)
    (case tyE_InvalidHosts => k_is)
    (case hdE_InvalidHosts => k_is)
    (case exE_InvalidHosts => kernel_rfl)
    (case ovE_InvalidHosts => kernel_rfl)
    (case gaE_InvalidHosts => k_is)
    (case ggE_InvalidHosts => k_is)
    (case haE_InvalidHosts => k_is)
    (case hnE_InvalidHosts => k_is)
    (case htE_InvalidHosts => k_is)
    (case hmE_InvalidHosts => k_is)
    (case nf_InvalidHosts_index => k_is)
    (case nf_InvalidHosts_given => k_is)
    (case kx_InvalidHosts_NoAnswer => kit_is)
    (case kx_InvalidHosts_WrongName => kit_is)
    (case kx_InvalidHosts_WrongValue => kit_is)
    (case kx_InvalidHosts_ArithmeticError => kit_is)
    (case kx_InvalidHosts_LookupError => kit_is)
    (case kx_InvalidHosts_ValueError => kit_is)
    (case kx_InvalidHosts_InvalidName => kit_is)
    (case kx_InvalidHosts_InvalidNumber => kit_is)
    (case kx_InvalidHosts_InvalidText => kit_is)
    (case kx_InvalidHosts_InvalidSchedule => kit_is)
    (case kx_InvalidHosts_InvalidRound => kit_is)
    (case kx_InvalidHosts_InvalidTables => kit_is)
    (case kx_InvalidHosts_NotAFair => kit_is)
    (case kx_InvalidHosts_InvalidIndex => kit_is)
    (case kx_InvalidHosts_InvalidWish => kit_is)
    (case kx_InvalidHosts_InvalidMeetings => kit_is)
    (case kx_InvalidHosts_InvalidGuests => kit_is)
    (case kx_InvalidHosts_InvalidHosts => kit_is)
    (case kx_InvalidHosts_InvalidChanges => kit_is)
    (case kx_InvalidHosts_InvalidGrowth => kit_is)
    (case kx_InvalidHosts_InvalidUrgent => kit_is)
    (case kx_InvalidHosts_TooFewRounds => kit_is)
    (case kx_InvalidHosts_UnknownName => kit_is)
    (case kx_InvalidHosts_InvalidAsked => kit_is)
    (case kx_InvalidHosts_Broken => kit_is)
    (case kx_InvalidHosts_NothingToUndo => kit_is)
    (case kx_InvalidHosts_TooMany => kit_is)
    (case xm_InvalidHosts => kernel_rfl)
    (case iC_InvalidGuests => k_is)
    (case fE_InvalidGuests => k_is)
    (case fc_InvalidGuests => k_is)
    (case saE_InvalidGuests => k_is)
    (case noE_InvalidGuests => k_is)
    (case tCE_InvalidGuests => k_is)
    (case kCE_InvalidGuests => k_is)
    (case sbE_InvalidGuests => k_is)
    (case tyE_InvalidGuests => k_is)
    (case hdE_InvalidGuests => k_is)
    (case exE_InvalidGuests => kernel_rfl)
    (case ovE_InvalidGuests => kernel_rfl)
    (case gaE_InvalidGuests => k_is)
    (case ggE_InvalidGuests => k_is)
    (case haE_InvalidGuests => k_is)
    (case hnE_InvalidGuests => k_is)
    (case htE_InvalidGuests => k_is)
    (case hmE_InvalidGuests => k_is)
    (case nf_InvalidGuests_index => k_is)
    (case nf_InvalidGuests_given => k_is)
    (case kx_InvalidGuests_NoAnswer => kit_is)
    (case kx_InvalidGuests_WrongName => kit_is)
    (case kx_InvalidGuests_WrongValue => kit_is)
    (case kx_InvalidGuests_ArithmeticError => kit_is)
    (case kx_InvalidGuests_LookupError => kit_is)
    (case kx_InvalidGuests_ValueError => kit_is)
    (case kx_InvalidGuests_InvalidName => kit_is)
    (case kx_InvalidGuests_InvalidNumber => kit_is)
    (case kx_InvalidGuests_InvalidText => kit_is)
    (case kx_InvalidGuests_InvalidSchedule => kit_is)
    (case kx_InvalidGuests_InvalidRound => kit_is)
    (case kx_InvalidGuests_InvalidTables => kit_is)
    (case kx_InvalidGuests_NotAFair => kit_is)
    (case kx_InvalidGuests_InvalidIndex => kit_is)
    (case kx_InvalidGuests_InvalidWish => kit_is)
    (case kx_InvalidGuests_InvalidMeetings => kit_is)
    (case kx_InvalidGuests_InvalidGuests => kit_is)
    (case kx_InvalidGuests_InvalidHosts => kit_is)
    (case kx_InvalidGuests_InvalidChanges => kit_is)
    (case kx_InvalidGuests_InvalidGrowth => kit_is)
    (case kx_InvalidGuests_InvalidUrgent => kit_is)
    (case kx_InvalidGuests_TooFewRounds => kit_is)
    (case kx_InvalidGuests_UnknownName => kit_is)
    (case kx_InvalidGuests_InvalidAsked => kit_is)
    (case kx_InvalidGuests_Broken => kit_is)
    (case kx_InvalidGuests_NothingToUndo => kit_is)
    (case kx_InvalidGuests_TooMany => kit_is)
    (case xm_InvalidGuests => kernel_rfl)
    (case z_int => k_is)
    (case z_isinstance => k_is)
    (case z_bool => k_is)
    (case z_str => k_is)
    (case z_len => k_is)
    (case z_all => k_is)
    (case z_tuple => k_is)
    (case z_range => k_is)
    (case z_abs => k_is)
    (case z_divmod => k_is)
    (case z_ArithmeticError => k_is)
    (case z_LookupError => k_is)
    (case z_ValueError => k_is)
    (case z_list => k_is)
    (case z_enumerate => k_is)
    (case z_repr => k_is)
    (case z_min => k_is)
    (case z_max => k_is)
    (case m__LONGEST_NAME => k_is)
    (case m__FIRST_SIGNS => k_is)
    (case m__SIGNS => k_is)
    (case m_MOST_BOUND => k_is)
    (case m_MOST_TABLES => k_is)
    (case m_MOST_SIDE => k_is)
    (case nd_tabs => decide)
