import PyProof.Rows.All
import Wide.All
import OpenK.AllK
import Wide.FinOn
import HandS.ForMost
import HandS.Exc
import HandS.ExcInit
import HandS.Flow
import HandS.Style
import HandS.TupAny
import HandS.TupLe
import HandS.TupMul
import HandS.IsInst
import HandS.Lambda
import KE.KExcIs
import HandS.ExcValue
import HandS.ExcField
import HandS.ExcIs
import PyProof.StrLawsRepr
import PyProof.Rows.ReprOcc
import HandS.Dict
import HandS.DictEq
import HandS.TryMany
import HandS.ExcOwn
import HandS.OwnEq
import HandS.DeepEq
import KE.GoesMore
import HandS.EndOwn
import HandS.CallLocal
import HandS.Conv
import KE.KAssignIn
import HandS.Text
import HandS.FStr
import HandS.Iter
import HandS.More
import PyProof.StrOps2
import PySem.Challenge.RW_anylead_k33_texts_of_plays
import KE.IntTextLaws
import PyProof.Rows.StrSplitJoin
set_option Elab.async false
set_option linter.all false
set_option maxRecDepth 100000
set_option maxHeartbeats 0
set_option exponentiation.threshold 3000
/-! DW0: defs that may ask for a text of data (repr): they are promised where nothing is being shown (g = true). -/
namespace DW
open PySem PySem.Spec PySem.Calls L2

/-- a def keeps sp; with g = true only where no text of data is being made -/
structure FnG (g : Bool) (P : Program) (w : World) (K : PySem.W.Frag) (mg : Str → Option Value) (base : Heap) (CX : CXT) (k : Nat) (f : Addr) (fd : FuncData) (ps : List Str) (sp : Sp) : Prop where
  len : ∀ vs H Q E, sp vs H Q E → vs.length = ps.length
  run : ∀ (A : Around) (outer : List PySem.Env) (s : Shared) (H : Hp) (args : Args) (us : List Value) (vs : List V) (Q : VK) (E : XK), Room k A → (g = true → A.guards = some []) → Env0 P w K mg base A outer s H →
    BindsTo s fd args (ps.zip us) → Vals vs us → sp vs H Q E → codeAny (model P w) A (.call (.ref f) args) (CR CX outer P w H s Q E) s
theorem FnG.of {g : Bool} {P : Program} {w : World} {K : PySem.W.Frag} {mg : Str → Option Value} {base : Heap} {CX : CXT} {k : Nat} {f : Addr} {fd : FuncData} {ps : List Str} {sp : Sp} (F : FnOk P w K mg base CX k f fd ps sp) : FnG g P w K mg base CX k f fd ps sp :=
  ⟨F.len, fun A outer s H args us vs Q E hr _ => F.run A outer s H args us vs Q E hr⟩
theorem FnG.ok {P : Program} {w : World} {K : PySem.W.Frag} {mg : Str → Option Value} {base : Heap} {CX : CXT} {k : Nat} {f : Addr} {fd : FuncData} {ps : List Str} {sp : Sp} (F : FnG false P w K mg base CX k f fd ps sp) : FnOk P w K mg base CX k f fd ps sp :=
  ⟨F.len, fun A outer s H args us vs Q E hr => F.run A outer s H args us vs Q E hr (fun z => nomatch z)⟩
theorem FnG.mono {g : Bool} {P : Program} {w : World} {K : PySem.W.Frag} {mg : Str → Option Value} {base : Heap} {CX : CXT} {j k : Nat} {f : Addr} {fd : FuncData} {ps : List Str} {sp : Sp} (F : FnG g P w K mg base CX j f fd ps sp) (h : j ≤ k) : FnG g P w K mg base CX k f fd ps sp :=
  ⟨F.len, fun A outer s H args us vs Q E hr => F.run A outer s H args us vs Q E (hr.mono h)⟩
theorem FnG.any {g : Bool} {P : Program} {w : World} {K : PySem.W.Frag} {mg : Str → Option Value} {base : Heap} {CX : CXT} {k : Nat} {f : Addr} {fd : FuncData} {ps : List Str} {sp : Sp} (F : FnG g P w K mg base CX k f fd ps sp) : FnG true P w K mg base CX k f fd ps sp :=
  ⟨F.len, fun A outer s H args us vs Q E hr hg => F.run A outer s H args us vs Q E hr fun _ => hg rfl⟩

/-- a def is called at s: its body's walk there -/
theorem run_def {CX : CXT} {P : Program} {w : World} {K : PySem.W.Frag} {mg : Str → Option Value} {base : Heap} {k : Nat} {f : Addr} {x qual : Str} {st : Stmt} {fd : FuncData} {N ps : List Str} (F : Fun K x qual st f fd) (S : FnScope N ps (defScope st))
    {A : Around} {outer : List PySem.Env} {s : Shared} {H : Hp} {args : Args} {us : List Value} {vs : List V} {Q : VK} {E : XK} (hr : Room (k + 1) A) (env : Env0 P w K mg base A outer s H) (bnd : BindsTo s fd args (ps.zip us)) (rel : Vals vs us) (count : vs.length = ps.length)
    (body : ∀ cdv : Value, fd.code = cdv → Room k (A.deeper (PyProof.Rows.envOfC qual (defScope st) s.heap.objs.size f cdv)) →
      ∃ t, PSs (cxOf CX P w K mg base N qual (defScope st) f cdv A outer s H E) (defBody st) t ∧ t { nx := fun _ H' => Q .non H', rt := Q } (L2.start N vs) H) :
    codeAny (model P w) A (.call (.ref f) args) (CR CX outer P w H s Q E) s := by
  obtain ⟨oc, od, kV, doc, pm, an, cdv, ct, osl, rfl, lk, hcd⟩ := F.ex
  have old : ∀ b o, base.get? b = some o → s.heap.get? b = some o := fun b o e => (env.bs b o e).1
  have written : K.In s.heap := env.mod.kin.keeps old
  have kinds : ∀ y ∈ ps.zip us, (defScope st).names.lookup y.1 = some .local ∨ ((defScope st).names.lookup y.1 = some .cell ∧ ((cellsFrom (s.heap.objs.size + 1) (defScope st).names []).lookup y.1).isSome = true) := by
    rintro ⟨n, u⟩ hy
    cases S.par n (List.of_mem_zip hy).1 with
    | inl q => exact Or.inl q
    | inr q => exact Or.inr ⟨q, PySem.W.cellsFrom_some _ _ _ (Or.inl q)⟩
  refine codeAny_call_function hr.depth (written _ _ lk) rfl S.co S.gen rfl (PySem.W.codeRec_of written hcd) (bnd _ _ _ _ ?_)
  refine wpAny_newFunctionEnv_cells S.kind kinds fun env1 he s1 made => ?_
  subst he
  refine ⟨(env.mod.nolimit.keeps old).keeps made.toInCall.keep, codeAny_func ?_⟩
  obtain ⟨t, derived, reads⟩ := body cdv rfl (hr.deeper _)
  have start1 := inv_start (CX := CX) (E := E) (qual := qual) (f := f) S hr.hd env count rel made
  refine wpAny_mono (derived.run [] s1 _ H _ start1 reads) (fun flow s2 post => ?_) fun err s2 post => post
  cases flow with
  | ret u =>
    obtain ⟨v, σ2, H2, J, rv, q⟩ := post
    exact ⟨v, H2, J.os, J.bare, J.base, J.hok, rv, q⟩
  | next =>
    obtain ⟨σ2, H2, J, q⟩ := post
    exact ⟨V.non, H2, J.os, J.bare, J.base, J.hok, rfl, q⟩
  | brk => exact (post.elim fun _ z => z.elim fun _ z => z.2).elim
  | cont => exact (post.elim fun _ z => z.elim fun _ z => z.2).elim
/-- a body's walk makes the promise -/
theorem fnG_of {g : Bool} {CX : CXT} {P : Program} {w : World} {K : PySem.W.Frag} {mg : Str → Option Value} {base : Heap} {k : Nat} {f : Addr} {x qual : Str} {st : Stmt} {fd : FuncData} {N ps : List Str} {sp : Sp} (F : Fun K x qual st f fd) (S : FnScope N ps (defScope st)) (len : ∀ vs H Q E, sp vs H Q E → vs.length = ps.length)
    (body : ∀ (cdv : Value) (A : Around) (outer : List PySem.Env) (s : Shared) (H : Hp) (vs : List V) (Q : VK) (E : XK), Room k (A.deeper (PyProof.Rows.envOfC qual (defScope st) s.heap.objs.size f cdv)) → (g = true → A.guards = some []) → fd.code = cdv → sp vs H Q E →
      ∃ t, PSs (cxOf CX P w K mg base N qual (defScope st) f cdv A outer s H E) (defBody st) t ∧ t { nx := fun _ H' => Q .non H', rt := Q } (L2.start N vs) H) : FnG g P w K mg base CX (k + 1) f fd ps sp :=
  ⟨len, fun A outer s H args us vs Q E hr hg env bnd rel hs => run_def F S hr env bnd rel (len vs H Q E hs) fun cdv hcd hr' => body cdv A outer s H vs Q E hr' hg hcd hs⟩

section
variable {X : Cx} {CX : CXT} {g : Bool} {k : Nat} {f : Addr} {fd : FuncData} {ps : List Str} {sp : Sp} {E : XK} {x : Str} {p pos : Pos} {e : Expr} {es : List Expr} {t : TA}
theorem runG {pins : List (Addr × Obj)} {σ : L2.St} {H : Hp} {s : Shared} {Q : VK} {us : List Value} {vs : List V} (F : FnG g X.prog X.w X.K X.mg X.base CX k f fd ps sp) (hr : Room k X.A) (hg : g = true → X.A.guards = some []) (hb : Binds X.K fd ps []) (hx : Passes CX X E)
    (I : Inv X pins σ H s) (r : Vals vs us) (h : sp vs H Q E) : wpAny (model X.prog X.w) X.A (call (.ref f) us) (EP X pins σ Q) X.xe s := by
  have count : us.length = ps.length := by
    rw [← r.length]
    exact F.len vs H Q E h
  have bnd : BindsTo s fd ⟨us, []⟩ (ps.zip us) := by
    have z := hb s us I.kIn (by rw [List.append_nil]; exact count)
    rwa [List.append_nil] at z
  refine wpAny_call (codeAny_mono (F.run X.A X.stack s H ⟨us, []⟩ us vs Q E hr hg I.env0 bnd r h) fun res s2 post => ?_)
  match res, post with
  | .error err, post => exact hx pins σ H s err s2 I post
  | .ok (.ret u), post => exact I.after post
theorem pe_callG (F : FnG g X.prog X.w X.K X.mg X.base CX k f fd ps sp) (hr : Room k X.A) (hg : g = true → X.A.guards = some []) (gl : Gl X x) (hm : X.mg x = some (.ref f)) (hk : PySem.W.keepIn X.K (.ref f) = true) (hb : Binds X.K fd ps []) (hx : Passes CX X E)
    (ha : PA X (e :: es) t) (hdb : (x == ("__debug__" : Str)) = false := by decide) (he : starEach (e :: es) X.env = (false, eval e X.env) :: starEach es X.env := by rfl) (hpl : (backTo pos (starEach es X.env)).any (·.1) = false := by rfl) :
    PE X (.Call (.Name x p) (e :: es) [] pos) (tCall sp [] E t) := by
  constructor
  intro pins s σ H Q I h
  refine wpAny_Call_Name_kw (ld_glob I gl hm ?_ hdb)
  refine PySem.W.callWith_K (h₀ := X.base) I.ok.mod.kin hk (thn (ha.run pos pins s σ H _ I h) ?_) he hpl
  rintro us s1 ⟨vs, H1, I1, r, q⟩
  rw [List.append_nil] at q
  exact ⟨I1.kIn, runG F hr hg hb hx I1 r q⟩
theorem pe_callG0 (F : FnG g X.prog X.w X.K X.mg X.base CX k f fd ps sp) (hr : Room k X.A) (hg : g = true → X.A.guards = some []) (gl : Gl X x) (hm : X.mg x = some (.ref f)) (hk : PySem.W.keepIn X.K (.ref f) = true) (hb : Binds X.K fd ps []) (hx : Passes CX X E)
    (hdb : (x == ("__debug__" : Str)) = false := by decide) : PE X (.Call (.Name x p) [] [] pos) (tCall sp [] E tNil) := by
  constructor
  intro pins s σ H Q I h
  refine wpAny_Call_Name_kw (ld_glob I gl hm ?_ hdb)
  exact PySem.W.callWith_K0 I.kIn hk (runG (us := []) F hr hg hb hx I .nil h)
end
end DW

/-! DW: a calculus of plain data over the hand layer. An expression's reading is told over data alone; the heap is dealt with once, here. -/
namespace DW
open PySem PySem.Spec L2

/-- plain data: what a value says, wherever it stands -/
inductive D where
  | non | bl (b : Bool) | int (i : Int) | str (s : Str)
  | lst (ds : List D) | tup (ds : List D)
  | obj (C : Addr) (fs : List (Str × D))
  | exc (C : Addr) (fs : List (Str × D))
  | dct (fs : List (Str × D))
  | pen
  | opq
  | gf (a : Addr)

/-- entries of a dict whose keys are texts -/
def inrK (fs : List (Str × V)) : List (Key × V) := fs.map fun f => (Sum.inr f.1, f.2)
mutual
inductive Rep (p : Option Addr) (K : PySem.W.Frag) (H : Hp) : V → D → Prop
  | non : Rep p K H .non .non
  | bl (b : Bool) : Rep p K H (.bl b) (.bl b)
  | int (i : Int) : Rep p K H (.int i) (.int i)
  | str (x : Str) : Rep p K H (.str x) (.str x)
  | lst {a : Addr} {xs : List V} {ds : List D} : H a = some (.lst xs) → RepA p K H xs ds → Rep p K H (.ref a) (.lst ds)
  | tup {a : Addr} {xs : List V} {ds : List D} : SqT K H a xs → RepA p K H xs ds → Rep p K H (.ref a) (.tup ds)
  | obj {a C dx : Addr} {fs : List (Str × V)} {ds : List (Str × D)} : H a = some (.ins C dx fs) → RepF p K H fs ds → Rep p K H (.ref a) (.obj C ds)
  | exc {a C d : Addr} {fs : List (Str × V)} {ds : List (Str × D)} : H a = some (exo a C (some d)) → H d = some (exd d fs) → RepF p K H fs ds → Rep p K H (.ref a) (.exc C ds)
  | exc0 {a C : Addr} : H a = some (exo a C none) → Rep p K H (.ref a) (.exc C [])
  | dct {a : Addr} {fs : List (Str × V)} {ds : List (Str × D)} : H a = some (.dK (inrK fs)) → RepF p K H fs ds → Rep p K H (.ref a) (.dct ds)
  | pen {a : Addr} : p = some a → Rep p K H (.ref a) .pen
  | opq {a : Addr} {kvs : List (Key × V)} : H a = some (.dK kvs) → Rep p K H (.ref a) .opq
  | gf {a : Addr} : Rep p K H (.ref a) (.gf a)
inductive RepA (p : Option Addr) (K : PySem.W.Frag) (H : Hp) : List V → List D → Prop
  | nil : RepA p K H [] []
  | cons {v : V} {d : D} {vs : List V} {ds : List D} : Rep p K H v d → RepA p K H vs ds → RepA p K H (v :: vs) (d :: ds)
inductive RepF (p : Option Addr) (K : PySem.W.Frag) (H : Hp) : List (Str × V) → List (Str × D) → Prop
  | nil : RepF p K H [] []
  | cons {f : Str} {v : V} {d : D} {vs : List (Str × V)} {ds : List (Str × D)} : Rep p K H v d → RepF p K H vs ds → RepF p K H ((f, v) :: vs) ((f, d) :: ds)
end

def Ext (H H' : Hp) : Prop := ∀ b o, H b = some o → H' b = some o

section
variable {p : Option Addr} {K : PySem.W.Frag} {H H' : Hp}
theorem SqT.ext {a : Addr} {xs : List V} (h : SqT K H a xs) (e : Ext H H') : SqT K H' a xs := by
  rcases h with (h | ⟨o, h⟩) | h
  · exact .inl (.inl (e _ _ h))
  · exact .inl (.inr ⟨o, e _ _ h⟩)
  · exact .inr h
mutual
theorem Rep.ext (e : Ext H H') : ∀ {v : V} {d : D}, Rep p K H v d → Rep p K H' v d
  | _, _, .non => .non
  | _, _, .bl b => .bl b
  | _, _, .int i => .int i
  | _, _, .str x => .str x
  | _, _, .lst h r => .lst (e _ _ h) (RepA.ext e r)
  | _, _, .tup h r => .tup (SqT.ext h e) (RepA.ext e r)
  | _, _, .obj h r => .obj (e _ _ h) (RepF.ext e r)
  | _, _, .exc h h2 r => .exc (e _ _ h) (e _ _ h2) (RepF.ext e r)
  | _, _, .exc0 h => .exc0 (e _ _ h)
  | _, _, .dct h r => .dct (e _ _ h) (RepF.ext e r)
  | _, _, .pen h => .pen h
  | _, _, .opq h => .opq (e _ _ h)
  | _, _, .gf => .gf
theorem RepA.ext (e : Ext H H') : ∀ {v : List V} {d : List D}, RepA p K H v d → RepA p K H' v d
  | _, _, .nil => .nil
  | _, _, .cons h r => .cons (Rep.ext e h) (RepA.ext e r)
theorem RepF.ext (e : Ext H H') : ∀ {v : List (Str × V)} {d : List (Str × D)}, RepF p K H v d → RepF p K H' v d
  | _, _, .nil => .nil
  | _, _, .cons h r => .cons (Rep.ext e h) (RepF.ext e r)
end
theorem RepA.length : ∀ {v : List V} {d : List D}, RepA p K H v d → v.length = d.length
  | _, _, .nil => rfl
  | _, _, .cons _ r => congrArg (· + 1) (RepA.length r)
theorem RepA.get : ∀ {vs : List V} {ds : List D} {i : Nat} {d : D}, RepA p K H vs ds → ds[i]? = some d → ∃ v, vs[i]? = some v ∧ Rep p K H v d
  | _, _, _, _, .nil, h => by simp at h
  | _, _, 0, _, .cons h _, e => by
    simp at e
    subst e
    exact ⟨_, rfl, h⟩
  | _, _, i + 1, d, .cons _ r, e => by
    obtain ⟨v, h1, h2⟩ := RepA.get (i := i) (d := d) r (by simpa using e)
    exact ⟨v, by simpa using h1, h2⟩
theorem RepA.getV : ∀ {vs : List V} {ds : List D} {i : Nat} {v : V}, RepA p K H vs ds → vs[i]? = some v → ∃ d, ds[i]? = some d ∧ Rep p K H v d
  | _, _, _, _, .nil, h => by simp at h
  | _, _, 0, _, .cons h _, e => by
    simp at e
    subst e
    exact ⟨_, rfl, h⟩
  | _, _, i + 1, d, .cons _ r, e => by
    obtain ⟨v, h1, h2⟩ := RepA.getV (i := i) r (by simpa using e)
    exact ⟨v, by simpa using h1, h2⟩
theorem RepA.append : ∀ {vs ws : List V} {ds es : List D}, RepA p K H vs ds → RepA p K H ws es → RepA p K H (vs ++ ws) (ds ++ es)
  | _, _, _, _, .nil, s => s
  | _, _, _, _, .cons h r, s => .cons h (RepA.append r s)
theorem RepA.one {v : V} {d : D} (h : Rep p K H v d) : RepA p K H [v] [d] := .cons h .nil
theorem RepA.take : ∀ {vs : List V} {ds : List D} (n : Nat), RepA p K H vs ds → RepA p K H (vs.take n) (ds.take n)
  | _, _, 0, _ => .nil
  | _, _, _ + 1, .nil => .nil
  | _, _, n + 1, .cons h r => .cons h (RepA.take n r)
theorem RepA.drop : ∀ {vs : List V} {ds : List D} (n : Nat), RepA p K H vs ds → RepA p K H (vs.drop n) (ds.drop n)
  | _, _, 0, r => r
  | _, _, _ + 1, .nil => .nil
  | _, _, n + 1, .cons _ r => RepA.drop n r
theorem RepA.set {v : V} {d : D} (h : Rep p K H v d) : ∀ {vs : List V} {ds : List D} (i : Nat), RepA p K H vs ds → RepA p K H (vs.set i v) (ds.set i d)
  | _, _, _, .nil => .nil
  | _, _, 0, .cons _ r => .cons h r
  | _, _, i + 1, .cons q r => .cons q (RepA.set h i r)
theorem RepA.ints : ∀ {vs : List V} {ns : List Int}, RepA p K H vs (ns.map D.int) → vs = ns.map V.int
  | _, [], .nil => rfl
  | _, n :: ns, .cons h r => by
    cases h
    rw [RepA.ints r]
    rfl
theorem RepF.look : ∀ {fs : List (Str × V)} {ds : List (Str × D)} {f : Str} {d : D}, RepF p K H fs ds → ds.lookup f = some d → ∃ v, fs.lookup f = some v ∧ Rep p K H v d
  | _, _, _, _, .nil, h => by cases h
  | _, _, f, d, .cons (f := g) h r, e => by
    by_cases q : f = g
    · subst q
      simp [List.lookup] at e
      subst e
      exact ⟨_, by simp [List.lookup], h⟩
    · have q' : (f == g) = false := by simpa using q
      simp [List.lookup, q'] at e
      obtain ⟨v, h1, h2⟩ := RepF.look r e
      exact ⟨v, by simp [List.lookup, q', h1], h2⟩
theorem RepF.none : ∀ {fs : List (Str × V)} {ds : List (Str × D)} {f : Str}, RepF p K H fs ds → ds.lookup f = Option.none → fs.lookup f = Option.none
  | _, _, _, .nil, h => rfl
  | _, _, f, .cons (f := g) h r, e => by
    by_cases q : f = g
    · subst q
      simp [List.lookup] at e
    · have q' : (f == g) = false := by simpa using q
      unfold List.lookup at e ⊢
      rw [q'] at e ⊢
      exact RepF.none r e
end

/-- the heap without what is owned -/
def cut (A : List Addr) (H : Hp) : Hp := fun b => if b ∈ A then none else H b
theorem cut_some {A : List Addr} {H : Hp} {b : Addr} {o : HO} (h : cut A H b = some o) : b ∉ A ∧ H b = some o := by
  unfold cut at h
  by_cases q : b ∈ A
  · rw [if_pos q] at h
    cases h
  · rw [if_neg q] at h
    exact ⟨q, h⟩
theorem cut_of {A : List Addr} {H : Hp} {b : Addr} {o : HO} (q : b ∉ A) (h : H b = some o) : cut A H b = some o := by
  unfold cut
  rw [if_neg q]
  exact h
theorem cut_ext {A : List Addr} {H : Hp} : Ext (cut A H) H := fun _ _ h => (cut_some h).2
/-- all but what is owned stays -/
def Grow (A : List Addr) (H H' : Hp) : Prop := ∀ b o, b ∉ A → H b = some o → H' b = some o
theorem Grow.refl {A : List Addr} {H : Hp} : Grow A H H := fun _ _ _ h => h
theorem Grow.trans {A : List Addr} {H H1 H2 : Hp} (a : Grow A H H1) (b : Grow A H1 H2) : Grow A H H2 := fun x o n h => b x o n (a x o n h)
theorem Grow.cut {A : List Addr} {H H' : Hp} (g : Grow A H H') : Ext (cut A H) (DW.cut A H') := fun b o h => by
  obtain ⟨n, q⟩ := cut_some h
  exact cut_of n (g b o n q)
theorem Grow.new {A : List Addr} {H : Hp} {a : Addr} {o : HO} (h : H a = none) : Grow A H (upd H a o) := fun b u _ e => by
  rw [upd_ne (ne_of_none e h)]
  exact e
theorem cut_sub {A B : List Addr} {H : Hp} (s : ∀ a ∈ B, a ∈ A) : Ext (cut A H) (cut B H) := fun b o h => by
  obtain ⟨n, q⟩ := cut_some h
  exact cut_of (fun z => n (s b z)) q

/-- the pen: the law's draws. Behind at most m draws -/
def penKvs (c : Addr) (at_ digits count fold : Int) : List (Key × V) :=
  [(Sum.inr ("cells" : Str), .ref c), (Sum.inr ("at" : Str), .int at_), (Sum.inr ("digits" : Str), .int digits), (Sum.inr ("count" : Str), .int count), (Sum.inr ("fold" : Str), .int fold)]
structure PenAt (H : Hp) (q c : Addr) (m : Nat) : Prop where
  ex : ∃ (ns : List Int) (i : Nat) (digits count fold : Int), H q = some (.dK (penKvs c i digits count fold)) ∧ H c = some (.lst (ns.map V.int)) ∧ i ≤ ns.length ∧ ns.length ≤ 63 ∧ 0 ≤ digits ∧
    0 ≤ count ∧ count ≤ m ∧ 0 ≤ fold ∧ fold < 2147483587
theorem PenAt.mono {H : Hp} {q c : Addr} {m n : Nat} (h : PenAt H q c m) (l : m ≤ n) : PenAt H q c n := by
  obtain ⟨ns, i, dg, ct, fd, h1, h2, h3, h4, h5, h6, h7, h8⟩ := h.ex
  exact ⟨ns, i, dg, ct, fd, h1, h2, h3, h4, h5, h6, by omega, h8⟩
theorem PenAt.keep {H H' : Hp} {q c : Addr} {m : Nat} (h : PenAt H q c m) (e : Ext H H') : PenAt H' q c m := by
  obtain ⟨ns, i, dg, ct, fd, h1, h2, h3⟩ := h.ex
  exact ⟨ns, i, dg, ct, fd, e _ _ h1, e _ _ h2, h3⟩

/-- what is changed from outside: the pen, tables of code objects -/
def VolP (T : List (Addr × Str)) (p : Option Addr) (b : Addr) : Prop := p = some b ∨ b ∈ T.map (·.1)
structure Amb (T : List (Addr × Str)) (p : Option Addr) (cc : Addr) (m : Nat) (H : Hp) : Prop where
  pen : ∀ q, p = some q → PenAt H q cc m
  tab : LamX.Tabs T H
theorem Amb.keep {T : List (Addr × Str)} {p : Option Addr} {cc : Addr} {m : Nat} {H H' : Hp} (h : Amb T p cc m H) (e : Ext H H') : Amb T p cc m H' := ⟨fun q z => (h.pen q z).keep e, h.tab.ext e⟩
/-- what stays fixed through a def's body: the heap at its entry, the pen, the tables, what its callers own -/
structure Org where
  T : List (Addr × Str)
  p : Option Addr
  cc : Addr
  A0 : List Addr
  H00 : Hp
structure C0 extends Org where
  H0 : Hp
  ca : Option (Addr × Value × Option Addr) := none
abbrev C0.Vol (c : C0) (b : Addr) : Prop := VolP c.T c.p b
abbrev C0.Am (c : C0) (m : Nat) (H : Hp) : Prop := Amb c.T c.p c.cc m H

/-- an object of the def's own: a list, an instance, a dict with texts as keys -/
inductive Own where
  | lst (ds : List D)
  | ins (x C : Addr) (fs : List (Str × D))
  | dct (fs : List (Str × D))
inductive OwnO (p : Option Addr) (K : PySem.W.Frag) (H : Hp) : Addr → HO → Own → Prop
  | lst {l : Addr} {xs : List V} {ds : List D} : RepA p K H xs ds → OwnO p K H l (.lst xs) (.lst ds)
  | ins {x C dx : Addr} {gs : List (Str × V)} {fs : List (Str × D)} : RepF p K H gs fs → OwnO p K H x (.ins C dx gs) (.ins x C fs)
  | dct {l : Addr} {gs : List (Str × V)} {fs : List (Str × D)} : RepF p K H gs fs → OwnO p K H l (.dK (inrK gs)) (.dct fs)
theorem OwnO.ext {p : Option Addr} {K : PySem.W.Frag} {H H' : Hp} {l : Addr} {u : HO} {o : Own} (h : OwnO p K H l u o) (e : Ext H H') : OwnO p K H' l u o := by
  cases h with
  | lst r => exact .lst (r.ext e)
  | ins r => exact .ins (r.ext e)
  | dct r => exact .dct (r.ext e)
theorem OwnO.noExt {p : Option Addr} {K : PySem.W.Frag} {H : Hp} {l : Addr} {u : HO} {o : Own} (h : OwnO p K H l u o) (φ : Heap → Prop) : u ≠ .ext φ := by
  cases h <;> exact fun z => nomatch z
/-- what a caught exception's dict holds -/
def ExcF (p : Option Addr) (K : PySem.W.Frag) (H : Hp) (d : Option Addr) (fs : List (Str × D)) : Prop := (d = none ∧ fs = []) ∨ ∃ q gs, d = some q ∧ H q = some (.xd gs) ∧ RepF p K H gs fs
theorem ExcF.ext {p : Option Addr} {K : PySem.W.Frag} {H H' : Hp} {d : Option Addr} {fs : List (Str × D)} (h : ExcF p K H d fs) (e : Ext H H') : ExcF p K H' d fs := h.imp id fun ⟨q, gs, a, b, r⟩ => ⟨q, gs, a, e _ _ b, r.ext e⟩
inductive Cell where
  | un
  | dat (d : D)
  | own (o : Own)
  | cau (C : Addr) (fs : List (Str × D))
  | raw (v : V)
abbrev Env := List Cell

def CellOk (K : PySem.W.Frag) (c : C0) (A : List Addr) (H : Hp) (ρ : DW.Env) (σ : L2.St) (i : Nat) : Cell → Prop
  | .un => True
  | .dat d => ∃ v, σ[i]? = some (some v) ∧ Rep c.p K (cut A H) v d
  | .own ds => ∃ l xs, σ[i]? = some (some (.ref l)) ∧ l ∈ A ∧ l ∉ c.A0 ∧ H l = some xs ∧ OwnO c.p K (cut A H) l xs ds ∧ ∀ j es, j ≠ i → ρ[j]? = some (.own es) → σ[j]? ≠ some (some (.ref l))
  | .cau C fs => ∃ a d, c.ca = some (a, .ref C, d) ∧ σ[i]? = some (some (.ref a)) ∧ ExcF c.p K (cut A H) d fs
  | .raw v => σ[i]? = some (some v)
/-- behind a step: the entry's objects but what is changed from outside are as they were -/
structure Base (K : PySem.W.Frag) (c : C0) (A : List Addr) (m : Nat) (H : Hp) : Prop where
  ex : ∀ b o, ¬ c.Vol b → c.H0 b = some o → H b = some o
  ex0 : ∀ b o, ¬ c.Vol b → c.H00 b = some o → H b = some o
  am : c.Am m H
  pin : ∀ q, c.p = some q → q ∈ c.A0 ∧ c.cc ∈ c.A0
  tin : ∀ b ∈ c.T.map (·.1), b ∈ c.A0
  sub : ∀ a ∈ c.A0, a ∈ A
  new : ∀ a ∈ A, a ∈ c.A0 ∨ (c.H0 a = none ∧ c.H00 a = none)
  thr : ∀ a ∈ A, ∃ o, H a = some o
structure Good (K : PySem.W.Frag) (c : C0) (A : List Addr) (ρ : DW.Env) (m : Nat) (σ : L2.St) (H : Hp) : Prop extends Base K c A m H where
  len : ρ.length = σ.length
  cell : ∀ i k, ρ[i]? = some k → CellOk K c A H ρ σ i k

section
variable {K : PySem.W.Frag} {c : C0} {A : List Addr} {ρ : DW.Env} {m m' : Nat} {σ : L2.St} {H H' : Hp}
/-- how the heap grows through an expression: what is not changed from outside stays -/
def Keep (c : C0) (H H' : Hp) : Prop := ∀ b o, ¬ c.Vol b → H b = some o → H' b = some o
theorem Keep.refl : Keep c H H := fun _ _ _ h => h
theorem Keep.trans {H1 H2 : Hp} (a : Keep c H H1) (b : Keep c H1 H2) : Keep c H H2 := fun x o n h => b x o n (a x o n h)
theorem Keep.new {a : Addr} {o : HO} (h : H a = none) : Keep c H (upd H a o) := fun b u _ e => by
  rw [upd_ne (ne_of_none e h)]
  exact e
theorem Keep.ofExt (e : Ext H H') : Keep c H H' := fun b o _ h => e b o h
theorem Ext.new {a : Addr} {o : HO} (h : H a = none) : Ext H (upd H a o) := fun b u e => by
  rw [upd_ne (ne_of_none e h)]
  exact e
theorem Base.vin (B : Base K c A m H) {b : Addr} (v : c.Vol b) : b ∈ c.A0 := v.elim (fun z => (B.pin b z).1) (B.tin b)
theorem Base.vthr (B : Base K c A m H) {b : Addr} (v : c.Vol b) : ∃ o, H b = some o := B.thr b (B.sub b (B.vin v))
theorem Keep.grow (B : Base K c A m H) (k : Keep c H H') : Grow A H H' := fun b o n h => k b o (fun e => n (B.sub b (B.vin e))) h
/-- what stays in place -/
theorem Keep.thr (B : Base K c A m H) (k : Keep c H H') (am : c.Am m' H') {a : Addr} (h : ∃ o, H a = some o) : ∃ o, H' a = some o := by
  obtain ⟨o, e⟩ := h
  by_cases z : c.Vol a
  · rcases z with z | z
    · obtain ⟨_, _, _, _, _, h1, _⟩ := (am.pen a z).ex
      exact ⟨_, h1⟩
    · obtain ⟨x, hx, rfl⟩ := List.mem_map.mp z
      obtain ⟨ps, h1, _⟩ := am.tab x hx
      exact ⟨_, h1⟩
  · exact ⟨o, k a o z e⟩
theorem Base.step (B : Base K c A m H) (k : Keep c H H') (am : c.Am m' H') : Base K c A m' H' :=
  ⟨fun b o n e => k b o n (B.ex b o n e), fun b o n e => k b o n (B.ex0 b o n e), am, B.pin, B.tin, B.sub, B.new, fun a h => k.thr B am (B.thr a h)⟩
theorem Good.step (G : Good K c A ρ m σ H) (k : Keep c H H') (am : c.Am m' H') : Good K c A ρ m' σ H' := by
  refine ⟨G.toBase.step k am, G.len, fun i kk e => ?_⟩
  have g := (k.grow G.toBase).cut
  have q := G.cell i kk e
  cases kk with
  | un => trivial
  | raw v => exact q
  | dat d =>
    obtain ⟨v, h1, h2⟩ := q
    exact ⟨v, h1, h2.ext g⟩
  | cau _ _ =>
    obtain ⟨xa, xd, xe, h1, h2⟩ := q
    exact ⟨xa, xd, xe, h1, h2.ext g⟩
  | own ds =>
    obtain ⟨l, xs, h1, h2, h3, h4, h5, h6⟩ := q
    refine ⟨l, xs, h1, h2, h3, k l _ (fun z => h3 (G.vin z)) h4, h5.ext g, h6⟩
/-- a step that changes nothing but what is new -/
theorem Good.ext (G : Good K c A ρ m σ H) (e : Ext H H') : Good K c A ρ m σ H' := G.step (Keep.ofExt e) (G.am.keep e)
/-- a new object that is no one's -/
theorem Good.fresh (G : Good K c A ρ m σ H) {a : Addr} {o : HO} (h : H a = none) : Good K c A ρ m σ (upd H a o) := G.ext (Ext.new h)
/-- a new object is owned by none -/
theorem Base.notin (B : Base K c A m H) {a : Addr} (h : H a = none) : a ∉ A := fun z => by
  obtain ⟨o, e⟩ := B.thr a z
  rw [h] at e
  cases e
theorem Base.none0 (B : Base K c A m H) {a : Addr} (h : H a = none) : c.H0 a = none ∧ c.H00 a = none := by
  have nv : ¬ c.Vol a := fun v => by
    obtain ⟨o, e⟩ := B.vthr v
    rw [h] at e
    cases e
  refine ⟨?_, ?_⟩
  · cases q : c.H0 a with
    | none => rfl
    | some u =>
      have := B.ex a u nv q
      rw [h] at this
      cases this
  · cases q : c.H00 a with
    | none => rfl
    | some u =>
      have := B.ex0 a u nv q
      rw [h] at this
      cases this
/-- an owned object (no code object) is changed -/
theorem Base.chgAm (B : Base K c A m H) {a : Addr} {u o : HO} (h0 : a ∉ c.A0) (ha : H a = some u) (hx : ∀ φ, u ≠ .ext φ) : c.Am m (upd H a o) := by
  refine ⟨fun q e => ?_, fun x hx2 => ?_⟩
  · obtain ⟨ns, i, dg, ct, fd, h1, h2, h3⟩ := (B.am.pen q e).ex
    have nq : q ≠ a := fun z => h0 (by rw [← z]; exact (B.pin q e).1)
    have nc : c.cc ≠ a := fun z => h0 (by rw [← z]; exact (B.pin q e).2)
    exact ⟨ns, i, dg, ct, fd, by rw [upd_ne nq]; exact h1, by rw [upd_ne nc]; exact h2, h3⟩
  · obtain ⟨ps, h1, h2, h3⟩ := B.am.tab x hx2
    have nx : x.1 ≠ a := fun z => h0 (by rw [← z]; exact B.tin _ (List.mem_map_of_mem hx2))
    refine ⟨ps, by rw [upd_ne nx]; exact h1, h2, fun pos cv hc => ?_⟩
    obtain ⟨d, e1, e2⟩ := h3 pos cv hc
    have nd : d ≠ a := fun z => by
      rw [z, ha] at e2
      exact hx _ (Option.some.inj e2)
    exact ⟨d, e1, by rw [upd_ne nd]; exact e2⟩
end
end DW

/-! DW2: the judgements, expressions. -/
namespace DW
open PySem PySem.Spec L2

abbrev WE := DW.Env → Nat → (D → Nat → Prop) → Prop
abbrev WT := DW.Env → Nat → (Bool → Nat → Prop) → Prop
abbrev WA := DW.Env → Nat → (List D → Nat → Prop) → Prop

def RdE (K : PySem.W.Frag) (c : C0) (t : TE) (w : WE) : Prop := ∀ A ρ m σ H, Good K c A ρ m σ H → ∀ (Q : D → Nat → Prop) (Qv : VK), w ρ m Q →
  (∀ v d m' H', Good K c A ρ m' σ H' → Keep c H H' → Rep c.p K (cut A H') v d → Q d m' → Qv v H') → t σ H Qv
def RdT (K : PySem.W.Frag) (c : C0) (t : TT) (w : WT) : Prop := ∀ A ρ m σ H, Good K c A ρ m σ H → ∀ (Q : Bool → Nat → Prop) (Qv : Bool → Hp → Prop), w ρ m Q →
  (∀ b m' H', Good K c A ρ m' σ H' → Keep c H H' → Q b m' → Qv b H') → t σ H Qv
def RdA (K : PySem.W.Frag) (c : C0) (t : TA) (w : WA) : Prop := ∀ A ρ m σ H, Good K c A ρ m σ H → ∀ (Q : List D → Nat → Prop) (Qv : List V → Hp → Prop), w ρ m Q →
  (∀ vs ds m' H', Good K c A ρ m' σ H' → Keep c H H' → RepA c.p K (cut A H') vs ds → Q ds m' → Qv vs H') → t σ H Qv
/-- a new list (one's own) -/
def RdL (K : PySem.W.Frag) (c : C0) (t : TE) (w : WA) : Prop := ∀ A ρ m σ H, Good K c A ρ m σ H → ∀ (Q : List D → Nat → Prop) (Qv : VK), w ρ m Q →
  (∀ a xs ds m' H', Good K c (a :: A) ρ m' σ H' → a ∉ A → H a = none → Keep c H H' → H' a = some (.lst xs) → RepA c.p K (cut (a :: A) H') xs ds → Q ds m' → Qv (.ref a) H') → t σ H Qv

structure DE (X : Cx) (c : C0) (e : Expr) (w : WE) where
  t : TE
  pe : PE X e t
  rd : RdE X.K c t w
structure DT (X : Cx) (c : C0) (e : Expr) (w : WT) where
  t : TT
  pe : PT X e t
  rd : RdT X.K c t w
structure DTw (X : Cx) (c : C0) (e : Expr) (w : WT) where
  t : TT
  pe : PW X e t
  rd : RdT X.K c t w
structure DA (X : Cx) (c : C0) (es : List Expr) (w : WA) where
  t : TA
  pe : PA X es t
  rd : RdA X.K c t w
structure DL (X : Cx) (c : C0) (e : Expr) (w : WA) where
  t : TE
  pe : PE X e t
  rd : RdL X.K c t w

/-! ### what is owned by none any more -/
section
variable {K : PySem.W.Frag} {c : C0} {A : List Addr} {ρ : DW.Env} {m : Nat} {σ : L2.St} {H : Hp} {a : Addr}
theorem Good.drop (G : Good K c (a :: A) ρ m σ H) (sub : ∀ b ∈ c.A0, b ∈ A) (hown : ∀ (i : Nat) (es : Own), ρ[i]? = some (Cell.own es) → σ[i]? ≠ some (some (V.ref a))) : Good K c A ρ m σ H := by
  refine ⟨⟨G.ex, G.ex0, G.am, G.pin, G.tin, sub, fun b h => G.new b (List.mem_cons_of_mem _ h), fun b h => G.thr b (List.mem_cons_of_mem _ h)⟩, G.len, fun i k e => ?_⟩
  have q := G.cell i k e
  have s : Ext (cut (a :: A) H) (cut A H) := cut_sub fun b h => List.mem_cons_of_mem _ h
  cases k with
  | un => trivial
  | raw v => exact q
  | dat d =>
    obtain ⟨v, h1, h2⟩ := q
    exact ⟨v, h1, h2.ext s⟩
  | cau _ _ =>
    obtain ⟨xa, xd, xe, h1, h2⟩ := q
    exact ⟨xa, xd, xe, h1, h2.ext s⟩
  | own ds =>
    obtain ⟨l, xs, h1, h2, h3, h4, h5, h6⟩ := q
    refine ⟨l, xs, h1, ?_, h3, h4, h5.ext s, h6⟩
    rcases List.mem_cons.mp h2 with z | z
    · subst z
      exact absurd h1 (hown i ds e)
    · exact z
theorem Good.ownIn (G : Good K c A ρ m σ H) {i : Nat} {es : Own} (e : ρ[i]? = some (Cell.own es)) : ∃ l ∈ A, σ[i]? = some (some (V.ref l)) := by
  obtain ⟨l, xs, h1, h2, _⟩ := G.cell i _ e
  exact ⟨l, h2, h1⟩
/-- a new object, owned by itself -/
theorem Good.take (G : Good K c A ρ m σ H) {o : HO} (h : H a = none) : Good K c (a :: A) ρ m σ (upd H a o) := by
  have G1 : Good K c A ρ m σ (upd H a o) := G.fresh h
  have na : a ∉ A := G.notin h
  refine ⟨⟨G1.ex, G1.ex0, G1.am, G1.pin, G1.tin, fun b hb => List.mem_cons_of_mem _ (G.sub b hb), fun b hb => ?_, fun b hb => ?_⟩, G.len, fun i k e => ?_⟩
  · rcases List.mem_cons.mp hb with z | z
    · subst z
      exact .inr (G.none0 h)
    · exact G.new b z
  · rcases List.mem_cons.mp hb with z | z
    · subst z
      exact ⟨o, upd_same⟩
    · exact G1.thr b z
  · have s : Ext (cut A H) (cut (a :: A) (upd H a o)) := fun b u hb => by
      obtain ⟨n, q⟩ := cut_some hb
      have nb : b ≠ a := ne_of_none q h
      exact cut_of (fun z => (List.mem_cons.mp z).elim nb n) (by rw [upd_ne nb]; exact q)
    have q := G.cell i k e
    cases k with
    | un => trivial
    | raw v => exact q
    | dat d =>
      obtain ⟨v, h1, h2⟩ := q
      exact ⟨v, h1, h2.ext s⟩
    | cau _ _ =>
      obtain ⟨xa, xd, xe, h1, h2⟩ := q
      exact ⟨xa, xd, xe, h1, h2.ext s⟩
    | own ds =>
      obtain ⟨l, xs, h1, h2, h3, h4, h5, h6⟩ := q
      exact ⟨l, xs, h1, List.mem_cons_of_mem _ h2, h3, by rw [upd_ne (ne_of_none h4 h)]; exact h4, h5.ext s, h6⟩
end
theorem none_back {K : PySem.W.Frag} {c : C0} {A : List Addr} {ρ : DW.Env} {m1 : Nat} {σ : L2.St} {H H1 : Hp} {a : Addr} (G1 : Good K c A ρ m1 σ H1) (k : Keep c H H1) (h : H1 a = none) : H a = none := by
  cases q : H a with
  | none => rfl
  | some o =>
    by_cases hv : c.Vol a
    · obtain ⟨o, e⟩ := G1.vthr hv
      rw [h] at e
      cases e
    · have := k a o hv q
      rw [h] at this
      cases this
/-- the contents of a list made of what stood before -/
theorem take_ext {A : List Addr} {H : Hp} {a : Addr} {o : HO} (h : H a = none) : Ext (cut A H) (cut (a :: A) (upd H a o)) := fun b u hb => by
  obtain ⟨n, q⟩ := cut_some hb
  have nb : b ≠ a := ne_of_none q h
  exact cut_of (fun z => (List.mem_cons.mp z).elim nb n) (by rw [upd_ne nb]; exact q)

section
variable {X : Cx} {c : C0} {e a b : Expr} {es : List Expr} {wa wb w : WE} {pos : Pos}
/-- a new list, as data -/
def DL.de {w : WA} (h : DL X c e w) : DE X c e (fun ρ m Q => w ρ m fun ds m1 => Q (.lst ds) m1) := by
  obtain ⟨t, ht, r⟩ := h
  refine ⟨t, ht, fun A ρ m σ H G Q Qv hw k => r A ρ m σ H G _ Qv hw fun a xs ds m' H' G' na ha kp ea rep q => ?_⟩
  refine k (.ref a) (.lst ds) m' H' (G'.drop G.sub fun i es ei es' => ?_) kp (.lst (cut_of na ea) (rep.ext (cut_sub fun b h => List.mem_cons_of_mem _ h))) q
  obtain ⟨l, hl, e2⟩ := G.ownIn ei
  rw [e2] at es'
  cases es'
  exact na hl

/-! ### names and constants -/
def wVar (i : Nat) : WE := fun ρ m Q => match ρ[i]? with
  | some (.dat d) => Q d m
  | _ => False
def de_var (i : Nat) {x : Str} {pos : Pos} (hN : X.N[i]? = some x := by rfl) (hv : Vis X.env.scope x := by first | exact Or.inl rfl | exact Or.inr (Or.inl rfl) | exact Or.inr (Or.inr rfl)) (hd : (x == ("__debug__" : Str)) = false := by decide)
    (hcd : (x == ("__classdict__" : Str)) = false := by decide) : DE X c (.Name x pos) (wVar i) := by
  refine ⟨_, pe_var hN hv hd hcd, fun A ρ m σ H G Q Qv hw k => ?_⟩
  unfold wVar at hw
  split at hw
  · rename_i d e
    obtain ⟨v, h1, h2⟩ := G.cell i _ e
    exact ⟨v, h1, k v d m H G Keep.refl h2 hw⟩
  · cases hw
def wC (d : D) : WE := fun _ m Q => Q d m
def de_int {i : Int} {j pos} : DE X c (.Constant (.int i) j pos) (wC (.int i)) := ⟨_, pe_int, fun A ρ m σ H G Q Qv hw k => k _ _ m H G Keep.refl (.int i) hw⟩
def de_bl {b : Bool} {j pos} : DE X c (.Constant (.bool b) j pos) (wC (.bl b)) := ⟨_, pe_bl, fun A ρ m σ H G Q Qv hw k => k _ _ m H G Keep.refl (.bl b) hw⟩
def de_non {j pos} : DE X c (.Constant .none j pos) (wC .non) := ⟨_, pe_non, fun A ρ m σ H G Q Qv hw k => k _ _ m H G Keep.refl .non hw⟩
def de_str {x : Str} {j pos} : DE X c (.Constant (.str x) j pos) (wC (.str x)) := ⟨_, pe_str, fun A ρ m σ H G Q Qv hw k => k _ _ m H G Keep.refl (.str x) hw⟩
/-- a module's constant -/
def de_glob {x : Str} {v : V} {d : D} {u : Value} (hg : Gl X x) (hm : X.mg x = some u) (r : RelV v u) (hd : ∀ H, Rep c.p X.K H v d) (hdb : (x == ("__debug__" : Str)) = false := by decide) : DE X c (.Name x pos) (wC d) :=
  ⟨_, pe_glob hg hm r hdb, fun A ρ m σ H G Q Qv hw k => k _ _ m H G Keep.refl (hd _) hw⟩

/-! ### operators -/
/-- what an operator's reading says of data -/
def RdOp (K : PySem.W.Frag) (c : C0) (r : R2) (f : D → D → (D → Prop) → Prop) : Prop := ∀ A ρ m σ H, Good K c A ρ m σ H → ∀ x y d e, Rep c.p K (cut A H) x d → Rep c.p K (cut A H) y e → ∀ (Q : D → Prop) (Qv : VK), f d e Q →
  (∀ v d' H', Good K c A ρ m σ H' → Keep c H H' → Rep c.p K (cut A H') v d' → Q d' → Qv v H') → r x y H Qv
def wOp (f : D → D → (D → Prop) → Prop) (wa wb : WE) : WE := fun ρ m Q => wa ρ m fun x m1 => wb ρ m1 fun y m2 => f x y fun z => Q z m2
theorem rd_two {K : PySem.W.Frag} {ta tb : TE} (ra : RdE K c ta wa) (rb : RdE K c tb wb) {A : List Addr} {ρ : DW.Env} {m : Nat} {σ : L2.St} {H : Hp} (G : Good K c A ρ m σ H) {Q : D → D → Nat → Prop} {R : V → V → Hp → Prop} (hw : wa ρ m fun x m1 => wb ρ m1 fun y m2 => Q x y m2)
    (k : ∀ x y d e m' H', Good K c A ρ m' σ H' → Keep c H H' → Rep c.p K (cut A H') x d → Rep c.p K (cut A H') y e → Q d e m' → R x y H') : ta σ H fun x H1 => tb σ H1 fun y H2 => R x y H2 := by
  refine ra A ρ m σ H G _ _ hw fun v d m1 H1 G1 k1 r1 q1 => ?_
  refine rb A ρ m1 σ H1 G1 _ _ q1 fun u e m2 H2 G2 k2 r2 q2 => ?_
  exact k v u d e m2 H2 G2 (k1.trans k2) (r1.ext ((k2.grow G1.toBase).cut)) r2 q2
theorem rdE_op {K : PySem.W.Frag} {ta tb : TE} {r : R2} {f : D → D → (D → Prop) → Prop} (ra : RdE K c ta wa) (rb : RdE K c tb wb) (hr : RdOp K c r f) : RdE K c (tOp r ta tb) (wOp f wa wb) := fun A ρ m σ H G Q Qv hw k =>
  rd_two ra rb G hw fun x y d e m' H' G' kp rx ry q => hr A ρ m' σ H' G' x y d e rx ry _ Qv q fun v d' H2 G2 k2 rv q2 => k v d' m' H2 G2 (kp.trans k2) rv q2
def de_binop {op : Operator} {r : R2} {f : D → D → (D → Prop) → Prop} (ho : OpR X (binaryOp op) r) (hr : RdOp X.K c r f) (ha : DE X c a wa) (hb : DE X c b wb) : DE X c (.BinOp a op b pos) (wOp f wa wb) := by
  obtain ⟨ta, pa, ra⟩ := ha
  obtain ⟨tb, pb, rb⟩ := hb
  exact ⟨_, pe_op ho pa pb, rdE_op ra rb hr⟩
def de_cmp {op : CmpOp} {r : R2} {f : D → D → (D → Prop) → Prop} (ho : OpR X (compareOp op) r) (hr : RdOp X.K c r f) (ha : DE X c a wa) (hb : DE X c b wb) (hm : behindInMarks op b = false) : DE X c (.Compare a [op] [b] pos) (wOp f wa wb) := by
  obtain ⟨ta, pa, ra⟩ := ha
  obtain ⟨tb, pb, rb⟩ := hb
  exact ⟨_, pe_cmpR ho pa pb hm, rdE_op ra rb hr⟩
theorem RdOp.or {K : PySem.W.Frag} {r r' : R2} {f f' g : D → D → (D → Prop) → Prop} (h : RdOp K c r f) (h' : RdOp K c r' f') (hg : ∀ d e Q, g d e Q → f d e Q ∨ f' d e Q) : RdOp K c (fun x y H Q => r x y H Q ∨ r' x y H Q) g := fun A ρ m σ H G x y d e rx ry Q Qv hf k => by
  rcases hg d e Q hf with z | z
  · exact .inl (h A ρ m σ H G x y d e rx ry Q Qv z k)
  · exact .inr (h' A ρ m σ H G x y d e rx ry Q Qv z k)
/-- ints in, a flat value out -/
theorem rd_I {K : PySem.W.Frag} {C : Int → Int → Prop} {g : Int → Int → V} {gd : Int → Int → D} (hg : ∀ (p : Option Addr) i j H, Rep p K H (g i j) (gd i j)) {f : D → D → (D → Prop) → Prop} (hf : ∀ d e Q, f d e Q → ∃ i j, d = .int i ∧ e = .int j ∧ C i j ∧ Q (gd i j)) :
    RdOp K c (rI C g) f := fun A ρ m σ H G x y d e rx ry Q Qv h k => by
  obtain ⟨i, j, rfl, rfl, hc, q⟩ := hf d e Q h
  cases rx
  cases ry
  exact ⟨i, j, rfl, rfl, hc, k _ _ H G Keep.refl (hg _ _ _ _) q⟩
theorem rd_I0 {K : PySem.W.Frag} {g : Int → Int → V} {gd : Int → Int → D} (hg : ∀ (p : Option Addr) i j H, Rep p K H (g i j) (gd i j)) {f : D → D → (D → Prop) → Prop} (hf : ∀ d e Q, f d e Q → ∃ i j, d = .int i ∧ e = .int j ∧ Q (gd i j)) :
    RdOp K c (rI0 g) f := fun A ρ m σ H G x y d e rx ry Q Qv h k => by
  obtain ⟨i, j, rfl, rfl, q⟩ := hf d e Q h
  cases rx
  cases ry
  exact ⟨i, j, rfl, rfl, k _ _ H G Keep.refl (hg _ _ _ _) q⟩

def addD : D → D → (D → Prop) → Prop
  | .int i, .int j, Q => Q (.int (i + j))
  | .str a, .str b, Q => a.length + b.length ≤ sizeLine ∧ Q (.str (a ++ b))
  | .lst a, .lst b, Q => a.length + b.length ≤ sizeLine ∧ Q (.lst (a ++ b))
  | .tup a, .tup b, Q => a.length + b.length ≤ sizeLine ∧ Q (.tup (a ++ b))
  | _, _, _ => False
theorem SqT.uncut {K : PySem.W.Frag} {A : List Addr} {H : Hp} {a : Addr} {xs : List V} (h : SqT K (cut A H) a xs) : SqT K H a xs := SqT.ext h cut_ext
theorem Good.freshN {K : PySem.W.Frag} {A : List Addr} {ρ : DW.Env} {m : Nat} {σ : L2.St} {H : Hp} (G : Good K c A ρ m σ H) {q : Addr} (h : H q = none) {o : HO} : cut A (upd H q o) q = some o := cut_of (G.notin h) upd_same
theorem fresh_ext {A : List Addr} {H : Hp} {q : Addr} {o : HO} (h : H q = none) : Ext (cut A H) (cut A (upd H q o)) := fun b u hb => by
  obtain ⟨n, z⟩ := cut_some hb
  exact cut_of n (by rw [upd_ne (ne_of_none z h)]; exact z)
def addL : D → D → (D → Prop) → Prop
  | .lst a, .lst b, Q => a.length + b.length ≤ sizeLine ∧ Q (.lst (a ++ b))
  | _, _, _ => False
def addT : D → D → (D → Prop) → Prop
  | .tup a, .tup b, Q => a.length + b.length ≤ sizeLine ∧ Q (.tup (a ++ b))
  | _, _, _ => False
def addS : D → D → (D → Prop) → Prop
  | .str a, .str b, Q => a.length + b.length ≤ sizeLine ∧ Q (.str (a ++ b))
  | _, _, _ => False
def addI : D → D → (D → Prop) → Prop
  | .int i, .int j, Q => Q (.int (i + j))
  | _, _, _ => False
theorem rd_addI {K : PySem.W.Frag} : RdOp K c (rI0 fun i j => .int (i + j)) addI := rd_I0 (gd := fun i j => .int (i + j)) (fun _ _ _ _ => .int _) fun d e Q h => by
  unfold addI at h
  split at h
  · exact ⟨_, _, rfl, rfl, h⟩
  · cases h
theorem rd_addS {K : PySem.W.Frag} : RdOp K c (fun x y H Q => ∃ i j, x = .str i ∧ y = .str j ∧ i.length + j.length ≤ sizeLine ∧ Q (.str (i ++ j)) H) addS := fun A ρ m σ H G x y d e rx ry Q Qv h k => by
  unfold addS at h
  split at h
  · cases rx
    cases ry
    exact ⟨_, _, rfl, rfl, h.1, k _ _ H G Keep.refl (.str _) h.2⟩
  · cases h
theorem rd_addL {K : PySem.W.Frag} : RdOp K c rCat addL := fun A ρ m σ H G x y d e rx ry Q Qv h k => by
  unfold addL at h
  split at h
  · cases rx with
    | lst h1 r1 =>
      cases ry with
      | lst h2 r2 =>
        refine ⟨_, _, _, _, rfl, rfl, (cut_some h1).2, (cut_some h2).2, ?_, fun p hp => ?_⟩
        · rw [r1.length, r2.length]
          exact h.1
        · exact k _ _ _ (G.fresh hp) (Keep.new hp) (.lst (G.freshN hp) ((r1.append r2).ext (fresh_ext hp))) h.2
  · cases h
theorem rd_addT {K : PySem.W.Frag} : RdOp K c (rCatA K) addT := fun A ρ m σ H G x y d e rx ry Q Qv h k => by
  unfold addT at h
  split at h
  · rename_i ds es
    cases rx with
    | tup h1 r1 =>
      cases ry with
      | tup h2 r2 =>
        rename_i a xs b ys
        refine ⟨a, b, xs, ys, rfl, rfl, SqT.uncut h1, SqT.uncut h2, ?_, fun e => ?_, fun _ e => ?_, fun _ _ p hp => ?_⟩
        · rw [r1.length, r2.length]
          exact h.1
        · subst e
          cases r1
          exact k _ _ H G Keep.refl (.tup h2 r2) (by simpa using h.2)
        · subst e
          cases r2
          exact k _ _ H G Keep.refl (.tup h1 r1) (by simpa using h.2)
        · exact k _ _ _ (G.fresh hp) (Keep.new hp) (.tup (SqT.of (G.freshN hp)) ((r1.append r2).ext (fresh_ext hp))) h.2
  · cases h
def de_add (ha : DE X c a wa) (hb : DE X c b wb) : DE X c (.BinOp a .Add b pos) (wOp addD wa wb) :=
  de_binop (OpR.or (OpR.or op_add op_add_str) (OpR.or op_cat op_catA)) (RdOp.or (RdOp.or rd_addI rd_addS fun _ _ _ h => h) (RdOp.or rd_addL rd_addT fun _ _ _ h => h) (g := addD) (f := fun d e Q => addI d e Q ∨ addS d e Q) (f' := fun d e Q => addL d e Q ∨ addT d e Q) fun d e Q h => by
    unfold addD at h
    split at h
    · exact .inl (.inl h)
    · exact .inl (.inr h)
    · exact .inr (.inl h)
    · exact .inr (.inr h)
    · cases h) ha hb
def subD : D → D → (D → Prop) → Prop
  | .int i, .int j, Q => Q (.int (i - j))
  | _, _, _ => False
def de_sub (ha : DE X c a wa) (hb : DE X c b wb) : DE X c (.BinOp a .Sub b pos) (wOp subD wa wb) := de_binop op_sub (rd_I0 (gd := fun i j => .int (i - j)) (fun _ _ _ _ => .int _) fun d e Q h => by
  unfold subD at h
  split at h
  · exact ⟨_, _, rfl, rfl, h⟩
  · cases h) ha hb
def mulI : D → D → (D → Prop) → Prop
  | .int i, .int j, Q => CMul i j ∧ Q (.int (i * j))
  | _, _, _ => False
def de_mulI (ha : DE X c a wa) (hb : DE X c b wb) : DE X c (.BinOp a .Mult b pos) (wOp mulI wa wb) := de_binop op_mul (rd_I (gd := fun i j => .int (i * j)) (fun _ _ _ _ => .int _) fun d e Q h => by
  unfold mulI at h
  split at h
  · exact ⟨_, _, rfl, rfl, h⟩
  · cases h) ha hb
def modD : D → D → (D → Prop) → Prop
  | .int i, .int j, Q => 0 < j ∧ Q (.int (i % j))
  | _, _, _ => False
def de_mod (ha : DE X c a wa) (hb : DE X c b wb) : DE X c (.BinOp a .Mod b pos) (wOp modD wa wb) := de_binop op_mod (rd_I (gd := fun i j => .int (i % j)) (fun _ _ _ _ => .int _) fun d e Q h => by
  unfold modD at h
  split at h
  · exact ⟨_, _, rfl, rfl, h⟩
  · cases h) ha hb
def fdivD : D → D → (D → Prop) → Prop
  | .int i, .int j, Q => CDiv i j ∧ Q (.int (i / j))
  | _, _, _ => False
def de_fdiv (ha : DE X c a wa) (hb : DE X c b wb) : DE X c (.BinOp a .FloorDiv b pos) (wOp fdivD wa wb) := de_binop op_fdiv (rd_I (gd := fun i j => .int (i / j)) (fun _ _ _ _ => .int _) fun d e Q h => by
  unfold fdivD at h
  split at h
  · exact ⟨_, _, rfl, rfl, h⟩
  · cases h) ha hb
def powD : D → D → (D → Prop) → Prop
  | .int i, .int j, Q => CPow i j ∧ Q (.int (i ^ j.toNat))
  | _, _, _ => False
def de_pow (ha : DE X c a wa) (hb : DE X c b wb) : DE X c (.BinOp a .Pow b pos) (wOp powD wa wb) := de_binop op_pow (rd_I (gd := fun i j => .int (i ^ j.toNat)) (fun _ _ _ _ => .int _) fun d e Q h => by
  unfold powD at h
  split at h
  · exact ⟨_, _, rfl, rfl, h⟩
  · cases h) ha hb
def negD : D → (D → Prop) → Prop
  | .int i, Q => Q (.int (-i))
  | _, _ => False
def wUn (f : D → (D → Prop) → Prop) (wa : WE) : WE := fun ρ m Q => wa ρ m fun x m1 => f x fun z => Q z m1
def de_neg (ha : DE X c a wa) : DE X c (.UnaryOp .USub a pos) (wUn negD wa) := by
  obtain ⟨ta, pa, ra⟩ := ha
  refine ⟨_, pe_un un_neg pa, fun A ρ m σ H G Q Qv hw k => ra A ρ m σ H G _ _ hw fun v d m1 H1 G1 k1 r1 q1 => ?_⟩
  unfold negD at q1
  split at q1
  · cases r1
    exact ⟨_, rfl, k _ _ m1 H1 G1 k1 (.int _) q1⟩
  · cases q1

/-! ### comparisons -/
def cmpD (f : Int → Int → Bool) : D → D → (D → Prop) → Prop
  | .int i, .int j, Q => Q (.bl (f i j))
  | _, _, _ => False
theorem rd_cmp {K : PySem.W.Frag} {f : Int → Int → Bool} : RdOp K c (rI0 fun i j => .bl (f i j)) (cmpD f) := rd_I0 (gd := fun i j => .bl (f i j)) (fun _ _ _ _ => .bl _) fun d e Q h => by
  unfold cmpD at h
  split at h
  · exact ⟨_, _, rfl, rfl, h⟩
  · cases h
abbrev ltD := cmpD fun i j => decide (i < j)
abbrev leD := cmpD fun i j => decide (i ≤ j)
abbrev gtD := cmpD fun i j => decide (j < i)
abbrev geD := cmpD fun i j => decide (j ≤ i)
def de_lt (ha : DE X c a wa) (hb : DE X c b wb) : DE X c (.Compare a [.Lt] [b] pos) (wOp ltD wa wb) := de_cmp op_lt rd_cmp ha hb (nomark _)
def de_le (ha : DE X c a wa) (hb : DE X c b wb) : DE X c (.Compare a [.LtE] [b] pos) (wOp leD wa wb) := de_cmp op_le rd_cmp ha hb (nomark _)
def de_gt (ha : DE X c a wa) (hb : DE X c b wb) : DE X c (.Compare a [.Gt] [b] pos) (wOp gtD wa wb) := de_cmp op_gt rd_cmp ha hb (nomark _)
def de_ge (ha : DE X c a wa) (hb : DE X c b wb) : DE X c (.Compare a [.GtE] [b] pos) (wOp geD wa wb) := de_cmp op_ge rd_cmp ha hb (nomark _)
end
end DW

/-! DW3: tests, ==, calls, displays, subscripts. -/
namespace DW
open PySem PySem.Spec L2

section
variable {X : Cx} {c : C0} {e a b : Expr} {es rest : List Expr} {wa wb w : WE} {ta tb : WT} {pos : Pos}

/-! ### == of plain data -/
mutual
def D.py : D → Option PyData
  | .non => some .none
  | .bl b => some (.bool b)
  | .int i => some (.int i)
  | .str x => some (.str x)
  | .lst ds => (pyAll ds).map .list
  | .tup ds => (pyAll ds).map .tuple
  | _ => none
def pyAll : List D → Option (List PyData)
  | [] => some []
  | d :: ds => match d.py, pyAll ds with
    | some x, some xs => some (x :: xs)
    | _, _ => none
end
mutual
theorem Rep.dp {p : Option Addr} {K : PySem.W.Frag} {A : List Addr} {H : Hp} : ∀ {d : D} {v : V} {q : PyData}, Rep p K (cut A H) v d → d.py = some q → Dp K H v q
  | .non, _, q, .non, e => by
    simp [D.py] at e
    subst e
    exact .non
  | .bl b, _, q, .bl _, e => by
    simp [D.py] at e
    subst e
    exact .bl b
  | .int i, _, q, .int _, e => by
    simp [D.py] at e
    subst e
    exact .int i
  | .str x, _, q, .str _, e => by
    simp [D.py] at e
    subst e
    exact .str x
  | .lst ds, _, q, .lst h r, e => by
    rw [D.py] at e
    cases z : pyAll ds with
    | none =>
      rw [z] at e
      cases e
    | some qs =>
      rw [z] at e
      have e' : PyData.list qs = q := Option.some.inj e
      subst e'
      exact .lst (SqL.of (cut_some h).2) (RepA.dp r z)
  | .tup ds, _, q, .tup h r, e => by
    rw [D.py] at e
    cases z : pyAll ds with
    | none =>
      rw [z] at e
      cases e
    | some qs =>
      rw [z] at e
      have e' : PyData.tuple qs = q := Option.some.inj e
      subst e'
      exact .tup (SqT.uncut h) (RepA.dp r z)
  | .obj _ _, _, q, _, e => by simp [D.py] at e
  | .exc _ _, _, q, _, e => by simp [D.py] at e
  | .pen, _, q, _, e => by simp [D.py] at e
  | .opq, _, q, _, e => by simp [D.py] at e
  | .gf _, _, q, _, e => by simp [D.py] at e
theorem RepA.dp {p : Option Addr} {K : PySem.W.Frag} {A : List Addr} {H : Hp} : ∀ {ds : List D} {vs : List V} {qs : List PyData}, RepA p K (cut A H) vs ds → pyAll ds = some qs → DpAll K H vs qs
  | [], _, qs, .nil, e => by
    simp [pyAll] at e
    subst e
    exact .nil
  | d :: ds, _, qs, .cons h r, e => by
    rw [pyAll] at e
    cases z1 : d.py with
    | none =>
      rw [z1] at e
      cases e
    | some x =>
      cases z2 : pyAll ds with
      | none =>
        rw [z1, z2] at e
        cases e
      | some xs =>
        rw [z1, z2] at e
        have e' : x :: xs = qs := Option.some.inj e
        subst e'
        exact .cons (Rep.dp h z1) (RepA.dp r z2)
end
def eqD (d e : D) (Q : D → Prop) : Prop := ∃ q r, d.py = some q ∧ e.py = some r ∧ SeqAt.shaped q = true ∧ SeqAt.shaped r = true ∧ Q (.bl (PyData.eqv q r))
def neD (d e : D) (Q : D → Prop) : Prop := ∃ q r, d.py = some q ∧ e.py = some r ∧ SeqAt.shaped q = true ∧ SeqAt.shaped r = true ∧ Q (.bl (!PyData.eqv q r))
theorem rd_eq {K : PySem.W.Frag} : RdOp K c (rEqD K) eqD := fun A ρ m σ H G x y d e rx ry Q Qv h k => by
  obtain ⟨q, r, h1, h2, h3, h4, h5⟩ := h
  exact ⟨q, r, rx.dp h1, ry.dp h2, h3, h4, k _ _ H G Keep.refl (.bl _) h5⟩
theorem rd_ne {K : PySem.W.Frag} : RdOp K c (rNeD K) neD := fun A ρ m σ H G x y d e rx ry Q Qv h k => by
  obtain ⟨q, r, h1, h2, h3, h4, h5⟩ := h
  exact ⟨q, r, rx.dp h1, ry.dp h2, h3, h4, k _ _ H G Keep.refl (.bl _) h5⟩
/-- two texts, of any kind -/
def eqS (d e : D) (Q : D → Prop) : Prop := ∃ x y, d = .str x ∧ e = .str y ∧ Q (.bl (decide (x = y)))
def neS (d e : D) (Q : D → Prop) : Prop := ∃ x y, d = .str x ∧ e = .str y ∧ Q (.bl (!decide (x = y)))
theorem str_dec (x y : Str) : decide (V.str x = V.str y) = decide (x = y) := by
  by_cases h : x = y
  · rw [decide_eq_true h, h]
    exact decide_eq_true rfl
  · rw [decide_eq_false h, decide_eq_false fun z => h (V.str.inj z)]
theorem rd_eqS {K : PySem.W.Frag} : RdOp K c rEq eqS := fun A ρ m σ H G x y d e rx ry Q Qv h k => by
  obtain ⟨p, q, rfl, rfl, h5⟩ := h
  cases rx
  cases ry
  exact ⟨rfl, k _ _ H G Keep.refl (.bl _) (by rw [str_dec]; exact h5)⟩
theorem rd_neS {K : PySem.W.Frag} : RdOp K c rNe neS := fun A ρ m σ H G x y d e rx ry Q Qv h k => by
  obtain ⟨p, q, rfl, rfl, h5⟩ := h
  cases rx
  cases ry
  exact ⟨rfl, k _ _ H G Keep.refl (.bl _) (by rw [str_dec]; exact h5)⟩
def eqA (d e : D) (Q : D → Prop) : Prop := eqD d e Q ∨ eqS d e Q
def neA (d e : D) (Q : D → Prop) : Prop := neD d e Q ∨ neS d e Q
def de_eq {k : Nat} (hr : Room k X.A) (ha : DE X c a wa) (hb : DE X c b wb) : DE X c (.Compare a [.Eq] [b] pos) (wOp eqA wa wb) := de_cmp (OpR.or (op_eqD hr.units) op_eq) (RdOp.or rd_eq rd_eqS fun _ _ _ h => h) ha hb (nomark _)
def de_ne {k : Nat} (hr : Room k X.A) (ha : DE X c a wa) (hb : DE X c b wb) : DE X c (.Compare a [.NotEq] [b] pos) (wOp neA wa wb) := de_cmp (OpR.or (op_neD hr.units) op_ne) (RdOp.or rd_ne rd_neS fun _ _ _ h => h) ha hb (nomark _)
/-- x is None -/
def D.isNon : D → Bool
  | .non => true
  | _ => false
def isND (f : Bool → Bool) : D → (D → Prop) → Prop := fun d Q => Q (.bl (f d.isNon))
theorem rep_non {p : Option Addr} {K : PySem.W.Frag} {H : Hp} {v : V} {d : D} (r : Rep p K H v d) : decide (v = .non) = d.isNon := by
  cases r <;> first | rfl | (exact decide_eq_false (fun z => nomatch z))
def de_isN {j pos'} (ha : DE X c a wa) : DE X c (.Compare a [.Is] [.Constant .none j pos'] pos) (wUn (isND id) wa) := by
  obtain ⟨t, pa, ra⟩ := ha
  refine ⟨_, pe_cmp (pc_isN pa) rfl, fun A ρ m σ H G Q Qv hw k => ra A ρ m σ H G _ _ hw fun v d m1 H1 G1 k1 r1 q1 => ?_⟩
  refine k _ (.bl (decide (v = .non))) m1 H1 G1 k1 (.bl _) ?_
  rw [rep_non r1]
  exact q1
def de_notN {j pos'} (ha : DE X c a wa) : DE X c (.Compare a [.IsNot] [.Constant .none j pos'] pos) (wUn (isND not) wa) := by
  obtain ⟨t, pa, ra⟩ := ha
  refine ⟨_, pe_cmp (pc_notN pa) rfl, fun A ρ m σ H G Q Qv hw k => ra A ρ m σ H G _ _ hw fun v d m1 H1 G1 k1 r1 q1 => ?_⟩
  refine k _ (.bl (!decide (v = .non))) m1 H1 G1 k1 (.bl _) ?_
  rw [rep_non r1]
  exact q1

/-! ### tests -/
def wTest (wa : WE) : WT := fun ρ m Q => wa ρ m fun d m1 => match d with
  | .bl b => Q b m1
  | _ => False
theorem rdT_test {K : PySem.W.Frag} {t : TE} (ra : RdE K c t wa) : RdT K c (tB t) (wTest wa) := fun A ρ m σ H G Q Qv hw k => ra A ρ m σ H G _ _ hw fun v d m1 H1 G1 k1 r1 q1 => by
  cases d <;> first | (exact False.elim q1) | skip
  cases r1
  exact ⟨_, rfl, k _ m1 H1 G1 k1 q1⟩
/-- a comparison as a test -/
def dt_cmp {op : CmpOp} {r : R2} {f : D → D → (D → Prop) → Prop} (ho : OpR X (compareOp op) r) (hr : RdOp X.K c r f) (ha : DE X c a wa) (hb : DE X c b wb) (hm : behindInMarks op b = false) : DT X c (.Compare a [op] [b] pos) (wTest (wOp f wa wb)) := by
  obtain ⟨ta, pa, ra⟩ := ha
  obtain ⟨tb, pb, rb⟩ := hb
  exact ⟨_, pt_cmpR ho pa pb hm, rdT_test (rdE_op ra rb hr)⟩
def dt_lt (ha : DE X c a wa) (hb : DE X c b wb) : DT X c (.Compare a [.Lt] [b] pos) (wTest (wOp ltD wa wb)) := dt_cmp op_lt rd_cmp ha hb (nomark _)
def dt_le (ha : DE X c a wa) (hb : DE X c b wb) : DT X c (.Compare a [.LtE] [b] pos) (wTest (wOp leD wa wb)) := dt_cmp op_le rd_cmp ha hb (nomark _)
def dt_gt (ha : DE X c a wa) (hb : DE X c b wb) : DT X c (.Compare a [.Gt] [b] pos) (wTest (wOp gtD wa wb)) := dt_cmp op_gt rd_cmp ha hb (nomark _)
def dt_ge (ha : DE X c a wa) (hb : DE X c b wb) : DT X c (.Compare a [.GtE] [b] pos) (wTest (wOp geD wa wb)) := dt_cmp op_ge rd_cmp ha hb (nomark _)
def dt_eq {k : Nat} (hr : Room k X.A) (ha : DE X c a wa) (hb : DE X c b wb) : DT X c (.Compare a [.Eq] [b] pos) (wTest (wOp eqA wa wb)) := dt_cmp (OpR.or (op_eqD hr.units) op_eq) (RdOp.or rd_eq rd_eqS fun _ _ _ h => h) ha hb (nomark _)
def dt_ne {k : Nat} (hr : Room k X.A) (ha : DE X c a wa) (hb : DE X c b wb) : DT X c (.Compare a [.NotEq] [b] pos) (wTest (wOp neA wa wb)) := dt_cmp (OpR.or (op_neD hr.units) op_ne) (RdOp.or rd_ne rd_neS fun _ _ _ h => h) ha hb (nomark _)
def dt_isN {j pos'} (ha : DE X c a wa) : DT X c (.Compare a [.Is] [.Constant .none j pos'] pos) (wTest (wUn (isND id) wa)) := by
  obtain ⟨t, pa, ra⟩ := ha
  refine ⟨_, pt_cmp (pc_isN pa) rfl, rdT_test fun A ρ m σ H G Q Qv hw k => ra A ρ m σ H G _ _ hw fun v d m1 H1 G1 k1 r1 q1 => ?_⟩
  refine k _ (.bl (decide (v = .non))) m1 H1 G1 k1 (.bl _) ?_
  rw [rep_non r1]
  exact q1
def dt_notN {j pos'} (ha : DE X c a wa) : DT X c (.Compare a [.IsNot] [.Constant .none j pos'] pos) (wTest (wUn (isND not) wa)) := by
  obtain ⟨t, pa, ra⟩ := ha
  refine ⟨_, pt_cmp (pc_notN pa) rfl, rdT_test fun A ρ m σ H G Q Qv hw k => ra A ρ m σ H G _ _ hw fun v d m1 H1 G1 k1 r1 q1 => ?_⟩
  refine k _ (.bl (!decide (v = .non))) m1 H1 G1 k1 (.bl _) ?_
  rw [rep_non r1]
  exact q1
/-- any expression whose value is a truth value, as a test -/
def dt_val (ha : DE X c e wa) (he : ∀ whole, isTrue e X.env whole = (do let v ← whole; standAt e.pos; holding [v] (truthy v)) := by intro _; rfl) : DT X c e (wTest wa) := by
  obtain ⟨t, pa, ra⟩ := ha
  exact ⟨_, pt_val pa he, rdT_test ra⟩
/-- .. by its truth -/
def truD : D → Option Bool
  | .non => some false
  | .bl b => some b
  | .int i => some (i != 0)
  | .lst ds => some (!ds.isEmpty)
  | .tup ds => some (!ds.isEmpty)
  | _ => none
def wTruth (wa : WE) : WT := fun ρ m Q => wa ρ m fun d m1 => match truD d with
  | some b => Q b m1
  | none => False
theorem tru_of {K : PySem.W.Frag} {p : Option Addr} {A : List Addr} {H : Hp} {v : V} {d : D} {k : Bool} (r : Rep p K (cut A H) v d) (h : truD d = some k) : TruV K v H k := by
  cases r with
  | non =>
    cases h
    rfl
  | bl b =>
    cases h
    rfl
  | int i =>
    cases h
    rfl
  | str x => cases h
  | lst h1 r1 =>
    cases h
    refine .inl ⟨_, SqL.of (cut_some h1).2, ?_⟩
    have := r1.length
    cases r1 <;> rfl
  | tup h1 r1 =>
    cases h
    refine .inr (.inl ⟨_, SqT.uncut h1, ?_⟩)
    cases r1 <;> rfl
  | obj _ _ => cases h
  | exc _ _ _ => cases h
  | exc0 _ => cases h
  | dct _ _ => cases h
  | pen _ => cases h
  | opq _ => cases h
  | gf => cases h
def dt_truth (ha : DE X c a wa) (he : ∀ whole, isTrue a X.env whole = (do let v ← whole; standAt a.pos; holding [v] (truthy v)) := by intro _; rfl) : DT X c a (wTruth wa) := by
  obtain ⟨t, pa, ra⟩ := ha
  refine ⟨_, pt_truth pa he, fun A ρ m σ H G Q Qv hw k => ra A ρ m σ H G _ _ hw fun v d m1 H1 G1 k1 r1 q1 => ?_⟩
  split at q1
  · rename_i b hb
    exact ⟨b, tru_of r1 hb, k b m1 H1 G1 k1 q1⟩
  · cases q1
def wNot (t : WT) : WT := fun ρ m Q => t ρ m fun b m1 => Q (!b) m1
def dt_not (ha : DT X c a ta) : DT X c (.UnaryOp .Not a pos) (wNot ta) := by
  obtain ⟨t, pa, ra⟩ := ha
  exact ⟨_, pt_not pa, fun A ρ m σ H G Q Qv hw k => ra A ρ m σ H G _ _ hw fun b m1 H1 G1 k1 q1 => k _ m1 H1 G1 k1 q1⟩
def wAnd (t u : WT) : WT := fun ρ m Q => t ρ m fun b m1 => if b = true then u ρ m1 Q else Q false m1
def wOr (t u : WT) : WT := fun ρ m Q => t ρ m fun b m1 => if b = true then Q true m1 else u ρ m1 Q
def dtw_and1 (ha : DT X c a ta) : DTw X c (.BoolOp .And [a] pos) ta := by
  obtain ⟨t, pa, ra⟩ := ha
  exact ⟨_, pw_and1 pa, ra⟩
def dtw_or1 (ha : DT X c a ta) : DTw X c (.BoolOp .Or [a] pos) ta := by
  obtain ⟨t, pa, ra⟩ := ha
  exact ⟨_, pw_or1 pa, ra⟩
def dtw_and (ha : DT X c a ta) (hb : DTw X c (.BoolOp .And (b :: rest) pos) tb) : DTw X c (.BoolOp .And (a :: b :: rest) pos) (wAnd ta tb) := by
  obtain ⟨t, pa, ra⟩ := ha
  obtain ⟨u, pb, rb⟩ := hb
  refine ⟨_, pw_and pa pb, fun A ρ m σ H G Q Qv hw k => ra A ρ m σ H G _ _ hw fun b m1 H1 G1 k1 q1 => ?_⟩
  cases b with
  | true => exact rb A ρ m1 σ H1 G1 _ _ q1 fun b2 m2 H2 G2 k2 q2 => k b2 m2 H2 G2 (k1.trans k2) q2
  | false => exact k false m1 H1 G1 k1 q1
def dtw_or (ha : DT X c a ta) (hb : DTw X c (.BoolOp .Or (b :: rest) pos) tb) : DTw X c (.BoolOp .Or (a :: b :: rest) pos) (wOr ta tb) := by
  obtain ⟨t, pa, ra⟩ := ha
  obtain ⟨u, pb, rb⟩ := hb
  refine ⟨_, pw_or pa pb, fun A ρ m σ H G Q Qv hw k => ra A ρ m σ H G _ _ hw fun b m1 H1 G1 k1 q1 => ?_⟩
  cases b with
  | true => exact k true m1 H1 G1 k1 q1
  | false => exact rb A ρ m1 σ H1 G1 _ _ q1 fun b2 m2 H2 G2 k2 q2 => k b2 m2 H2 G2 (k1.trans k2) q2
def DTw.dt (h : DTw X c e ta) : DT X c e ta := by
  obtain ⟨t, pa, ra⟩ := h
  exact ⟨t, pa.pt, ra⟩
/-! ### and, or, not of truth values; a if t else b -/
def wAndV (wa wb : WE) : WE := fun ρ m Q => wa ρ m fun d m1 => match d with
  | .bl b => if b = true then wb ρ m1 Q else Q (.bl false) m1
  | _ => False
def wOrV (wa wb : WE) : WE := fun ρ m Q => wa ρ m fun d m1 => match d with
  | .bl b => if b = true then Q (.bl true) m1 else wb ρ m1 Q
  | _ => False
def de_one {op} (ha : DE X c a wa) : DE X c (.BoolOp op [a] pos) wa := by
  obtain ⟨t, pa, ra⟩ := ha
  exact ⟨_, pe_one pa, ra⟩
def de_and (ha : DE X c a wa) (hb : DE X c (.BoolOp .And (b :: rest) pos) wb) : DE X c (.BoolOp .And (a :: b :: rest) pos) (wAndV wa wb) := by
  obtain ⟨t, pa, ra⟩ := ha
  obtain ⟨u, pb, rb⟩ := hb
  refine ⟨_, pe_and pa pb, fun A ρ m σ H G Q Qv hw k => ra A ρ m σ H G _ _ hw fun v d m1 H1 G1 k1 r1 q1 => ?_⟩
  cases d <;> first | (exact False.elim q1) | skip
  rename_i bb
  cases r1
  refine ⟨bb, rfl, ?_⟩
  cases bb with
  | true => exact rb A ρ m1 σ H1 G1 _ _ q1 fun v2 d2 m2 H2 G2 k2 r2 q2 => k v2 d2 m2 H2 G2 (k1.trans k2) r2 q2
  | false => exact k _ _ m1 H1 G1 k1 (.bl false) q1
def de_or (ha : DE X c a wa) (hb : DE X c (.BoolOp .Or (b :: rest) pos) wb) : DE X c (.BoolOp .Or (a :: b :: rest) pos) (wOrV wa wb) := by
  obtain ⟨t, pa, ra⟩ := ha
  obtain ⟨u, pb, rb⟩ := hb
  refine ⟨_, pe_or pa pb, fun A ρ m σ H G Q Qv hw k => ra A ρ m σ H G _ _ hw fun v d m1 H1 G1 k1 r1 q1 => ?_⟩
  cases d <;> first | (exact False.elim q1) | skip
  rename_i bb
  cases r1
  refine ⟨bb, rfl, ?_⟩
  cases bb with
  | true => exact k _ _ m1 H1 G1 k1 (.bl true) q1
  | false => exact rb A ρ m1 σ H1 G1 _ _ q1 fun v2 d2 m2 H2 G2 k2 r2 q2 => k v2 d2 m2 H2 G2 (k1.trans k2) r2 q2
def notD : D → (D → Prop) → Prop
  | .bl b, Q => Q (.bl (!b))
  | _, _ => False
def de_not (ha : DE X c a wa) : DE X c (.UnaryOp .Not a pos) (wUn notD wa) := by
  obtain ⟨t, pa, ra⟩ := ha
  refine ⟨_, pe_not pa, fun A ρ m σ H G Q Qv hw k => ra A ρ m σ H G _ _ hw fun v d m1 H1 G1 k1 r1 q1 => ?_⟩
  cases d <;> first | (exact False.elim q1) | skip
  rename_i bb
  cases r1
  exact ⟨bb, rfl, k _ _ m1 H1 G1 k1 (.bl _) q1⟩
def wIf (t : WT) (wa wb : WE) : WE := fun ρ m Q => t ρ m fun b m1 => if b = true then wa ρ m1 Q else wb ρ m1 Q
def de_ifExp {t : Expr} {wt : WT} (ht : DT X c t wt) (ha : DE X c a wa) (hb : DE X c b wb) : DE X c (.IfExp t a b pos) (wIf wt wa wb) := by
  obtain ⟨tt, pt, rt⟩ := ht
  obtain ⟨ta, pa, ra⟩ := ha
  obtain ⟨tb, pb, rb⟩ := hb
  refine ⟨_, pe_ifExp pt pa pb, fun A ρ m σ H G Q Qv hw k => rt A ρ m σ H G _ _ hw fun b m1 H1 G1 k1 q1 => ?_⟩
  cases b with
  | true => exact ra A ρ m1 σ H1 G1 _ _ q1 fun v2 d2 m2 H2 G2 k2 r2 q2 => k v2 d2 m2 H2 G2 (k1.trans k2) r2 q2
  | false => exact rb A ρ m1 σ H1 G1 _ _ q1 fun v2 d2 m2 H2 G2 k2 r2 q2 => k v2 d2 m2 H2 G2 (k1.trans k2) r2 q2

/-! ### arguments, displays -/
def wNil : WA := fun _ m Q => Q [] m
def wCons (wa : WE) (wr : WA) : WA := fun ρ m Q => wa ρ m fun d m1 => wr ρ m1 fun ds m2 => Q (d :: ds) m2
def da_nil : DA X c [] wNil := ⟨_, pa_nil, fun A ρ m σ H G Q Qv hw k => k [] [] m H G Keep.refl .nil hw⟩
def da_cons {wr : WA} (ha : DE X c e wa) (hr : DA X c es wr) (hs : starEach (e :: es) X.env = (false, eval e X.env) :: starEach es X.env := by rfl) : DA X c (e :: es) (wCons wa wr) := by
  obtain ⟨t, pa, ra⟩ := ha
  obtain ⟨tr, pr, rr⟩ := hr
  refine ⟨_, pa_cons pa pr hs, fun A ρ m σ H G Q Qv hw k => ra A ρ m σ H G _ _ hw fun v d m1 H1 G1 k1 r1 q1 => ?_⟩
  exact rr A ρ m1 σ H1 G1 _ _ q1 fun vs ds m2 H2 G2 k2 r2 q2 => k (v :: vs) (d :: ds) m2 H2 G2 (k1.trans k2) (.cons (r1.ext (k2.grow G1.toBase).cut) r2) q2
def wTup (wr : WA) : WE := fun ρ m Q => wr ρ m fun ds m1 => ds.length ≤ sizeLine ∧ Q (.tup ds) m1
def de_tup {wr : WA} {x1} (hr : DA X c es wr) : DE X c (.Tuple es x1 pos) (wTup wr) := by
  obtain ⟨tr, pr, rr⟩ := hr
  refine ⟨_, pe_tup pr, fun A ρ m σ H G Q Qv hw k => rr A ρ m σ H G _ _ hw fun vs ds m1 H1 G1 k1 r1 q1 => ?_⟩
  refine ⟨by rw [r1.length]; exact q1.1, fun p hp => k _ _ m1 _ (G1.fresh hp) (k1.trans (Keep.new hp)) (.tup (SqT.of (G1.freshN hp)) (r1.ext (fresh_ext hp))) q1.2⟩
/-- a new list of these contents -/
theorem fresh_list {K : PySem.W.Frag} {A : List Addr} {ρ : DW.Env} {m : Nat} {σ : L2.St} {H : Hp} (G : Good K c A ρ m σ H) {q : Addr} (hq : H q = none) {xs : List V} {ds : List D} (r : RepA c.p K (cut A H) xs ds) :
    Good K c (q :: A) ρ m σ (upd H q (.lst xs)) ∧ q ∉ A ∧ Keep c H (upd H q (.lst xs)) ∧ (upd H q (.lst xs)) q = some (.lst xs) ∧ RepA c.p K (cut (q :: A) (upd H q (.lst xs))) xs ds :=
  ⟨G.take hq, G.notin hq, Keep.new hq, upd_same, r.ext (take_ext hq)⟩
def wLst (wr : WA) : WA := fun ρ m Q => wr ρ m fun ds m1 => ds.length ≤ sizeLine ∧ Q ds m1
def dl_lst {wr : WA} (hr : DA X c es wr) : DL X c (.List es pos) (wLst wr) := by
  obtain ⟨tr, pr, rr⟩ := hr
  refine ⟨_, pe_lst pr, fun A ρ m σ H G Q Qv hw k => rr A ρ m σ H G _ _ hw fun vs ds m1 H1 G1 k1 r1 q1 => ?_⟩
  refine ⟨by rw [r1.length]; exact q1.1, fun p hp => ?_⟩
  obtain ⟨g1, g2, g3, g4, g5⟩ := fresh_list G1 hp r1
  exact k p vs ds m1 _ g1 g2 (none_back G1 k1 hp) (k1.trans g3) g4 g5 q1.2
def de_lst {wr : WA} (hr : DA X c es wr) : DE X c (.List es pos) (fun ρ m Q => wLst wr ρ m fun ds m1 => Q (.lst ds) m1) := (dl_lst hr).de

/-! ### calls of one's own defs -/
abbrev FW := List D → Nat → (D → Nat → Prop) → Prop
/-- what a callee is told of its surroundings -/
structure Ctx (T : List (Addr × Str)) (p : Option Addr) (cc : Addr) (A : List Addr) (m : Nat) (H : Hp) : Prop where
  am : Amb T p cc m H
  pin : ∀ q, p = some q → q ∈ A ∧ cc ∈ A
  tin : ∀ b ∈ T.map (·.1), b ∈ A
  thr : ∀ a ∈ A, ∃ o, H a = some o
theorem Good.ctx {K : PySem.W.Frag} {A : List Addr} {ρ : DW.Env} {m : Nat} {σ : L2.St} {H : Hp} (G : Good K c A ρ m σ H) : Ctx c.T c.p c.cc A m H := ⟨G.am, fun q e => ⟨G.sub _ (G.pin q e).1, G.sub _ (G.pin q e).2⟩, fun b h => G.sub _ (G.tin b h), G.thr⟩
/-- a def's promise, by data -/
def spD (K : PySem.W.Frag) (T : List (Addr × Str)) (fw : FW) : Sp := fun vs H Q _ => ∃ (p : Option Addr) (cc : Addr) (A : List Addr) (ds : List D) (m : Nat) (R : D → Nat → Prop), RepA p K (cut A H) vs ds ∧ Ctx T p cc A m H ∧ fw ds m R ∧
  ∀ v d m' H', (∀ b o, ¬ VolP T p b → H b = some o → H' b = some o) → Amb T p cc m' H' → Rep p K (cut A H') v d → R d m' → Q v H'
/-- a def that keeps it -/
structure DFn (g : Bool) (P : Program) (w : World) (K : PySem.W.Frag) (T : List (Addr × Str)) (mg : Str → Option Value) (base : Heap) (k : Nat) (x : Str) (fw : FW) : Prop where
  ex : ∃ (f : Addr) (fd : FuncData) (ps : List Str), FnG g P w K mg base CX0 k f fd ps (spD K T fw) ∧ mg x = some (.ref f) ∧ PySem.W.keepIn K (.ref f) = true ∧ Binds K fd ps []
def wCall (fw : FW) (wr : WA) : WE := fun ρ m Q => wr ρ m fun ds m1 => fw ds m1 Q
theorem rd_call {K : PySem.W.Frag} {fw : FW} {t : TA} {wr : WA} {E : XK} (rr : RdA K c t wr) : RdE K c (tCall (spD K c.T fw) [] E t) (wCall fw wr) := fun A ρ m σ H G Q Qv hw k => by
  refine rr A ρ m σ H G _ _ hw fun vs ds m1 H1 G1 k1 r1 q1 => ?_
  refine ⟨c.p, c.cc, A, ds, m1, Q, by rw [List.append_nil]; exact r1, G1.ctx, q1, fun v d m' H' kp pn rep q => ?_⟩
  exact k v d m' H' (G1.step kp pn) (k1.trans kp) rep q
def de_call {g : Bool} {j k : Nat} {x : Str} {p : Pos} {fw : FW} {wr : WA} (F : DFn g X.prog X.w X.K c.T X.mg X.base k x fw) (hr : Room j X.A) (hgs : g = true → X.A.guards = some []) (hk : k ≤ j) (hg : Gl X x) (ha : DA X c (e :: es) wr)
    (hdb : (x == ("__debug__" : Str)) = false := by decide) (he : starEach (e :: es) X.env = (false, eval e X.env) :: starEach es X.env := by rfl) (hpl : (backTo pos (starEach es X.env)).any (·.1) = false := by rfl) : DE X c (.Call (.Name x p) (e :: es) [] pos) (wCall fw wr) :=
  ⟨tCall (spD X.K c.T fw) [] E0 ha.t, by
    obtain ⟨f, fd, ps, h1, h2, h3, h4⟩ := F.ex
    exact pe_callG (E := E0) h1 (hr.mono hk) hgs hg h2 h3 h4 pass0 ha.pe hdb he hpl, rd_call ha.rd⟩
def de_call0 {g : Bool} {j k : Nat} {x : Str} {p : Pos} {fw : FW} (F : DFn g X.prog X.w X.K c.T X.mg X.base k x fw) (hr : Room j X.A) (hgs : g = true → X.A.guards = some []) (hk : k ≤ j) (hg : Gl X x) (hdb : (x == ("__debug__" : Str)) = false := by decide) : DE X c (.Call (.Name x p) [] [] pos) (wCall fw wNil) := by
  exact ⟨tCall (spD X.K c.T fw) [] E0 tNil, by
    obtain ⟨f, fd, ps, h1, h2, h3, h4⟩ := F.ex
    exact pe_callG0 (E := E0) h1 (hr.mono hk) hgs hg h2 h3 h4 pass0 hdb, rd_call (wr := wNil) fun A ρ m σ H G Q Qv hw k => k [] [] m H G Keep.refl .nil hw⟩

/-! ### calls of built-ins -/
def RdC (K : PySem.W.Frag) (c : C0) (r : List V → Hp → VK → Prop) (f : List D → (D → Prop) → Prop) : Prop := ∀ A ρ m σ H, Good K c A ρ m σ H → ∀ vs ds, RepA c.p K (cut A H) vs ds → ∀ (Q : D → Prop) (Qv : VK), f ds Q →
  (∀ v d' H', Good K c A ρ m σ H' → Keep c H H' → Rep c.p K (cut A H') v d' → Q d' → Qv v H') → r vs H Qv
def wB (f : List D → (D → Prop) → Prop) (wr : WA) : WE := fun ρ m Q => wr ρ m fun ds m1 => f ds fun z => Q z m1
theorem rd_cb {K : PySem.W.Frag} {r : List V → Hp → VK → Prop} {f : List D → (D → Prop) → Prop} {t : TA} {wr : WA} (hr : RdC K c r f) (rr : RdA K c t wr) : RdE K c (tCB r t) (wB f wr) := fun A ρ m σ H G Q Qv hw k => by
  refine rr A ρ m σ H G _ _ hw fun vs ds m1 H1 G1 k1 r1 q1 => ?_
  exact hr A ρ m1 σ H1 G1 vs ds r1 _ Qv q1 fun v d' H2 G2 k2 r2 q2 => k v d' m1 H2 G2 (k1.trans k2) r2 q2
def de_callB {x : Str} {id : String} {p : Pos} {r : List V → Hp → VK → Prop} {f : List D → (D → Prop) → Prop} {wr : WA} (hc : CallR X (.builtin id) r) (hr : RdC X.K c r f) (hg : Gl X x) (hm : X.mg x = none) (hv : bootBuiltins x = some (.builtin id)) (ha : DA X c (e :: es) wr) (hn : x ≠ "__name__" := by decide) (hdb : (x == ("__debug__" : Str)) = false := by decide)
    (he : starEach (e :: es) X.env = (false, eval e X.env) :: starEach es X.env := by rfl) (hpl : (backTo pos (starEach es X.env)).any (·.1) = false := by rfl) : DE X c (.Call (.Name x p) (e :: es) [] pos) (wB f wr) := by
  obtain ⟨t, pa, ra⟩ := ha
  exact ⟨_, pe_callB hc hg hm hv pa hn hdb he hpl, rd_cb hr ra⟩
def de_callTy {x : Str} {T : String} {p : Pos} {r : List V → Hp → VK → Prop} {f : List D → (D → Prop) → Prop} {wr : WA} (hc : CallR X (.type T) r) (hr : RdC X.K c r f) (hg : Gl X x) (hm : X.mg x = none) (hv : bootBuiltins x = some (.type T)) (ha : DA X c (e :: es) wr) (hn : x ≠ "__name__" := by decide) (hdb : (x == ("__debug__" : Str)) = false := by decide)
    (he : starEach (e :: es) X.env = (false, eval e X.env) :: starEach es X.env := by rfl) (hpl : (backTo pos (starEach es X.env)).any (·.1) = false := by rfl) : DE X c (.Call (.Name x p) (e :: es) [] pos) (wB f wr) := by
  obtain ⟨t, pa, ra⟩ := ha
  exact ⟨_, pe_callTy hc hg hm hv pa hn hdb he hpl, rd_cb hr ra⟩
theorem repA1 {p : Option Addr} {K : PySem.W.Frag} {H : Hp} {vs : List V} {d : D} (r : RepA p K H vs [d]) : ∃ v, vs = [v] ∧ Rep p K H v d := by
  cases r with
  | cons h t =>
    cases t
    exact ⟨_, rfl, h⟩
theorem repA2 {p : Option Addr} {K : PySem.W.Frag} {H : Hp} {vs : List V} {d e : D} (r : RepA p K H vs [d, e]) : ∃ v u, vs = [v, u] ∧ Rep p K H v d ∧ Rep p K H u e := by
  cases r with
  | cons h t =>
    obtain ⟨u, rfl, h2⟩ := repA1 t
    exact ⟨_, u, rfl, h, h2⟩
def lenD : List D → (D → Prop) → Prop
  | [.lst ds], Q => Q (.int ds.length)
  | [.tup ds], Q => Q (.int ds.length)
  | [.str x], Q => x.length ≤ sizeLine ∧ Q (.int x.length)
  | _, _ => False
theorem rd_len {K : PySem.W.Frag} : RdC K c (fun xs H Q => ∃ x n, xs = [x] ∧ LenV K x H n ∧ Q (.int n) H) lenD := fun A ρ m σ H G vs ds r Q Qv h k => by
  unfold lenD at h
  split at h
  · obtain ⟨v, rfl, rv⟩ := repA1 r
    cases rv with
    | lst h1 r1 => exact ⟨_, _, rfl, .inl ⟨_, SqL.of (cut_some h1).2, r1.length.symm⟩, k _ _ H G Keep.refl (.int _) h⟩
  · obtain ⟨v, rfl, rv⟩ := repA1 r
    cases rv with
    | tup h1 r1 => exact ⟨_, _, rfl, .inr ⟨_, SqT.uncut h1, r1.length.symm⟩, k _ _ H G Keep.refl (.int _) h⟩
  · obtain ⟨v, rfl, rv⟩ := repA1 r
    cases rv
    exact ⟨_, _, rfl, ⟨h.1, rfl⟩, k _ _ H G Keep.refl (.int _) h.2⟩
  · cases h
def intD : List D → (D → Prop) → Prop
  | [.int i], Q => Q (.int i)
  | _, _ => False
theorem rd_int {K : PySem.W.Frag} : RdC K c (fun xs H Q => (∃ i, xs = [.int i] ∧ Q (.int i) H) ∨ ∃ k, xs = [.bl k] ∧ Q (.int (if k then 1 else 0)) H) intD := fun A ρ m σ H G vs ds r Q Qv h k => by
  unfold intD at h
  split at h
  · obtain ⟨v, rfl, rv⟩ := repA1 r
    cases rv
    exact .inl ⟨_, rfl, k _ _ H G Keep.refl (.int _) h⟩
  · cases h
def absD : List D → (D → Prop) → Prop
  | [.int i], Q => Q (.int (if i < 0 then -i else i))
  | _, _ => False
theorem rd_abs {K : PySem.W.Frag} : RdC K c (fun xs H Q => ∃ i, xs = [.int i] ∧ Q (.int (if i < 0 then -i else i)) H) absD := fun A ρ m σ H G vs ds r Q Qv h k => by
  unfold absD at h
  split at h
  · obtain ⟨v, rfl, rv⟩ := repA1 r
    cases rv
    exact ⟨_, rfl, k _ _ H G Keep.refl (.int _) h⟩
  · cases h
def strD : List D → (D → Prop) → Prop
  | [.int i], Q => i.natAbs.log2 < 1920 ∧ Q (.str (toString i))
  | _, _ => False
theorem rd_str {K : PySem.W.Frag} : RdC K c (fun xs H Q => ∃ i, xs = [.int i] ∧ i.natAbs.log2 < 1920 ∧ Q (.str (toString i)) H) strD := fun A ρ m σ H G vs ds r Q Qv h k => by
  unfold strD at h
  split at h
  · obtain ⟨v, rfl, rv⟩ := repA1 r
    cases rv
    exact ⟨_, rfl, h.1, k _ _ H G Keep.refl (.str _) h.2⟩
  · cases h
def maxD : List D → (D → Prop) → Prop
  | [.int i, .int j], Q => Q (.int (if j > i then j else i))
  | _, _ => False
theorem rd_max {K : PySem.W.Frag} : RdC K c (fun xs H Q => ∃ i j, xs = [.int i, .int j] ∧ Q (.int (if j > i then j else i)) H) maxD := fun A ρ m σ H G vs ds r Q Qv h k => by
  unfold maxD at h
  split at h
  · obtain ⟨v, u, rfl, rv, r2⟩ := repA2 r
    cases rv
    cases r2
    exact ⟨_, _, rfl, k _ _ H G Keep.refl (.int _) h⟩
  · cases h
def minD : List D → (D → Prop) → Prop
  | [.int i, .int j], Q => Q (.int (if j < i then j else i))
  | _, _ => False
theorem rd_min {K : PySem.W.Frag} : RdC K c (fun xs H Q => ∃ i j, xs = [.int i, .int j] ∧ Q (.int (if j < i then j else i)) H) minD := fun A ρ m σ H G vs ds r Q Qv h k => by
  unfold minD at h
  split at h
  · obtain ⟨v, u, rfl, rv, r2⟩ := repA2 r
    cases rv
    cases r2
    exact ⟨_, _, rfl, k _ _ H G Keep.refl (.int _) h⟩
  · cases h
def tupleD : List D → (D → Prop) → Prop
  | [.lst ds], Q => Q (.tup ds)
  | [.tup ds], Q => Q (.tup ds)
  | _, _ => False
theorem rd_tuple {K : PySem.W.Frag} : RdC K c (fun xs H Q => ∃ p ys, xs = [.ref p] ∧ ((SqL K H p ys ∧ ∀ l, H l = none → Q (.ref l) (upd H l (.tup ys))) ∨ (SqT K H p ys ∧ Q (.ref p) H))) tupleD := fun A ρ m σ H G vs ds r Q Qv h k => by
  unfold tupleD at h
  split at h
  · obtain ⟨v, rfl, rv⟩ := repA1 r
    cases rv with
    | lst h1 r1 => exact ⟨_, _, rfl, .inl ⟨SqL.of (cut_some h1).2, fun l hl => k _ _ _ (G.fresh hl) (Keep.new hl) (.tup (SqT.of (G.freshN hl)) (r1.ext (fresh_ext hl))) h⟩⟩
  · obtain ⟨v, rfl, rv⟩ := repA1 r
    cases rv with
    | tup h1 r1 => exact ⟨_, _, rfl, .inr ⟨SqT.uncut h1, k _ _ H G Keep.refl (.tup h1 r1) h⟩⟩
  · cases h
/-- list(..): new -/
def listD : List D → (List D → Prop) → Prop
  | [.lst ds], Q => Q ds
  | [.tup ds], Q => Q ds
  | _, _ => False
def dl_listc {p : Pos} {wr : WA} (hg : Gl X "list") (hm : X.mg "list" = none) (ha : DA X c [a] wr) (he : starEach [a] X.env = (false, eval a X.env) :: starEach [] X.env := by rfl) : DL X c (.Call (.Name "list" p) [a] [] pos) (fun ρ m Q => wr ρ m fun ds m1 => listD ds fun z => Q z m1) := by
  obtain ⟨t, pa, ra⟩ := ha
  refine ⟨_, pe_callTy call_list_of hg hm (by decide +kernel) pa (he := he) (hpl := rfl), fun A ρ m σ H G Q Qv hw k => ra A ρ m σ H G _ _ hw fun vs ds m1 H1 G1 k1 r1 q1 => ?_⟩
  unfold listD at q1
  split at q1
  · obtain ⟨v, rfl, rv⟩ := repA1 r1
    cases rv with
    | lst h1 r1 =>
      refine ⟨_, _, rfl, .inl (SqL.of (cut_some h1).2), fun l hl => ?_⟩
      obtain ⟨g1, g2, g3, g4, g5⟩ := fresh_list G1 hl r1
      exact k l _ _ m1 _ g1 g2 (none_back G1 k1 hl) (k1.trans g3) g4 g5 q1
  · obtain ⟨v, rfl, rv⟩ := repA1 r1
    cases rv with
    | tup h1 r1 =>
      refine ⟨_, _, rfl, .inr (SqT.uncut h1), fun l hl => ?_⟩
      obtain ⟨g1, g2, g3, g4, g5⟩ := fresh_list G1 hl r1
      exact k l _ _ m1 _ g1 g2 (none_back G1 k1 hl) (k1.trans g3) g4 g5 q1
  · cases q1

/-! ### subscripts, slices -/
def itemD : D → D → (D → Prop) → Prop
  | .lst ds, .int i, Q => ∃ d, atI ds i = some d ∧ Q d
  | .tup ds, .int i, Q => ∃ d, atI ds i = some d ∧ Q d
  | _, _, _ => False
theorem repA_at {p : Option Addr} {K : PySem.W.Frag} {H : Hp} {vs : List V} {ds : List D} {i : Int} {d : D} (r : RepA p K H vs ds) (h : atI ds i = some d) : ∃ v, atI vs i = some v ∧ Rep p K H v d := by
  unfold atI at h ⊢
  rw [r.length]
  cases q : ixN ds.length i with
  | none =>
    rw [q] at h
    cases h
  | some j =>
    rw [q] at h
    exact r.get h
theorem rd_item {K : PySem.W.Frag} : RdOp K c (rIx K) itemD := fun A ρ m σ H G x y d e rx ry Q Qv h k => by
  unfold itemD at h
  split at h
  · obtain ⟨d1, h1, q⟩ := h
    cases ry
    cases rx with
    | lst h2 r2 =>
      obtain ⟨v, h3, r3⟩ := repA_at r2 h1
      exact .inl ⟨_, _, _, v, rfl, rfl, SqL.of (cut_some h2).2, h3, k _ _ H G Keep.refl r3 q⟩
  · obtain ⟨d1, h1, q⟩ := h
    cases ry
    cases rx with
    | tup h2 r2 =>
      obtain ⟨v, h3, r3⟩ := repA_at r2 h1
      exact .inr (.inl ⟨_, _, _, v, rfl, rfl, SqT.uncut h2, h3, k _ _ H G Keep.refl r3 q⟩)
  · cases h
def de_item (ha : DE X c a wa) (hb : DE X c b wb) (hs : PlainIx b) : DE X c (.Subscript a b pos) (wOp itemD wa wb) := by
  obtain ⟨ta, pa, ra⟩ := ha
  obtain ⟨tb, pb, rb⟩ := hb
  exact ⟨_, pe_ix ix_seq pa pb hs, rdE_op ra rb rd_item⟩
end
end DW

/-! DW4: statements, loops, comprehensions, a def's promise. -/
namespace DW
open PySem PySem.Spec L2

/-- from (A, H) to (A', H'): what is not owned stays, what is owned newly is new -/
structure Step (A : List Addr) (H : Hp) (A' : List Addr) (H' : Hp) : Prop where
  grow : Grow A H H'
  own : ∀ a ∈ A', a ∈ A ∨ H a = none
theorem Step.refl {A : List Addr} {H : Hp} : Step A H A H := ⟨Grow.refl, fun _ h => .inl h⟩
theorem Step.trans {A B C : List Addr} {H H1 H2 : Hp} (s : Step A H B H1) (t : Step B H1 C H2) : Step A H C H2 := by
  refine ⟨fun b o n e => ?_, fun a h => ?_⟩
  · have e1 := s.grow b o n e
    refine t.grow b o (fun z => ?_) e1
    rcases s.own b z with z | z
    · exact n z
    · rw [e] at z
      cases z
  · rcases t.own a h with z | z
    · exact s.own a z
    · cases q : H a with
      | none => exact .inr rfl
      | some o =>
        by_cases na : a ∈ A
        · exact .inl na
        · have := s.grow a o na q
          rw [z] at this
          cases this
theorem Step.cut {A B : List Addr} {H H' : Hp} (s : Step A H B H') : Ext (DW.cut A H) (DW.cut B H') := fun b o h => by
  obtain ⟨n, e⟩ := cut_some h
  refine cut_of (fun z => ?_) (s.grow b o n e)
  rcases s.own b z with z | z
  · exact n z
  · rw [e] at z
    cases z
section
variable {K : PySem.W.Frag} {c : C0} {A A' : List Addr} {ρ : DW.Env} {m m' : Nat} {σ : L2.St} {H H' : Hp}
theorem Keep.step (B : Base K c A m H) (k : Keep c H H') : Step A H A H' := ⟨k.grow B, fun _ h => .inl h⟩
theorem Good.steps (G : Good K c A ρ m σ H) (k : Keep c H H') (am : c.Am m' H') (sub : ∀ a ∈ A, a ∈ A') (nw : ∀ a ∈ A', a ∈ A ∨ H a = none) (thr : ∀ a ∈ A', ∃ o, H' a = some o) : Good K c A' ρ m' σ H' := by
  have G1 := G.step k am
  refine ⟨⟨G1.ex, G1.ex0, G1.am, G1.pin, G1.tin, fun a h => sub a (G.sub a h), fun a h => ?_, thr⟩, G.len, fun i kk e => ?_⟩
  · rcases nw a h with z | z
    · exact G.new a z
    · exact .inr (G.none0 z)
  · have q := G.cell i kk e
    have s : Ext (cut A H) (cut A' H') := (Step.mk (k.grow G.toBase) nw).cut
    cases kk with
    | un => trivial
    | raw v => exact q
    | dat d =>
      obtain ⟨v, h1, h2⟩ := q
      exact ⟨v, h1, h2.ext s⟩
    | cau _ _ =>
      obtain ⟨xa, xd, xe, h1, h2⟩ := q
      exact ⟨xa, xd, xe, h1, h2.ext s⟩
    | own ds =>
      obtain ⟨l, xs, h1, h2, h3, h4, h5, h6⟩ := q
      exact ⟨l, xs, h1, sub l h2, h3, k l _ (fun z => h3 (G.vin z)) h4, h5.ext s, h6⟩
/-- an owned object that no cell holds is changed -/
theorem Base.chg (B : Base K c A m H) {a : Addr} {u o : HO} (ha : a ∈ A) (h0 : a ∉ c.A0) (hu : H a = some u) (hx : ∀ φ, u ≠ .ext φ) : Base K c A m (upd H a o) := by
  obtain ⟨hn, hn0⟩ := (B.new a ha).resolve_left h0
  refine ⟨fun b u n e => ?_, fun b u n e => ?_, B.chgAm h0 hu hx, B.pin, B.tin, B.sub, B.new, fun b h => ?_⟩
  · have nb : b ≠ a := fun z => by
      rw [z, hn] at e
      cases e
    rw [upd_ne nb]
    exact B.ex b u n e
  · have nb : b ≠ a := fun z => by
      rw [z, hn0] at e
      cases e
    rw [upd_ne nb]
    exact B.ex0 b u n e
  · by_cases z : b = a
    · subst z
      exact ⟨o, upd_same⟩
    · obtain ⟨u, e⟩ := B.thr b h
      exact ⟨u, by rw [upd_ne z]; exact e⟩
theorem Good.mut (G : Good K c A ρ m σ H) {a : Addr} {u o : HO} (ha : a ∈ A) (h0 : a ∉ c.A0) (hu : H a = some u) (hx : ∀ φ, u ≠ .ext φ) (hown : ∀ (i : Nat) (es : Own), ρ[i]? = some (Cell.own es) → σ[i]? ≠ some (some (V.ref a))) : Good K c A ρ m σ (upd H a o) := by
  have ec : ∀ b u, cut A H b = some u → cut A (upd H a o) b = some u := fun b u e => by
    obtain ⟨n, q⟩ := cut_some e
    have nb : b ≠ a := fun z => n (by rw [z]; exact ha)
    exact cut_of n (by rw [upd_ne nb]; exact q)
  refine ⟨G.toBase.chg ha h0 hu hx, G.len, fun i k e => ?_⟩
  have q := G.cell i k e
  cases k with
  | un => trivial
  | raw v => exact q
  | dat d =>
    obtain ⟨v, h1, h2⟩ := q
    exact ⟨v, h1, h2.ext ec⟩
  | cau _ _ =>
    obtain ⟨xa, xd, xe, h1, h2⟩ := q
    exact ⟨xa, xd, xe, h1, h2.ext ec⟩
  | own ds =>
    obtain ⟨l, xs, h1, h2, h3, h4, h5, h6⟩ := q
    have nl : l ≠ a := fun z => hown i ds e (by rw [← z]; exact h1)
    exact ⟨l, xs, h1, h2, h3, by rw [upd_ne nl]; exact h4, h5.ext ec, h6⟩
end
end DW

/-! DW5: statements, loops, comprehensions. -/
namespace DW
open PySem PySem.Spec L2

structure Posts where
  nx : DW.Env → Nat → Prop
  rt : D → Nat → Prop
  bk : DW.Env → Nat → Prop := fun _ _ => False
  ct : DW.Env → Nat → Prop := fun _ _ => False
abbrev WS := Posts → DW.Env → Nat → Prop
/-- a way out of a statement -/
def Out (K : PySem.W.Frag) (c : C0) (A : List Addr) (H : Hp) (P : DW.Env → Nat → Prop) (F : L2.St → Hp → Prop) : Prop := ∀ A' ρ' m' σ' H', Good K c A' ρ' m' σ' H' → Step A H A' H' → P ρ' m' → F σ' H'
def OutR (K : PySem.W.Frag) (c : C0) (P : D → Nat → Prop) (F : VK) : Prop := ∀ v d A' m' H', Base K c A' m' H' → Rep c.p K (cut A' H') v d → P d m' → F v H'
def RdS (K : PySem.W.Frag) (c : C0) (t : TS) (w : WS) : Prop := ∀ A ρ m σ H, Good K c A ρ m σ H → ∀ (P : Posts) (F : Ends), w P ρ m → Out K c A H P.nx F.nx → OutR K c P.rt F.rt → Out K c A H P.bk F.bk → Out K c A H P.ct F.ct → t F σ H
structure DS (X : Cx) (c : C0) (st : Stmt) (w : WS) where
  t : TS
  pe : PS X st t
  rd : RdS X.K c t w
structure DSs (X : Cx) (c : C0) (sts : List Stmt) (w : WS) where
  t : TS
  pe : PSs X sts t
  rd : RdS X.K c t w
theorem Out.of {K : PySem.W.Frag} {c : C0} {A B : List Addr} {H H1 : Hp} {P : DW.Env → Nat → Prop} {F : L2.St → Hp → Prop} (o : Out K c A H P F) (s : Step A H B H1) : Out K c B H1 P F := fun A' ρ' m' σ' H' G t p => o A' ρ' m' σ' H' G (s.trans t) p

section
variable {X : Cx} {c : C0} {e a b tg iter : Expr} {st : Stmt} {rest body orelse : List Stmt} {we : WE} {wt : WT} {w1 w2 : WS} {pos : Pos}
/-! ### blocks -/
def wNext : WS := fun P ρ m => P.nx ρ m
def wSeq (w1 w2 : WS) : WS := fun P ρ m => w1 { P with nx := w2 P } ρ m
def dss_nil : DSs X c [] wNext := ⟨_, pss_nil, fun A ρ m σ H G P F h n r b ct => n A ρ m σ H G Step.refl h⟩
def dss_one (h : DS X c st w1) : DSs X c [st] w1 := by
  obtain ⟨t, p, r⟩ := h
  exact ⟨t, pss_one p, r⟩
def dss_cons (h1 : DS X c st w1) (h2 : DSs X c rest w2) : DSs X c (st :: rest) (wSeq w1 w2) := by
  obtain ⟨t, p, r⟩ := h1
  obtain ⟨u, q, s⟩ := h2
  refine ⟨_, pss_cons p q, fun A ρ m σ H G P F h n rt b ct => ?_⟩
  refine r A ρ m σ H G { P with nx := w2 P } { F with nx := u F } h (fun A1 ρ1 m1 σ1 H1 G1 s1 h1 => ?_) rt b ct
  exact s A1 ρ1 m1 σ1 H1 G1 P F h1 (n.of s1) rt (b.of s1) (ct.of s1)
def ds_pass : DS X c (.Pass pos) wNext := ⟨_, ps_pass, fun A ρ m σ H G P F h n r b ct => n A ρ m σ H G Step.refl h⟩
def ds_break : DS X c (.Break pos) (fun P ρ m => P.bk ρ m) := ⟨_, ps_break, fun A ρ m σ H G P F h n r b ct => b A ρ m σ H G Step.refl h⟩
def ds_continue : DS X c (.Continue pos) (fun P ρ m => P.ct ρ m) := ⟨_, ps_continue, fun A ρ m σ H G P F h n r b ct => ct A ρ m σ H G Step.refl h⟩
def wRet (we : WE) : WS := fun P ρ m => we ρ m P.rt
def ds_ret (h : DE X c e we) : DS X c (.Return (some e) pos) (wRet we) := by
  obtain ⟨t, p, r⟩ := h
  refine ⟨_, ps_ret p, fun A ρ m σ H G P F h n rt b ct => r A ρ m σ H G _ _ h fun v d m1 H1 G1 k1 r1 q1 => ?_⟩
  exact rt v d A m1 H1 G1.toBase r1 q1
def ds_retN : DS X c (.Return none pos) (fun P ρ m => P.rt .non m) := ⟨_, ps_retN, fun A ρ m σ H G P F h n rt b ct => rt .non .non A m H G.toBase .non h⟩
def wDrop (we : WE) : WS := fun P ρ m => we ρ m fun _ m1 => P.nx ρ m1
def ds_expr (h : DE X c e we) (hs : swapsWith e none pos.line X.env = pure false := by rfl) : DS X c (.Expr e pos) (wDrop we) := by
  obtain ⟨t, p, r⟩ := h
  refine ⟨_, ps_expr p hs, fun A ρ m σ H G P F h n rt b ct => r A ρ m σ H G _ _ h fun v d m1 H1 G1 k1 r1 q1 => ?_⟩
  exact n A ρ m1 σ H1 G1 (k1.step G.toBase) q1
def wIfS (wt : WT) (w1 w2 : WS) : WS := fun P ρ m => wt ρ m fun b m1 => if b = true then w1 P ρ m1 else w2 P ρ m1
def ds_if (ht : DT X c e wt) (h1 : DSs X c body w1) (h2 : DSs X c orelse w2) : DS X c (.If e body orelse pos) (wIfS wt w1 w2) := by
  obtain ⟨t, p, r⟩ := ht
  obtain ⟨t1, p1, r1⟩ := h1
  obtain ⟨t2, p2, r2⟩ := h2
  refine ⟨_, ps_if p p1 p2, fun A ρ m σ H G P F h n rt b ct => r A ρ m σ H G _ _ h fun bb m1 H1 G1 k1 q1 => ?_⟩
  have s1 := k1.step G.toBase
  cases bb with
  | true => exact r1 A ρ m1 σ H1 G1 P F q1 (n.of s1) rt (b.of s1) (ct.of s1)
  | false => exact r2 A ρ m1 σ H1 G1 P F q1 (n.of s1) rt (b.of s1) (ct.of s1)

/-! ### stores -/
section
variable {K : PySem.W.Frag} {A : List Addr} {ρ : DW.Env} {m : Nat} {σ : L2.St} {H : Hp}
theorem Good.set (G : Good K c A ρ m σ H) {v : V} {d : D} (r : Rep c.p K (cut A H) v d) (i : Nat) : Good K c A (ρ.set i (.dat d)) m (σ.set i (some v)) H := by
  refine ⟨G.toBase, by rw [List.length_set, List.length_set]; exact G.len, fun j k e => ?_⟩
  by_cases hj : i = j
  · subst hj
    have hl : i < ρ.length := by
      have := (List.getElem?_eq_some_iff.mp e).1
      rwa [List.length_set] at this
    rw [List.getElem?_set_self hl] at e
    cases e
    exact ⟨v, by rw [List.getElem?_set_self (by rw [← G.len]; exact hl)], r⟩
  · rw [List.getElem?_set_ne hj] at e
    have q := G.cell j k e
    cases k with
    | un => trivial
    | raw v' => exact (List.getElem?_set_ne hj).trans q
    | dat d' =>
      obtain ⟨v', h1, h2⟩ := q
      exact ⟨v', by rw [List.getElem?_set_ne hj]; exact h1, h2⟩
    | cau _ _ =>
      obtain ⟨xa, xd, xe, h1, h2⟩ := q
      exact ⟨xa, xd, xe, by rw [List.getElem?_set_ne hj]; exact h1, h2⟩
    | own ds =>
      obtain ⟨l, xs, h1, h2, h3, h4, h5, h6⟩ := q
      refine ⟨l, xs, by rw [List.getElem?_set_ne hj]; exact h1, h2, h3, h4, h5, fun j' es n' e' => ?_⟩
      by_cases hj' : i = j'
      · subst hj'
        have hl : i < ρ.length := by
          have := (List.getElem?_eq_some_iff.mp e').1
          rwa [List.length_set] at this
        rw [List.getElem?_set_self hl] at e'
        cases e'
      · rw [List.getElem?_set_ne hj'] at e' ⊢
        exact h6 j' es n' e'
/-- a name forgotten -/
theorem Good.wipe1 (G : Good K c A ρ m σ H) (i : Nat) : Good K c A (ρ.set i .un) m (σ.set i none) H := by
  refine ⟨G.toBase, by rw [List.length_set, List.length_set]; exact G.len, fun j k e => ?_⟩
  by_cases hj : i = j
  · subst hj
    have hl : i < ρ.length := by
      have := (List.getElem?_eq_some_iff.mp e).1
      rwa [List.length_set] at this
    rw [List.getElem?_set_self hl] at e
    cases e
    trivial
  · rw [List.getElem?_set_ne hj] at e
    have q := G.cell j k e
    cases k with
    | un => trivial
    | raw v' => exact (List.getElem?_set_ne hj).trans q
    | dat d' =>
      obtain ⟨v', h1, h2⟩ := q
      exact ⟨v', by rw [List.getElem?_set_ne hj]; exact h1, h2⟩
    | cau _ _ =>
      obtain ⟨xa, xd, xe, h1, h2⟩ := q
      exact ⟨xa, xd, xe, by rw [List.getElem?_set_ne hj]; exact h1, h2⟩
    | own ds =>
      obtain ⟨l, xs, h1, h2, h3, h4, h5, h6⟩ := q
      refine ⟨l, xs, by rw [List.getElem?_set_ne hj]; exact h1, h2, h3, h4, h5, fun j' es n' e' => ?_⟩
      by_cases hj' : i = j'
      · subst hj'
        have hl : i < ρ.length := by
          have := (List.getElem?_eq_some_iff.mp e').1
          rwa [List.length_set] at this
        rw [List.getElem?_set_self hl] at e'
        cases e'
      · rw [List.getElem?_set_ne hj'] at e' ⊢
        exact h6 j' es n' e'
end
def wSet (i : Nat) (we : WE) : WS := fun P ρ m => we ρ m fun d m1 => P.nx (ρ.set i (.dat d)) m1
def ds_set {i : Nat} {x : Str} {pos' : Pos} (hN : X.N.Nodup) (hi : X.N[i]? = some x) (hx : Loc X.env.scope x) (h : DE X c e we) (hs : swapsWith e (some (.Name x pos')) pos.line X.env = pure false := by rfl) (hf : X.fn x = true ∨ X.env.scope.names.lookup x = some .local := by first | exact .inl rfl | exact .inr rfl | assumption) :
    DS X c (.Assign [.Name x pos'] e pos) (wSet i we) := by
  obtain ⟨t, p, r⟩ := h
  refine ⟨_, ps_set (i := i) hN hi hx p hs hf, fun A ρ m σ H G P F h n rt b ct => r A ρ m σ H G _ _ h fun v d m1 H1 G1 k1 r1 q1 => ?_⟩
  exact n A _ m1 _ H1 (G1.set r1 i) (k1.step G.toBase) q1
/-- a new list of one's own, to be changed later -/
def wSetO (i : Nat) (we : WA) : WS := fun P ρ m => we ρ m fun ds m1 => P.nx (ρ.set i (.own (.lst ds))) m1
theorem Good.setOwn {K : PySem.W.Frag} {A : List Addr} {ρ : DW.Env} {m : Nat} {σ : L2.St} {H : Hp} {a : Addr} {u : HO} {o : Own} (G : Good K c (a :: A) ρ m σ H) (h0 : a ∉ c.A0) (ho : ∀ (j : Nat) (es : Own), ρ[j]? = some (Cell.own es) → σ[j]? ≠ some (some (V.ref a)))
    (ea : H a = some u) (r : OwnO c.p K (cut (a :: A) H) a u o) (i : Nat) : Good K c (a :: A) (ρ.set i (.own o)) m (σ.set i (some (.ref a))) H := by
  refine ⟨G.toBase, by rw [List.length_set, List.length_set]; exact G.len, fun j k e => ?_⟩
  by_cases hj : i = j
  · subst hj
    have hl : i < ρ.length := by
      have := (List.getElem?_eq_some_iff.mp e).1
      rwa [List.length_set] at this
    rw [List.getElem?_set_self hl] at e
    cases e
    refine ⟨a, u, by rw [List.getElem?_set_self (by rw [← G.len]; exact hl)], List.mem_cons_self .., h0, ea, r, fun j es n' e' => ?_⟩
    rw [List.getElem?_set_ne (Ne.symm n')] at e' ⊢
    exact ho j es e'
  · rw [List.getElem?_set_ne hj] at e
    have q := G.cell j k e
    cases k with
    | un => trivial
    | raw v' => exact (List.getElem?_set_ne hj).trans q
    | dat d' =>
      obtain ⟨v', h1, h2⟩ := q
      exact ⟨v', by rw [List.getElem?_set_ne hj]; exact h1, h2⟩
    | cau _ _ =>
      obtain ⟨xa, xd, xe, h1, h2⟩ := q
      exact ⟨xa, xd, xe, by rw [List.getElem?_set_ne hj]; exact h1, h2⟩
    | own es' =>
      obtain ⟨l, ys, h1, h2, h3, h4, h5, h6⟩ := q
      refine ⟨l, ys, by rw [List.getElem?_set_ne hj]; exact h1, h2, h3, h4, h5, fun j' es n' e' => ?_⟩
      by_cases hj' : i = j'
      · subst hj'
        by_cases hl : i < σ.length
        · rw [List.getElem?_set_self hl]
          intro z
          cases z
          exact ho j es' e h1
        · rw [List.getElem?_eq_none (by rw [List.length_set]; omega)]
          exact fun z => nomatch z
      · rw [List.getElem?_set_ne hj'] at e' ⊢
        exact h6 j' es n' e'
theorem own_ne {K : PySem.W.Frag} {A : List Addr} {ρ : DW.Env} {m : Nat} {σ : L2.St} {H : Hp} {a : Addr} (G : Good K c A ρ m σ H) (na : a ∉ A) : ∀ (j : Nat) (es : Own), ρ[j]? = some (Cell.own es) → σ[j]? ≠ some (some (V.ref a)) := fun j es e z => by
  obtain ⟨l, hl, e2⟩ := G.ownIn e
  rw [z] at e2
  cases e2
  exact na hl
def ds_setO {wl : WA} {i : Nat} {x : Str} {pos' : Pos} (hN : X.N.Nodup) (hi : X.N[i]? = some x) (hx : Loc X.env.scope x) (h : DL X c e wl) (hs : swapsWith e (some (.Name x pos')) pos.line X.env = pure false := by rfl) (hf : X.fn x = true ∨ X.env.scope.names.lookup x = some .local := by first | exact .inl rfl | exact .inr rfl | assumption) :
    DS X c (.Assign [.Name x pos'] e pos) (wSetO i wl) := by
  obtain ⟨t, p, r⟩ := h
  refine ⟨_, ps_set (i := i) hN hi hx p hs hf, fun A ρ m σ H G P F h n rt b ct => r A ρ m σ H G _ _ h fun a xs ds m1 H1 G1 na ha k1 ea r1 q1 => ?_⟩
  refine n (a :: A) _ m1 _ H1 (G1.setOwn (fun z => na (G.sub a z)) (own_ne G na) ea (.lst r1) i) ⟨k1.grow G.toBase, fun b hb => ?_⟩ q1
  rcases List.mem_cons.mp hb with z | z
  · exact .inr (by rw [z]; exact ha)
  · exact .inl z

def Own.d : Own → D
  | .lst ds => .lst ds
  | .ins _ C fs => .obj C fs
  | .dct fs => .dct fs
theorem OwnO.rep {p : Option Addr} {K : PySem.W.Frag} {H : Hp} {u : HO} {o : Own} {l : Addr} (h : OwnO p K H l u o) (e : H l = some u) : Rep p K H (.ref l) o.d := by
  cases h with
  | lst r => exact .lst e r
  | ins r => exact .obj e r
  | dct r => exact .dct e r
/-- names for what is one's own no more: the list is data from here on -/
theorem Good.freeze {K : PySem.W.Frag} {A : List Addr} {ρ : DW.Env} {m : Nat} {σ : L2.St} {H : Hp} (G : Good K c A ρ m σ H) {i : Nat} {ds : Own} (e : ρ[i]? = some (.own ds)) : ∃ A', Good K c A' (ρ.set i (.dat ds.d)) m σ H ∧ Step A H A' H := by
  obtain ⟨l, xs, h1, h2, h3, h4, h5, h6⟩ := G.cell i _ e
  refine ⟨A.filter (· ≠ l), ?_, ⟨Grow.refl, fun a h => .inl (List.mem_filter.mp h).1⟩⟩
  have sub : ∀ b ∈ A.filter (· ≠ l), b ∈ A := fun b h => (List.mem_filter.mp h).1
  have s : Ext (cut A H) (cut (A.filter (· ≠ l)) H) := cut_sub sub
  refine ⟨⟨G.ex, G.ex0, G.am, G.pin, G.tin, fun b h => List.mem_filter.mpr ⟨G.sub b h, by simpa using fun z => h3 (by rw [← z]; exact h)⟩, fun b h => G.new b (sub b h), fun b h => G.thr b (sub b h)⟩, by rw [List.length_set]; exact G.len, fun j k e' => ?_⟩
  by_cases hj : i = j
  · subst hj
    have hl : i < ρ.length := (List.getElem?_eq_some_iff.mp e).1
    rw [List.getElem?_set_self hl] at e'
    cases e'
    exact ⟨.ref l, h1, (h5.ext s).rep (cut_of (fun z => by simpa using (List.mem_filter.mp z).2) h4)⟩
  · rw [List.getElem?_set_ne hj] at e'
    have q := G.cell j k e'
    cases k with
    | un => trivial
    | raw v => exact q
    | dat d =>
      obtain ⟨v, q1, q2⟩ := q
      exact ⟨v, q1, q2.ext s⟩
    | cau _ _ =>
      obtain ⟨xa, xd, xe, q1, q2⟩ := q
      exact ⟨xa, xd, xe, q1, q2.ext s⟩
    | own es =>
      obtain ⟨l', ys, q1, q2, q3, q4, q5, q6⟩ := q
      refine ⟨l', ys, q1, List.mem_filter.mpr ⟨q2, ?_⟩, q3, q4, q5.ext s, fun j' fs n' e2 => ?_⟩
      · have := h6 j es (Ne.symm hj) e'
        rw [q1] at this
        simpa using fun z => this (by rw [z])
      · by_cases hj' : i = j'
        · subst hj'
          have hl : i < ρ.length := (List.getElem?_eq_some_iff.mp e).1
          rw [List.getElem?_set_self hl] at e2
          cases e2
        · rw [List.getElem?_set_ne hj'] at e2
          exact q6 j' fs n' e2
/-- ahead of a statement a list of one's own becomes data -/
def wFrz (i : Nat) (w : WS) : WS := fun P ρ m => match ρ[i]? with
  | some (.own ds) => w P (ρ.set i (.dat ds.d)) m
  | _ => False
theorem rd_frz {K : PySem.W.Frag} {t : TS} {w : WS} (i : Nat) (h : RdS K c t w) : RdS K c t (wFrz i w) := fun A ρ m σ H G P F hw n rt b ct => by
  unfold wFrz at hw
  split at hw
  · rename_i ds e
    obtain ⟨A', G', s⟩ := G.freeze e
    exact h A' _ m σ H G' P F hw (n.of s) rt (b.of s) (ct.of s)
  · cases hw
def ds_frz (i : Nat) (h : DS X c st w1) : DS X c st (wFrz i w1) := by
  obtain ⟨t, p, r⟩ := h
  exact ⟨t, p, rd_frz i r⟩

/-- xs.append(e), xs one's own -/
def wApp (i : Nat) (we : WE) : WS := fun P ρ m => match ρ[i]? with
  | some (.own (.lst ds)) => we ρ m fun d m1 => ds.length < 10000000 ∧ P.nx (ρ.set i (.own (.lst (ds ++ [d])))) m1
  | _ => False
theorem Good.chg {K : PySem.W.Frag} {A : List Addr} {ρ : DW.Env} {m : Nat} {σ : L2.St} {H : Hp} (G : Good K c A ρ m σ H) {i : Nat} {ds es : Own} {ys : HO} {l : Addr} (e : ρ[i]? = some (.own ds)) (hl : σ[i]? = some (some (.ref l))) (r : OwnO c.p K (cut A H) l ys es) :
    Good K c A (ρ.set i (.own es)) m σ (upd H l ys) := by
  obtain ⟨l', xs, h1, h2, h3, h4, h5, h6⟩ := G.cell i _ e
  rw [hl] at h1
  cases h1
  have ec : Ext (cut A H) (cut A (upd H l ys)) := fun b u e => by
    obtain ⟨n, q⟩ := cut_some e
    have nb : b ≠ l := fun z => n (by rw [z]; exact h2)
    exact cut_of n (by rw [upd_ne nb]; exact q)
  refine ⟨G.toBase.chg h2 h3 h4 h5.noExt, by rw [List.length_set]; exact G.len, fun j k e' => ?_⟩
  · by_cases hj : i = j
    · subst hj
      have hl' : i < ρ.length := (List.getElem?_eq_some_iff.mp e).1
      rw [List.getElem?_set_self hl'] at e'
      cases e'
      refine ⟨l, ys, hl, h2, h3, upd_same, r.ext ec, fun j fs n' e2 => ?_⟩
      rw [List.getElem?_set_ne (Ne.symm n')] at e2
      exact h6 j fs n' e2
    · rw [List.getElem?_set_ne hj] at e'
      have q := G.cell j k e'
      cases k with
      | un => trivial
      | raw v => exact q
      | dat d =>
        obtain ⟨v, q1, q2⟩ := q
        exact ⟨v, q1, q2.ext ec⟩
      | cau _ _ =>
        obtain ⟨xa, xd, xe, q1, q2⟩ := q
        exact ⟨xa, xd, xe, q1, q2.ext ec⟩
      | own fs =>
        obtain ⟨l2, zs, q1, q2, q3, q4, q5, q6⟩ := q
        have nl : l2 ≠ l := fun z => q6 i ds hj e (by rw [z]; exact hl)
        refine ⟨l2, zs, q1, q2, q3, by rw [upd_ne nl]; exact q4, q5.ext ec, fun j' gs n' e2 => ?_⟩
        by_cases hj' : i = j'
        · subst hj'
          exact q6 i ds n' e
        · rw [List.getElem?_set_ne hj'] at e2
          exact q6 j' gs n' e2
def ds_append {call : Expr} {i : Nat} (hp : ∀ te, PE X e te → PE X call (tBM X.K "list" rAppend (tVar i) (tCons te tNil))) (h : DE X c e we) (hs : swapsWith call none pos.line X.env = pure false := by rfl) : DS X c (.Expr call pos) (wApp i we) := by
  obtain ⟨t, pe, r⟩ := h
  refine ⟨_, ps_expr (hp t pe) hs, fun A ρ m σ H G P F hw n rt b ct => ?_⟩
  unfold wApp at hw
  split at hw
  case h_2 => cases hw
  rename_i ds e1
  obtain ⟨l, u, h1, h2, h3, h4, h5, h6⟩ := G.cell i _ e1
  cases h5 with | lst h5 =>
  refine ⟨_, h1, .inl ⟨rfl, _, SqL.of h4⟩, r A ρ m σ H G _ _ hw fun v d m1 H1 G1 k1 r1 q1 => ?_⟩
  obtain ⟨l', ys, g1, g2, g3, g4, g5, g6⟩ := G1.cell i _ e1
  rw [h1] at g1
  cases g1
  cases g5 with | lst g5 =>
  refine ⟨l, _, v, rfl, rfl, g4, ?_, ?_⟩
  · rw [g5.length]
    exact Nat.lt_of_lt_of_le q1.1 (by decide)
  · exact n A _ m1 σ _ (G1.chg e1 h1 (.lst (g5.append (.one r1)))) ⟨fun b o nb e => by
      have nl : b ≠ l := fun z => nb (by rw [z]; exact h2)
      rw [upd_ne nl]
      exact k1.grow G.toBase b o nb e, fun a h => .inl h⟩ q1.2
end
end DW

/-! DW6: targets, what is walked, loops, comprehensions, a def's promise. -/
namespace DW
open PySem PySem.Spec L2

section
variable {X : Cx} {c : C0} {e a b tg iter : Expr} {es : List Expr} {st : Stmt} {rest body orelse : List Stmt} {we : WE} {wt : WT} {w1 w2 : WS} {pos : Pos}

/-! ### targets: they store data in slots of sl alone -/
abbrev GD := D → DW.Env → (DW.Env → Prop) → Prop
def RdG (K : PySem.W.Frag) (c : C0) (t : TG) (g : GD) (sl : List Nat) : Prop := ∀ A ρ m σ H v d, Good K c A ρ m σ H → Rep c.p K (cut A H) v d → ∀ (Q : DW.Env → Prop) (R : L2.St → Hp → Prop), g d ρ Q →
  (∀ ρ' σ', Good K c A ρ' m σ' H → σ'.length = σ.length → (∀ j, j ∉ sl → σ'[j]? = σ[j]?) → Q ρ' → R σ' H) → t v σ H R
structure DG (X : Cx) (c : C0) (tg : Expr) (g : GD) (sl : List Nat) where
  t : TG
  pe : PG X tg t
  rd : RdG X.K c t g sl
def gN (i : Nat) : GD := fun d ρ Q => Q (ρ.set i (.dat d))
def dg_name {i : Nat} {x : Str} (hN : X.N.Nodup) (hi : X.N[i]? = some x) (hx : Loc X.env.scope x) (hf : X.fn x = true ∨ X.env.scope.names.lookup x = some .local := by first | exact .inl rfl | exact .inr rfl | assumption) : DG X c (.Name x pos) (gN i) [i] :=
  ⟨_, pg_name hN hi hx hf, fun A ρ m σ H v d G r Q R hw k => k _ _ (G.set r i) (by rw [List.length_set]) (fun j hj => List.getElem?_set_ne (by simpa [eq_comm] using hj)) hw⟩
abbrev GDs := List D → DW.Env → (DW.Env → Prop) → Prop
def RdGs (K : PySem.W.Frag) (c : C0) (t : TGs) (g : GDs) (sl : List Nat) : Prop := ∀ A ρ m σ H vs ds, Good K c A ρ m σ H → RepA c.p K (cut A H) vs ds → ∀ (Q : DW.Env → Prop) (R : L2.St → Hp → Prop), g ds ρ Q →
  (∀ ρ' σ', Good K c A ρ' m σ' H → σ'.length = σ.length → (∀ j, j ∉ sl → σ'[j]? = σ[j]?) → Q ρ' → R σ' H) → t vs σ H R
structure DGs (X : Cx) (c : C0) (ts : List Expr) (g : GDs) (sl : List Nat) where
  t : TGs
  pe : PGs X ts t
  rd : RdGs X.K c t g sl
def gNil0 : GDs := fun ds ρ Q => ds = [] ∧ Q ρ
def gCons0 (g : GD) (gs : GDs) : GDs := fun ds ρ Q => match ds with
  | d :: r => g d ρ fun ρ1 => gs r ρ1 Q
  | [] => False
def dgs_nil : DGs X c [] gNil0 [] := ⟨_, pgs_nil, fun A ρ m σ H vs ds G r Q R hw k => by
  obtain ⟨rfl, q⟩ := hw
  cases r
  exact ⟨rfl, k ρ σ G rfl (fun _ _ => rfl) q⟩⟩
def dgs_cons {g : GD} {gs : GDs} {s1 s2 : List Nat} (h1 : DG X c e g s1) (h2 : DGs X c es gs s2) (hs : (assignEach (e :: es) X.env).map (·.2) = assign e X.env :: (assignEach es X.env).map (·.2) := by rfl) : DGs X c (e :: es) (gCons0 g gs) (s1 ++ s2) := by
  obtain ⟨t, p, r⟩ := h1
  obtain ⟨u, q, s⟩ := h2
  refine ⟨_, pgs_cons p q hs, fun A ρ m σ H vs ds G rp Q R hw k => ?_⟩
  unfold gCons0 at hw
  split at hw
  · cases rp with
    | cons hv rv =>
      refine ⟨_, _, rfl, r A ρ m σ H _ _ G hv _ _ hw fun ρ1 σ1 G1 l1 f1 q1 => ?_⟩
      exact s A ρ1 m σ1 H _ _ G1 rv _ _ q1 fun ρ2 σ2 G2 l2 f2 q2 => k ρ2 σ2 G2 (l2.trans l1) (fun j hj => by
        rw [List.mem_append, not_or] at hj
        rw [f2 j hj.2, f1 j hj.1]) q2
  · cases hw
def gT (n : Nat) (gs : GDs) : GD := fun d ρ Q => match d with
  | .tup ds => ds.length = n ∧ gs ds ρ Q
  | _ => False
def dg_tup {gs : GDs} {sl : List Nat} {k : Nat} {n : Nat} (hc : X.calm = true) (h : DGs X c es gs sl) (hn : (assignEach es X.env).length = n := by rfl) (hst : (assignEach es X.env).findIdx? (·.1) = none := by rfl) : DG X c (.Tuple es k pos) (gT n gs) sl := by
  obtain ⟨t, p, r⟩ := h
  refine ⟨_, pg_tup hc p hn hst, fun A ρ m σ H v d G rp Q R hw k => ?_⟩
  unfold gT at hw
  split at hw
  · cases rp with
    | tup h1 r1 => exact ⟨_, _, rfl, SqT.uncut h1, by rw [r1.length]; exact hw.1, r A ρ m σ H _ _ G r1 Q R hw.2 k⟩
  · cases hw
/-- target = value, any target -/
def wAsg (g : GD) (we : WE) : WS := fun P ρ m => we ρ m fun d m1 => g d ρ fun ρ1 => P.nx ρ1 m1
def ds_asg {g : GD} {sl : List Nat} (h : DE X c e we) (hg : DG X c tg g sl) (hs : swapsWithSole [tg] e pos.line X.env = pure false := by rfl) (hw : swappedStores [tg] e X.env = pure none := by rfl)
    (h1 : (assignEach [tg] X.env).map (·.2) = [assign tg X.env] := by rfl) : DS X c (.Assign [tg] e pos) (wAsg g we) := by
  obtain ⟨t, p, r⟩ := h
  obtain ⟨u, q, s⟩ := hg
  refine ⟨_, ps_asg p q hs hw h1, fun A ρ m σ H G P F hw n rt b ct => r A ρ m σ H G _ _ hw fun v d m1 H1 G1 k1 r1 q1 => ?_⟩
  exact s A ρ m1 σ H1 v d G1 r1 _ _ q1 fun ρ2 σ2 G2 _ _ q2 => n A ρ2 m1 σ2 H1 G2 (k1.step G.toBase) q2
/-- a, b = x, y; a, b, c = x, y, z: no tuple is made -/
def wPar2 (i j : Nat) (wr : WA) : WS := fun P ρ m => wr ρ m fun ds m1 => match ds with
  | [x, y] => P.nx ((ρ.set i (.dat x)).set j (.dat y)) m1
  | _ => False
def wPar3 (i j l : Nat) (wr : WA) : WS := fun P ρ m => wr ρ m fun ds m1 => match ds with
  | [x, y, z] => P.nx (((ρ.set i (.dat x)).set j (.dat y)).set l (.dat z)) m1
  | _ => False
def ds_par2 {i j : Nat} {wr : WA} (hp : ∀ ta, PA X es ta → PS X st (tPar i j ta)) (h : DA X c es wr) : DS X c st (wPar2 i j wr) := by
  obtain ⟨t, p, r⟩ := h
  refine ⟨_, hp t p, fun A ρ m σ H G P F hw n rt b ct => r A ρ m σ H G _ _ hw fun vs ds m1 H1 G1 k1 r1 q1 => ?_⟩
  split at q1
  · obtain ⟨v, u, rfl, h1, h2⟩ := repA2 r1
    exact ⟨v, u, rfl, n A _ m1 _ H1 ((G1.set h1 i).set h2 j) (k1.step G.toBase) q1⟩
  · cases q1
def ds_par3 {i j l : Nat} {wr : WA} (hp : ∀ ta, PA X es ta → PS X st (tPar3 i j l ta)) (h : DA X c es wr) : DS X c st (wPar3 i j l wr) := by
  obtain ⟨t, p, r⟩ := h
  refine ⟨_, hp t p, fun A ρ m σ H G P F hw n rt b ct => r A ρ m σ H G _ _ hw fun vs ds m1 H1 G1 k1 r1 q1 => ?_⟩
  split at q1
  · cases r1 with
    | cons h1 r1 =>
      obtain ⟨v, u, rfl, h2, h3⟩ := repA2 r1
      exact ⟨_, v, u, rfl, n A _ m1 _ H1 (((G1.set h1 i).set h2 j).set h3 l) (k1.step G.toBase) q1⟩
  · cases q1

/-! ### what is walked -/
/-- the iterator J gives these data one by one, whatever is done meanwhile -/
def Iters (p : Option Addr) (K : PySem.W.Frag) (A : List Addr) (ds : List D) (J : It) (H : Hp) : Prop := ∀ A' H', Step A H A' H' → (∀ a ∈ A', ∃ o, H' a = some o) →
  (∀ i d, ds[i]? = some d → J.go i H' ∧ ∀ x H2, J.yld i H' x H2 → Ext H' H2 ∧ Rep p K (cut A' H2) x d) ∧ J.stop ds.length H'
def RdI (K : PySem.W.Frag) (c : C0) (wi : TI) (w : WA) : Prop := ∀ A ρ m σ H, Good K c A ρ m σ H → ∀ (Q : List D → Nat → Prop) (R : It → Hp → Prop), w ρ m Q →
  (∀ J ds m' H', Good K c A ρ m' σ H' → Keep c H H' → Iters c.p K A ds J H' → Q ds m' → R J H') → wi σ H R
structure DI (X : Cx) (c : C0) (tg iter : Expr) (w : WA) where
  t : TI
  pe : PI X tg iter t
  rd : RdI X.K c t w
theorem pi_or {w1 w2 : TI} (h1 : PI X tg iter w1) (h2 : PI X tg iter w2) : PI X tg iter (fun σ H R => w1 σ H R ∨ w2 σ H R) := ⟨fun pins s σ H R I h => h.elim (h1.run pins s σ H R I) (h2.run pins s σ H R I)⟩
def seqD : D → Option (List D)
  | .lst ds => some ds
  | .tup ds => some ds
  | _ => none
/-- a list or a tuple -/
def wSeqI (we : WE) : WA := fun ρ m Q => we ρ m fun d m1 => match seqD d with
  | some ds => Q ds m1
  | none => False
def iSeq (K : PySem.W.Frag) (te : TE) : TI := fun σ H R => te σ H fun x H1 => ∃ a, x = .ref a ∧ (((∃ xs, SqL K H1 a xs) ∧ R (Itl K a) H1) ∨ ((∃ xs, SqT K H1 a xs) ∧ R (Itt K a) H1))
theorem pi_seq {l : Expr} {tl : TE} (hl : PE X l tl) : PI X tg l (iSeq X.K tl) := by
  refine ⟨fun pins s σ H R I h => ?_⟩
  refine thn (hl.run pins s σ H _ I h) fun v s1 ⟨x, H1, I1, r1, q1⟩ => ?_
  obtain ⟨a, e, q⟩ := q1
  subst e
  cases r1
  rcases q with ⟨⟨xs, hq⟩, q⟩ | ⟨⟨xs, hq⟩, q⟩
  · obtain ⟨its, rv, p, hz⟩ := I1.list hq
    refine wpAny_pyIter_list p.isList ?_
    refine ⟨s1.heap.objs.size, [s1.heap.objs.size], _, _, H1, rfl, I1.kept (t' := s1.toks) fun b o e => Heap.get?_push_of_some _ e, turn_list a _, ⟨_, Heap.get?_push_size _ rfl, rfl, rfl⟩, fun b hb => ?_, q⟩
    have e : b = s1.heap.objs.size := by simpa using hb
    subst e
    exact I1.fpOk (Nat.le_refl _) (I1.hok.fresh (Nat.le_refl _))
  · obtain ⟨its, rv, p, hz⟩ := I1.tuple hq
    refine wpAny_pyIter_tuple (show s1.heap.IsTuple a its.toArray from p) ?_
    refine ⟨s1.heap.objs.size, [s1.heap.objs.size], _, _, H1, rfl, I1.kept (t' := s1.toks) fun b o e => Heap.get?_push_of_some _ e, turn_tuple a _, ⟨_, Heap.get?_push_size _ rfl, rfl, rfl⟩, fun b hb => ?_, q⟩
    have e : b = s1.heap.objs.size := by simpa using hb
    subst e
    exact I1.fpOk (Nat.le_refl _) (I1.hok.fresh (Nat.le_refl _))
theorem iters_list {p : Option Addr} {K : PySem.W.Frag} {A : List Addr} {H : Hp} {a : Addr} {xs : List V} {ds : List D} (h : cut A H a = some (.lst xs)) (r : RepA p K (cut A H) xs ds) : Iters p K A ds (Itl K a) H := fun A' H' s _ => by
  have e := s.cut
  have h' := (cut_some (e _ _ h)).2
  refine ⟨fun i d hd => ?_, ⟨xs, SqL.of h', Nat.le_of_eq r.length⟩⟩
  obtain ⟨v, hv, rv⟩ := r.get hd
  refine ⟨⟨xs, v, SqL.of h', hv⟩, fun x H2 y => ?_⟩
  obtain ⟨rfl, y⟩ := y
  have := y xs (SqL.of h')
  rw [hv] at this
  cases this
  exact ⟨fun _ _ z => z, rv.ext e⟩
theorem iters_tup {p : Option Addr} {K : PySem.W.Frag} {A : List Addr} {H : Hp} {a : Addr} {xs : List V} {ds : List D} (h : SqT K (cut A H) a xs) (r : RepA p K (cut A H) xs ds) : Iters p K A ds (Itt K a) H := fun A' H' s _ => by
  have e := s.cut
  have h' := SqT.uncut (DW.SqT.ext h e)
  refine ⟨fun i d hd => ?_, ⟨xs, h', Nat.le_of_eq r.length⟩⟩
  obtain ⟨v, hv, rv⟩ := r.get hd
  refine ⟨⟨xs, v, h', hv⟩, fun x H2 y => ?_⟩
  obtain ⟨rfl, y⟩ := y
  have := y xs h'
  rw [hv] at this
  cases this
  exact ⟨fun _ _ z => z, rv.ext e⟩
def di_seq (h : DE X c iter we) : DI X c tg iter (wSeqI we) := by
  obtain ⟨t, p, r⟩ := h
  refine ⟨_, pi_seq p, fun A ρ m σ H G Q R hw k => r A ρ m σ H G _ _ hw fun v d m1 H1 G1 k1 r1 q1 => ?_⟩
  cases d <;> first | (exact False.elim q1) | skip
  · cases r1 with
    | lst h1 r2 => exact ⟨_, rfl, .inl ⟨⟨_, SqL.of (cut_some h1).2⟩, k _ _ m1 H1 G1 k1 (iters_list h1 r2) q1⟩⟩
  · cases r1 with
    | tup h1 r2 => exact ⟨_, rfl, .inr ⟨⟨_, SqT.uncut h1⟩, k _ _ m1 H1 G1 k1 (iters_tup h1 r2) q1⟩⟩
/-- range(n), range(a, b) -/
def rngD (lo hi : Int) : List D := (List.range (hi - lo).toNat).map fun (k : Nat) => D.int (lo + (k : Int))
theorem iters_range {p : Option Addr} {K : PySem.W.Frag} {A : List Addr} {H : Hp} {lo : Int} {n : Nat} : Iters p K A ((List.range n).map fun (k : Nat) => D.int (lo + (k : Int))) (Itr lo n) H := fun A' H' s _ => by
  refine ⟨fun i d hd => ?_, by show n ≤ _; simp⟩
  rw [List.getElem?_map] at hd
  have hi : i < n := by
    cases q : (List.range n)[i]? with
    | none =>
      rw [q] at hd
      cases hd
    | some j => simpa using (List.getElem?_eq_some_iff.mp q).1
  rw [List.getElem?_range hi] at hd
  have e : D.int (lo + (i : Int)) = d := by simpa using hd
  subst e
  refine ⟨hi, fun x H2 y => ?_⟩
  obtain ⟨rfl, rfl⟩ := y
  exact ⟨fun _ _ z => z, .int _⟩
def wRng1 (wr : WA) : WA := fun ρ m Q => wr ρ m fun ds m1 => match ds with
  | [.int j] => (-(2 ^ 62) ≤ j ∧ j < 2 ^ 62) ∧ Q (rngD 0 j) m1
  | _ => False
def di_range1 {p : Pos} {wr : WA} (hg : Gl X "range") (hm : X.mg "range" = none) (h : DA X c [a] wr) (hs : starEach [a] X.env = [(false, eval a X.env)] := by rfl) : DI X c tg (.Call (.Name "range" p) [a] [] pos) (wRng1 wr) := by
  obtain ⟨t, p, r⟩ := h
  refine ⟨_, pi_range1 hg hm p hs, fun A ρ m σ H G Q R hw k => r A ρ m σ H G _ _ hw fun vs ds m1 H1 G1 k1 r1 q1 => ?_⟩
  split at q1
  · obtain ⟨v, rfl, rv⟩ := repA1 r1
    cases rv
    rename_i j
    have := k _ _ m1 H1 G1 k1 (iters_range (lo := 0) (n := (j - 0).toNat)) q1.2
    rw [Int.sub_zero] at this
    exact ⟨j, rfl, q1.1.1, q1.1.2, this⟩
  · cases q1
def wRng2 (wr : WA) : WA := fun ρ m Q => wr ρ m fun ds m1 => match ds with
  | [.int i, .int j] => (-(2 ^ 62) ≤ i ∧ i < 2 ^ 62 ∧ -(2 ^ 62) ≤ j ∧ j < 2 ^ 62) ∧ Q (rngD i j) m1
  | _ => False
def di_range2 {p : Pos} {wr : WA} (hg : Gl X "range") (hm : X.mg "range" = none) (h : DA X c [a, b] wr) (hs : starEach [a, b] X.env = [(false, eval a X.env), (false, eval b X.env)] := by rfl) (hs2 : starEach [b] X.env = [(false, eval b X.env)] := by rfl) : DI X c tg (.Call (.Name "range" p) [a, b] [] pos) (wRng2 wr) := by
  obtain ⟨t, p, r⟩ := h
  refine ⟨_, pi_range2 hg hm p hs hs2, fun A ρ m σ H G Q R hw k => r A ρ m σ H G _ _ hw fun vs ds m1 H1 G1 k1 r1 q1 => ?_⟩
  split at q1
  · obtain ⟨v, u, rfl, rv, ru⟩ := repA2 r1
    cases rv
    cases ru
    rename_i i j
    exact ⟨i, j, rfl, q1.1, k _ _ m1 H1 G1 k1 (iters_range (lo := i) (n := (j - i).toNat)) q1.2⟩
  · cases q1

/-! ### for -/
def wFor (ws : WA) (g : GD) (wb : WS) : WS := fun P ρ m => ws ρ m fun ds m1 => ∃ I : Nat → DW.Env → Nat → Prop, I 0 ρ m1 ∧
  (∀ i d ρ' m', ds[i]? = some d → I i ρ' m' → g d ρ' fun ρ2 => wb { nx := I (i + 1), ct := I (i + 1), bk := P.nx, rt := P.rt } ρ2 m') ∧ ∀ ρ' m', I ds.length ρ' m' → P.nx ρ' m'
def ds_for {ws : WA} {g : GD} {sl : List Nat} (hp : PassesOwn (model X.prog X.w) X.A X.env X.xe) (hc : X.calm = true) (hi : DI X c tg iter ws) (hg : DG X c tg g sl) (hb : DSs X c body w1) (hs : ∀ x, foldedSetIterable iter X.env x = pure x := by intro _; rfl) :
    DS X c (.For tg iter body [] pos) (wFor ws g w1) := by
  obtain ⟨wi, p1, r1⟩ := hi
  obtain ⟨t, p2, r2⟩ := hg
  obtain ⟨u, p3, r3⟩ := hb
  refine ⟨_, ps_for hp hc p1 p2 p3 hs, fun A ρ m σ H G P F hw n rt bk ct => r1 A ρ m σ H G _ _ hw fun J ds m1 H1 G1 k1 it q1 => ?_⟩
  obtain ⟨I, i0, turn, fin⟩ := q1
  have s1 := k1.step G.toBase
  refine ⟨fun i mm σ' H' => mm = ds.length - i ∧ i ≤ ds.length ∧ ∃ A' ρ' m', Good X.K c A' ρ' m' σ' H' ∧ Step A H1 A' H' ∧ I i ρ' m', ⟨_, rfl, Nat.zero_le _, A, ρ, m1, G1, Step.refl, i0⟩, ?_⟩
  rintro i mm σ2 H2 ⟨rfl, hi, A2, ρ2, m2, G2, s2, i2⟩
  obtain ⟨go, stop⟩ := it A2 H2 s2 G2.thr
  by_cases hlt : i < ds.length
  · obtain ⟨g1, y1⟩ := go i _ (List.getElem?_eq_getElem hlt)
    refine .inr ⟨g1, fun σ' H' => ∃ A' ρ' m', Good X.K c A' ρ' m' σ' H' ∧ Step A H1 A' H' ∧ I (i + 1) ρ' m', fun σ' H' ⟨A', ρ', m', G', s', i'⟩ => ⟨ds.length - (i + 1), by omega, rfl, hlt, A', ρ', m', G', s', i'⟩, fun x H3 y => ?_⟩
    obtain ⟨ex, rx⟩ := y1 x H3 y
    have k3 : Keep c H2 H3 := Keep.ofExt ex
    have G3 : Good X.K c A2 ρ2 m2 σ2 H3 := G2.ext ex
    refine r2 A2 ρ2 m2 σ2 H3 x _ G3 rx _ _ (turn i _ ρ2 m2 (List.getElem?_eq_getElem hlt) i2) fun ρ4 σ4 G4 _ _ q4 => ?_
    have s3 : Step A H1 A2 H3 := s2.trans (k3.step G2.toBase)
    refine r3 A2 ρ4 m2 σ4 H3 G4 _ _ q4 (fun A5 ρ5 m5 σ5 H5 G5 s5 q5 => ⟨A5, ρ5, m5, G5, s3.trans s5, q5⟩) rt (fun A5 ρ5 m5 σ5 H5 G5 s5 q5 => ?_) (fun A5 ρ5 m5 σ5 H5 G5 s5 q5 => ⟨A5, ρ5, m5, G5, s3.trans s5, q5⟩)
    exact n A5 ρ5 m5 σ5 H5 G5 (s1.trans (s3.trans s5)) q5
  · have e : i = ds.length := by omega
    subst e
    exact .inl ⟨stop, n A2 ρ2 m2 σ2 H2 G2 (s1.trans s2) (fin ρ2 m2 i2)⟩
def wWhile (wt : WT) (wb : WS) : WS := fun P ρ m => ∃ I : Nat → DW.Env → Nat → Prop, (∃ k, I k ρ m) ∧ ∀ k ρ' m', I k ρ' m' → wt ρ' m' fun b m2 => if b = true then wb { nx := fun ρ2 m3 => ∃ k2, k2 < k ∧ I k2 ρ2 m3, ct := fun ρ2 m3 => ∃ k2, k2 < k ∧ I k2 ρ2 m3, bk := P.nx, rt := P.rt } ρ' m2 else P.nx ρ' m2
def ds_while (hp : PassesOwn (model X.prog X.w) X.A X.env X.xe) (ht : DT X c e wt) (hb : DSs X c body w1) : DS X c (.While e body [] pos) (wWhile wt w1) := by
  obtain ⟨t, p1, r1⟩ := ht
  obtain ⟨u, p2, r2⟩ := hb
  refine ⟨_, ps_while hp p1 p2, fun A ρ m σ H G P F hw n rt bk ct => ?_⟩
  obtain ⟨I, ⟨k0, i0⟩, turn⟩ := hw
  refine ⟨fun k σ' H' => ∃ A' ρ' m', Good X.K c A' ρ' m' σ' H' ∧ Step A H A' H' ∧ I k ρ' m', ⟨k0, A, ρ, m, G, Step.refl, i0⟩, ?_⟩
  rintro k σ2 H2 ⟨A2, ρ2, m2, G2, s2, i2⟩
  refine r1 A2 ρ2 m2 σ2 H2 G2 _ _ (turn k ρ2 m2 i2) fun bb m3 H3 G3 k3 q3 => ?_
  have s3 : Step A H A2 H3 := s2.trans (k3.step G2.toBase)
  cases bb with
  | true =>
    refine ⟨fun σ' H' => ∃ k2, k2 < k ∧ ∃ A' ρ' m', Good X.K c A' ρ' m' σ' H' ∧ Step A H A' H' ∧ I k2 ρ' m', fun σ' H' ⟨k2, l, z⟩ => ⟨k2, l, z⟩, ?_⟩
    exact r2 A2 ρ2 m3 σ2 H3 G3 _ _ q3 (fun A5 ρ5 m5 σ5 H5 G5 s5 ⟨k2, l, q5⟩ => ⟨k2, l, A5, ρ5, m5, G5, s3.trans s5, q5⟩) rt (fun A5 ρ5 m5 σ5 H5 G5 s5 q5 => n A5 ρ5 m5 σ5 H5 G5 (s3.trans s5) q5) (fun A5 ρ5 m5 σ5 H5 G5 s5 ⟨k2, l, q5⟩ => ⟨k2, l, A5, ρ5, m5, G5, s3.trans s5, q5⟩)
  | false => exact n A2 ρ2 m3 σ2 H3 G3 s3 q3

/-! ### comprehensions -/
def wipeE (ρ : DW.Env) : List Nat → DW.Env
  | [] => ρ
  | v :: vs => (wipeE ρ vs).set v .un
theorem Good.wipe {K : PySem.W.Frag} {A : List Addr} {ρ : DW.Env} {m : Nat} {σ : L2.St} {H : Hp} (G : Good K c A ρ m σ H) : ∀ vs : List Nat, Good K c A (wipeE ρ vs) m (L2.wipe σ vs) H
  | [] => G
  | v :: vs => (Good.wipe G vs).wipe1 v
theorem wipe_at {σ : L2.St} (j : Nat) : ∀ vs : List Nat, (L2.wipe σ vs)[j]? = if j ∈ vs ∧ j < σ.length then some none else σ[j]?
  | [] => by simp [L2.wipe]
  | v :: vs => by
    unfold L2.wipe
    by_cases h : v = j
    · subst h
      by_cases hl : v < σ.length
      · rw [List.getElem?_set_self (by rw [L2.wipe_length]; exact hl), if_pos ⟨List.mem_cons_self .., hl⟩]
      · rw [List.getElem?_eq_none (by rw [List.length_set, L2.wipe_length]; omega), if_neg (fun z => hl z.2), List.getElem?_eq_none (by omega)]
    · rw [List.getElem?_set_ne h, wipe_at j vs]
      have : (j ∈ v :: vs ∧ j < σ.length) ↔ (j ∈ vs ∧ j < σ.length) := by
        simp [List.mem_cons, Ne.symm h]
      by_cases q : j ∈ vs ∧ j < σ.length
      · rw [if_pos q, if_pos (this.mpr q)]
      · rw [if_neg q, if_neg (fun z => q (this.mp z))]
theorem wipe_eq {σ σ' : L2.St} {vs : List Nat} (hl : σ'.length = σ.length) (h : ∀ j, j ∉ vs → σ'[j]? = (L2.wipe σ vs)[j]?) : L2.wipe σ' vs = L2.wipe σ vs := by
  refine List.ext_getElem? fun j => ?_
  rw [wipe_at, wipe_at]
  by_cases q : j ∈ vs
  · by_cases l : j < σ.length
    · rw [if_pos ⟨q, by omega⟩, if_pos ⟨q, l⟩]
    · rw [if_neg (fun z => l (by omega)), if_neg (fun z => l z.2), List.getElem?_eq_none (by omega), List.getElem?_eq_none (by omega)]
  · rw [if_neg (fun z => q z.1), if_neg (fun z => q z.1), h j q, wipe_at, if_neg (fun z => q z.1)]
def wLc (ws : WA) (g : GD) (wt : WT) (we : WE) (vs : List Nat) : WA := fun ρ m Q => ws ρ m fun ds m1 => ds.length < sizeLine ∧ ∃ I : Nat → List D → Nat → Prop, I 0 [] m1 ∧
  (∀ i d acc m', ds[i]? = some d → I i acc m' → g d (wipeE ρ vs) fun ρ2 => wt ρ2 m' fun b m2 => if b = true then we ρ2 m2 fun y m3 => I (i + 1) (acc ++ [y]) m3 else I (i + 1) acc m2) ∧ ∀ acc m', I ds.length acc m' → Q acc m'
structure DTs (X : Cx) (c : C0) (ifs : List Expr) (w : WT) where
  t : TT
  pe : PTs X ifs t
  rd : RdT X.K c t w
def wYes : WT := fun _ m Q => Q true m
def dts_nil : DTs X c [] wYes := ⟨_, pts_nil, fun A ρ m σ H G Q Qv hw k => k true m H G Keep.refl hw⟩
def dts_one (h : DT X c e wt) : DTs X c [e] wt := ⟨_, pts_one h.pe, h.rd⟩
theorem rd_lc {K : PySem.W.Frag} {wi : TI} {t : TG} {tt : TT} {te : TE} {ws : WA} {g : GD} {sl vs : List Nat} (r1 : RdI K c wi ws) (r2 : RdG K c t g sl) (hsl : ∀ j ∈ sl, j ∈ vs) (r3 : RdT K c tt wt) (r4 : RdE K c te we) : RdL K c (tLc wi t tt te vs) (wLc ws g wt we vs) := fun A ρ m σ H G Q Qv hw k => by
  refine r1 A ρ m σ H G _ _ hw fun J ds m1 H1 G1 k1 it ⟨hz, I, i0, turn, fin⟩ => ?_
  intro L hL
  have nL : L ∉ A := G1.notin hL
  have nL0 : L ∉ c.A0 := fun z => nL (G1.sub L z)
  refine ⟨fun i mm H' => mm = ds.length - i ∧ i ≤ ds.length ∧ ∃ m' acc xs, Good K c (L :: A) (wipeE ρ vs) m' (L2.wipe σ vs) H' ∧ Keep c H1 H' ∧ H' L = some (.lst xs) ∧ RepA c.p K (cut (L :: A) H') xs acc ∧ acc.length ≤ i ∧ I i acc m', ⟨ds.length, by simp, Nat.zero_le _, m1, [], [], (G1.wipe vs).take hL, Keep.new hL, upd_same, .nil, Nat.le_refl _, i0⟩, ?_⟩
  rintro i mm H2 ⟨rfl, hi, m2, acc, xs, G2, k2, e2, ra, hacc, i2⟩
  have stA : ∀ {H' : Hp}, Keep c H1 H' → Step A H1 (L :: A) H' := fun {H'} kk => ⟨kk.grow G1.toBase, fun a h => (List.mem_cons.mp h).elim (fun z => .inr (by rw [z]; exact hL)) .inl⟩
  obtain ⟨go, stop⟩ := it (L :: A) H2 (stA k2) G2.thr
  by_cases hlt : i < ds.length
  · obtain ⟨g1, y1⟩ := go i _ (List.getElem?_eq_getElem hlt)
    refine .inr ⟨g1, fun H' => ∃ m' acc xs, Good K c (L :: A) (wipeE ρ vs) m' (L2.wipe σ vs) H' ∧ Keep c H1 H' ∧ H' L = some (.lst xs) ∧ RepA c.p K (cut (L :: A) H') xs acc ∧ acc.length ≤ i + 1 ∧ I (i + 1) acc m', fun H' z => ⟨ds.length - (i + 1), by omega, rfl, hlt, z⟩, fun x H3 y => ?_⟩
    obtain ⟨ex, rx⟩ := y1 x H3 y
    have k3 : Keep c H2 H3 := Keep.ofExt ex
    have G3 : Good K c (L :: A) (wipeE ρ vs) m2 (L2.wipe σ vs) H3 := G2.ext ex
    refine r2 (L :: A) _ m2 _ H3 x _ G3 rx _ _ (turn i _ acc m2 (List.getElem?_eq_getElem hlt) i2) fun ρ4 σ4 G4 l4 f4 q4 => ?_
    refine ⟨wipe_eq (by rw [l4, L2.wipe_length]) fun j hj => f4 j fun z => hj (hsl j z), ?_⟩
    -- slots of the block are forgotten again
    have back : ∀ {m5 : Nat} {H5 : Hp}, Keep c H3 H5 → Good K c (L :: A) ρ4 m5 σ4 H5 → Good K c (L :: A) (wipeE ρ vs) m5 (L2.wipe σ vs) H5 := fun {m5 H5} kk gg => G3.step kk gg.am
    refine r3 (L :: A) ρ4 m2 σ4 H3 G4 _ _ q4 fun bb m5 H5 G5 k5 q5 => ?_
    have e5 : H5 L = some (.lst xs) := k5 L _ (fun z => nL0 (G1.vin z)) (k3 L _ (fun z => nL0 (G1.vin z)) e2)
    have k15 : Keep c H1 H5 := k2.trans (k3.trans k5)
    have ra5 : RepA c.p K (cut (L :: A) H5) xs acc := ra.ext ((k3.trans k5).grow G2.toBase).cut
    cases bb with
    | false => exact ⟨m5, acc, xs, back k5 G5, k15, e5, ra5, by omega, q5⟩
    | true =>
      refine r4 (L :: A) ρ4 m5 σ4 H5 G5 _ _ q5 fun v d m6 H6 G6 k6 r6 q6 => ?_
      have e6 : H6 L = some (.lst xs) := k6 L _ (fun z => nL0 (G1.vin z)) e5
      refine ⟨xs, e6, ?_, m6, acc ++ [d], xs ++ [v], ?_, ?_, upd_same, ?_, by rw [List.length_append, List.length_singleton]; omega, q6⟩
      · rw [ra.length]
        exact Nat.lt_of_le_of_lt hacc (Nat.lt_trans hlt hz)
      · have own : ∀ (j : Nat) (es : Own), (wipeE ρ vs)[j]? = some (Cell.own es) → (L2.wipe σ vs)[j]? ≠ some (some (V.ref L)) := own_ne (G1.wipe vs) nL
        exact (back (k5.trans k6) G6).mut (List.mem_cons_self ..) nL0 e6 (fun _ z => nomatch z) own
      · intro b o nb e
        rw [upd_ne (ne_of_none e hL)]
        exact k6 b o nb (k15 b o nb e)
      · have ec : Ext (cut (L :: A) H6) (cut (L :: A) (upd H6 L (.lst (xs ++ [v])))) := fun b u e => by
          obtain ⟨n, q⟩ := cut_some e
          have nb : b ≠ L := fun z => n (by rw [z]; exact List.mem_cons_self ..)
          exact cut_of n (by rw [upd_ne nb]; exact q)
        exact (((ra5.ext ((k6.grow G5.toBase).cut)).append (.one r6))).ext ec
  · have e : i = ds.length := by omega
    subst e
    refine .inl ⟨stop, k L xs acc m2 H2 ?_ nL (none_back G1 k1 hL) (k1.trans k2) e2 ra (fin acc m2 i2)⟩
    exact G1.steps k2 G2.am (fun a h => List.mem_cons_of_mem _ h) (stA k2).own G2.thr
def dl_lc {elt : Expr} {ifs : List Expr} {scope : Scope} {own : List (Str × Nat)} {ws : WA} {g : GD} {sl : List Nat} (hc : X.calm = true) (hN : X.N.Nodup) (hi : DI X c tg iter ws) (ok : BlkOk X.N X.env.scope scope own)
    (hg : ∀ (s : Shared) (H : Hp) (C : Addr) (cl : List (Str × Addr)) (fp : List Addr), DG (X.blk s H scope (compEnvC scope cl C X.env) fp) c tg g sl) (hsl : ∀ j ∈ sl, j ∈ own.map (·.2))
    (ht : ∀ (s : Shared) (H : Hp) (C : Addr) (cl : List (Str × Addr)) (fp : List Addr), DTs (X.blk s H scope (compEnvC scope cl C X.env) fp) c ifs wt)
    (he : ∀ (s : Shared) (H : Hp) (C : Addr) (cl : List (Str × Addr)) (fp : List Addr), DE (X.blk s H scope (compEnvC scope cl C X.env) fp) c elt we)
    (ug : ∀ (s : Shared) (H : Hp) (C : Addr) (cl : List (Str × Addr)) (fp : List Addr), (hg s H C cl fp).t = (hg X.s_0 X.H_0 0 [] []).t := by intros; rfl)
    (ut : ∀ (s : Shared) (H : Hp) (C : Addr) (cl : List (Str × Addr)) (fp : List Addr), (ht s H C cl fp).t = (ht X.s_0 X.H_0 0 [] []).t := by intros; rfl)
    (ue : ∀ (s : Shared) (H : Hp) (C : Addr) (cl : List (Str × Addr)) (fp : List Addr), (he s H C cl fp).t = (he X.s_0 X.H_0 0 [] []).t := by intros; rfl)
    (hs : ∀ x, foldedSetIterable iter X.env x = pure x := by intro _; rfl) :
    DL X c (.ListComp elt [⟨tg, iter, ifs, 0⟩] scope pos) (wLc ws g wt we (own.map (·.2))) :=
  ⟨_, pe_lc hc hN hi.pe ok (fun s H C cl fp => by rw [← ug s H C cl fp]; exact (hg s H C cl fp).pe) (fun s H C cl fp => by rw [← ut s H C cl fp]; exact (ht s H C cl fp).pe) (fun s H C cl fp => by rw [← ue s H C cl fp]; exact (he s H C cl fp).pe) hs,
    rd_lc hi.rd (hg X.s_0 X.H_0 0 [] []).rd hsl (ht X.s_0 X.H_0 0 [] []).rd (he X.s_0 X.H_0 0 [] []).rd⟩

/-! ### a def's promise -/
def initE (n : Nat) (ds : List D) : DW.Env := ds.map Cell.dat ++ List.replicate (n - ds.length) Cell.un
theorem start_good {K : PySem.W.Frag} {T : List (Addr × Str)} {p : Option Addr} {cc : Addr} {A : List Addr} {m : Nat} {H : Hp} {N : List Str} {vs : List V} {ds : List D} (r : RepA p K (cut A H) vs ds) (cx : Ctx T p cc A m H) :
    Good K ⟨⟨T, p, cc, A, H⟩, H, none⟩ A (initE N.length ds) m (L2.start N vs) H := by
  have hl := r.length
  refine ⟨⟨fun _ _ _ e => e, fun _ _ _ e => e, cx.am, cx.pin, cx.tin, fun _ h => h, fun _ h => .inl h, cx.thr⟩, ?_, fun i k e => ?_⟩
  · unfold initE L2.start
    simp [hl]
  · unfold initE at e
    unfold L2.start
    by_cases hi : i < ds.length
    · rw [List.getElem?_append_left (by simpa using hi), List.getElem?_map] at e
      rw [List.getElem?_eq_getElem hi] at e
      have e' : Cell.dat ds[i] = k := by simpa using e
      subst e'
      obtain ⟨v, h1, h2⟩ := r.get (List.getElem?_eq_getElem hi)
      refine ⟨v, ?_, h2⟩
      rw [List.getElem?_append_left (by rw [List.length_map, hl]; exact hi), List.getElem?_map, h1]
      rfl
    · rw [List.getElem?_append_right (by simpa using hi)] at e
      have : k = Cell.un := by
        rw [List.getElem?_replicate] at e
        split at e
        · exact (Option.some.inj e).symm
        · cases e
      subst this
      trivial
/-- the context that a def's body begins with -/
abbrev c00 (T : List (Addr × Str)) (p : Option Addr) (cc : Addr) (A : List Addr) (H : Hp) : C0 := ⟨⟨T, p, cc, A, H⟩, H, none⟩
/-- THE RULE for a def: its body by data -/
theorem fn_data {g : Bool} {P : Program} {w : World} {K : PySem.W.Frag} {T : List (Addr × Str)} {mg : Str → Option Value} {base : Heap} {x qual : Str} {st : Stmt} {f : Addr} {fd : FuncData} {N ps : List Str} {k : Nat} {fw : FW} {wb : WS} (F : Fun K x qual st f fd) (S : FnScope N ps (defScope st)) (ar : ∀ ds m Q, fw ds m Q → ds.length = ps.length)
    (hbody : ∀ (cdv : Value) (A : Around) (outer : List PySem.Env) (s : Shared) (H : Hp) (E : XK) (p : Option Addr) (cc : Addr) (B : List Addr), Room k (A.deeper (PyProof.Rows.envOfC qual (defScope st) s.heap.objs.size f cdv)) → (g = true → A.guards = some []) → fd.code = cdv → DSs (cxOf CX0 P w K mg base N qual (defScope st) f cdv A outer s H E).nox (c00 T p cc B H) (defBody st) wb)
    (hw : ∀ ds m Q, fw ds m Q → wb { nx := fun _ m => Q .non m, rt := Q } (initE N.length ds) m) : FnG g P w K mg base CX0 (k + 1) f fd ps (spD K T fw) := by
  refine fnG_of F S (fun vs H Q E h => ?_) (fun cdv A outer s H vs Q E hr hg hcd h => ?_)
  · obtain ⟨p, cc, B, ds, m, R, r, _, q, _⟩ := h
    rw [r.length]
    exact ar ds m R q
  · obtain ⟨p, cc, B, ds, m, R, r, cx, q, k⟩ := h
    have d := hbody cdv A outer s H E p cc B hr hg hcd
    refine ⟨d.t, d.pe.nox, ?_⟩
    refine d.rd B _ m _ H (start_good r cx) _ _ (hw ds m R q) (fun A' ρ' m' σ' H' G s p => ?_) (fun v d' A' m' H' G rep p => ?_) (fun _ _ _ _ _ _ _ z => z.elim) (fun _ _ _ _ _ _ _ z => z.elim)
    · exact k .non .non m' H' G.ex G.am .non p
    · exact k v d' m' H' G.ex G.am (rep.ext (cut_sub G.sub)) p
/-- .. with its name and its arguments' binding -/
theorem dfn_mk {g : Bool} {P : Program} {w : World} {K : PySem.W.Frag} {T : List (Addr × Str)} {mg : Str → Option Value} {base : Heap} {x : Str} {f : Addr} {fd : FuncData} {ps : List Str} {k : Nat} {fw : FW} (F : FnG g P w K mg base CX0 k f fd ps (spD K T fw)) (hm : mg x = some (.ref f)) (hk : PySem.W.keepIn K (.ref f) = true) (hb : Binds K fd ps []) : DFn g P w K T mg base k x fw := ⟨f, fd, ps, F, hm, hk, hb⟩
end
end DW

/-! DW7: slices, enumerate, a name that takes a comprehension, isinstance, repr, is, in, products. -/
namespace DW
open PySem PySem.Spec L2

section
variable {X : Cx} {c : C0} {e a b tg iter : Expr} {es : List Expr} {we wa wb : WE} {pos p2 : Pos}

/-! ### slices -/
abbrev WO := DW.Env → Nat → (Option Int → Nat → Prop) → Prop
def RdO (K : PySem.W.Frag) (c : C0) (t : TO) (w : WO) : Prop := ∀ A ρ m σ H, Good K c A ρ m σ H → ∀ (Q : Option Int → Nat → Prop) (Qv : Option Int → Hp → Prop), w ρ m Q →
  (∀ o m' H', Good K c A ρ m' σ H' → Keep c H H' → Q o m' → Qv o H') → t σ H Qv
structure DO (X : Cx) (c : C0) (e : Option Expr) (w : WO) where
  t : TO
  pe : PO X e t
  rd : RdO X.K c t w
def do_none : DO X c none (fun _ m Q => Q none m) := ⟨_, po_none, fun A ρ m σ H G Q Qv hw k => k none m H G Keep.refl hw⟩
def wPart (we : WE) : WO := fun ρ m Q => we ρ m fun d m1 => match d with
  | .int i => Q (some i) m1
  | _ => False
def do_some (h : DE X c e we) : DO X c (some e) (wPart we) := ⟨_, po_some h.pe, fun A ρ m σ H G Q Qv hw k => h.rd A ρ m σ H G _ _ hw fun v d m1 H1 G1 k1 r1 q1 => by
  cases d <;> first | (exact False.elim q1) | skip
  cases r1
  exact ⟨_, rfl, k _ m1 H1 G1 k1 q1⟩⟩
/-- xs[lo:hi] -/
def cutG {α : Type} (xs : List α) (lo hi : Option Int) : List α := (xs.drop (HT.sIx xs.length 0 lo)).take (HT.sIx xs.length xs.length hi - HT.sIx xs.length 0 lo)
theorem RepA.cut {p : Option Addr} {K : PySem.W.Frag} {H : Hp} {vs : List V} {ds : List D} (r : RepA p K H vs ds) (lo hi : Option Int) : RepA p K H (cutV vs lo hi) (cutG ds lo hi) := by
  unfold cutV cutG
  rw [r.length]
  exact (r.drop _).take _
theorem cutG_whole {α : Type} {xs : List α} {lo hi : Option Int} (h : HT.sIx xs.length 0 lo = 0 ∧ HT.sIx xs.length xs.length hi = xs.length) : cutG xs lo hi = xs := by
  unfold cutG
  rw [h.1, h.2, List.drop_zero, Nat.sub_zero, List.take_length]
def sliceD : D → Option Int → Option Int → (D → Prop) → Prop
  | .lst ds, lo, hi, Q => Q (.lst (cutG ds lo hi))
  | .tup ds, lo, hi, Q => Q (.tup (cutG ds lo hi))
  | .str x, lo, hi, Q => x.length ≤ sizeLine ∧ Q (.str (cutS x lo hi))
  | _, _, _, _ => False
def wSlice (we : WE) (wl wh : WO) : WE := fun ρ m Q => we ρ m fun d m1 => wl ρ m1 fun lo m2 => wh ρ m2 fun hi m3 => sliceD d lo hi fun z => Q z m3
def de_slice {lo hi : Option Expr} {wl wh : WO} (h : DE X c e we) (hl : DO X c lo wl) (hh : DO X c hi wh) : DE X c (.Subscript e (.Slice lo hi none p2) pos) (wSlice we wl wh) :=
  ⟨_, pe_slice (SlR.or sl_list (SlR.or sl_tupA sl_str)) h.pe hl.pe hh.pe, fun A ρ m σ H G Q Qv hw k => h.rd A ρ m σ H G _ _ hw fun v d m1 H1 G1 k1 r1 q1 => hl.rd A ρ m1 σ H1 G1 _ _ q1 fun l1 m2 H2 G2 k2 q2 => hh.rd A ρ m2 σ H2 G2 _ _ q2 fun l2 m3 H3 G3 k3 q3 => by
    have r3 := r1.ext ((k2.trans k3).grow G1.toBase).cut
    have k13 := k1.trans (k2.trans k3)
    unfold sliceD at q3
    split at q3
    · cases r3 with
      | lst h1 r2 => exact .inl ⟨_, _, rfl, SqL.of (cut_some h1).2, fun p hp => k _ _ m3 _ (G3.fresh hp) (k13.trans (Keep.new hp)) (.lst (G3.freshN hp) ((RepA.cut r2 _ _).ext (fresh_ext hp))) q3⟩
    · cases r3 with
      | tup h1 r2 =>
        refine .inr (.inl ⟨_, _, rfl, SqT.uncut h1, fun hwh => ?_, fun _ p hp => ?_⟩)
        · rw [r2.length] at hwh
          rw [cutG_whole hwh] at q3
          exact k _ _ m3 H3 G3 k13 (.tup h1 r2) q3
        · exact k _ _ m3 _ (G3.fresh hp) (k13.trans (Keep.new hp)) (.tup (SqT.of (G3.freshN hp)) ((RepA.cut r2 _ _).ext (fresh_ext hp))) q3
    · cases r3
      exact .inr (.inr ⟨_, rfl, q3.1, k _ _ m3 H3 G3 k13 (.str _) q3.2⟩)
    · cases q3⟩

/-! ### enumerate -/
def enumD (ds : List D) : List D := ds.mapIdx fun i d => D.tup [.int (i : Int), d]
theorem iters_enum {p : Option Addr} {K : PySem.W.Frag} {A : List Addr} {H : Hp} {a : Addr} {xs : List V} {ds : List D} (h : cut A H a = some (.lst xs)) (r : RepA p K (cut A H) xs ds) : Iters p K A (enumD ds) (Ite K a) H := fun A' H' s thr => by
  have e := s.cut
  have h' := (cut_some (e _ _ h)).2
  refine ⟨fun i d hd => ?_, ⟨xs, SqL.of h', by unfold enumD; rw [List.length_mapIdx]; exact Nat.le_of_eq r.length⟩⟩
  unfold enumD at hd
  rw [List.getElem?_mapIdx] at hd
  cases q : ds[i]? with
  | none =>
    rw [q] at hd
    cases hd
  | some d0 =>
    rw [q] at hd
    have e0 : D.tup [.int (i : Int), d0] = d := by simpa using hd
    subst e0
    obtain ⟨v, hv, rv⟩ := r.get q
    refine ⟨⟨xs, v, SqL.of h', hv⟩, fun x H2 y => ?_⟩
    obtain ⟨T, x0, rfl, nT, rfl, y⟩ := y
    have := y xs (SqL.of h')
    rw [hv] at this
    cases this
    have ex : Ext H' (upd H' T (.tup [.int (i : Nat), v])) := fun b u hb => by
      rw [upd_ne (ne_of_none hb nT)]
      exact hb
    have nA : T ∉ A' := fun z => by
      obtain ⟨o, ho⟩ := thr T z
      rw [nT] at ho
      cases ho
    have ec : Ext (cut A' H') (cut A' (upd H' T (.tup [.int (i : Nat), v]))) := fun b u hb => by
      obtain ⟨n, z⟩ := cut_some hb
      exact cut_of n (ex b u z)
    exact ⟨ex, .tup (SqT.of (cut_of nA upd_same)) (.cons (.int _) (.one (rv.ext (fun b u z => ec b u (e b u z)))))⟩
def wEnum (wr : WA) : WA := fun ρ m Q => wr ρ m fun ds m1 => match ds with
  | [.lst es] => Q (enumD es) m1
  | _ => False
def di_enum {p tpos : Pos} {elts : List Expr} {kk : Nat} {wr : WA} (hg : Gl X "enumerate") (hm : X.mg "enumerate" = none) (h : DA X c [a] wr) (hs : starEach [a] X.env = [(false, eval a X.env)] := by rfl) : DI X c (.Tuple elts kk tpos) (.Call (.Name "enumerate" p) [a] [] pos) (wEnum wr) :=
  ⟨_, pi_enum hg hm h.pe hs, fun A ρ m σ H G Q R hw k => h.rd A ρ m σ H G _ _ hw fun vs ds m1 H1 G1 k1 r1 q1 => by
    split at q1
    · obtain ⟨v, rfl, rv⟩ := repA1 r1
      cases rv with
      | lst h1 r2 => exact ⟨_, _, rfl, SqL.of (cut_some h1).2, k _ _ m1 H1 G1 k1 (iters_enum h1 r2) q1⟩
    · cases q1⟩

/-! ### y = [..]: a name takes a comprehension -/
def ds_setLc {i : Nat} {y : Str} {py spos : Pos} {elt : Expr} {ifs : List Expr} {scope : Scope} {own : List (Str × Nat)} {ws : WA} {g : GD} {sl : List Nat} {wt : WT} (hN : X.N.Nodup) (hy : X.N[i]? = some y) (hyl : X.env.scope.names.lookup y = some .local)
    (hsw : swapsWith (.ListComp elt [⟨tg, iter, ifs, 0⟩] scope pos) (some (.Name y py)) spos.line X.env = pure true) (hc : X.calm = true) (hi : DI X c tg iter ws) (ok : BlkOk X.N X.env.scope scope own)
    (hg : ∀ (s : Shared) (H : Hp) (C : Addr) (cl : List (Str × Addr)) (fp : List Addr), DG (X.blk s H scope (compEnvC scope cl C X.env) fp) c tg g sl) (hsl : ∀ j ∈ sl, j ∈ own.map (·.2))
    (ht : ∀ (s : Shared) (H : Hp) (C : Addr) (cl : List (Str × Addr)) (fp : List Addr), DTs (X.blk s H scope (compEnvC scope cl C X.env) fp) c ifs wt)
    (he : ∀ (s : Shared) (H : Hp) (C : Addr) (cl : List (Str × Addr)) (fp : List Addr), DE (X.blk s H scope (compEnvC scope cl C X.env) fp) c elt we)
    (ug : ∀ (s : Shared) (H : Hp) (C : Addr) (cl : List (Str × Addr)) (fp : List Addr), (hg s H C cl fp).t = (hg X.s_0 X.H_0 0 [] []).t := by intros; rfl)
    (ut : ∀ (s : Shared) (H : Hp) (C : Addr) (cl : List (Str × Addr)) (fp : List Addr), (ht s H C cl fp).t = (ht X.s_0 X.H_0 0 [] []).t := by intros; rfl)
    (ue : ∀ (s : Shared) (H : Hp) (C : Addr) (cl : List (Str × Addr)) (fp : List Addr), (he s H C cl fp).t = (he X.s_0 X.H_0 0 [] []).t := by intros; rfl)
    (hs : ∀ x, foldedSetIterable iter X.env x = pure x := by intro _; rfl) :
    DS X c (.Assign [.Name y py] (.ListComp elt [⟨tg, iter, ifs, 0⟩] scope pos) spos) (wSetO i (wLc ws g wt we (own.map (·.2)))) :=
  ⟨_, ps_setLc (i := i) hc hN hy hyl hsw hi.pe ok (fun s H C cl fp => by rw [← ug s H C cl fp]; exact (hg s H C cl fp).pe) (fun s H C cl fp => by rw [← ut s H C cl fp]; exact (ht s H C cl fp).pe) (fun s H C cl fp => by rw [← ue s H C cl fp]; exact (he s H C cl fp).pe) hs,
    fun A ρ m σ H G P F h n rt b ct => (rd_lc hi.rd (hg X.s_0 X.H_0 0 [] []).rd hsl (ht X.s_0 X.H_0 0 [] []).rd (he X.s_0 X.H_0 0 [] []).rd) A ρ m σ H G _ _ h fun a xs ds m1 H1 G1 na ha k1 ea r1 q1 => by
      refine n (a :: A) _ m1 _ H1 (G1.setOwn (fun z => na (G.sub a z)) (own_ne G na) ea (.lst r1) i) ⟨k1.grow G.toBase, fun b hb => ?_⟩ q1
      rcases List.mem_cons.mp hb with z | z
      · exact .inr (by rw [z]; exact ha)
      · exact .inl z⟩
/-- .. never changed: data at once -/
theorem RdL.de {K : PySem.W.Frag} {t : TE} {w : WA} (r : RdL K c t w) : RdE K c t (fun ρ m Q => w ρ m fun ds m1 => Q (.lst ds) m1) := fun A ρ m σ H G Q Qv hw k => r A ρ m σ H G _ Qv hw fun a xs ds m' H' G' na ha kp ea rep q =>
  k (.ref a) (.lst ds) m' H' (G'.drop G.sub (own_ne G na)) kp (.lst (cut_of na ea) (rep.ext (cut_sub fun b h => List.mem_cons_of_mem _ h))) q
def ds_setLcD {i : Nat} {y : Str} {py spos : Pos} {elt : Expr} {ifs : List Expr} {scope : Scope} {own : List (Str × Nat)} {ws : WA} {g : GD} {sl : List Nat} {wt : WT} (hN : X.N.Nodup) (hy : X.N[i]? = some y) (hyl : X.env.scope.names.lookup y = some .local)
    (hsw : swapsWith (.ListComp elt [⟨tg, iter, ifs, 0⟩] scope pos) (some (.Name y py)) spos.line X.env = pure true) (hc : X.calm = true) (hi : DI X c tg iter ws) (ok : BlkOk X.N X.env.scope scope own)
    (hg : ∀ (s : Shared) (H : Hp) (C : Addr) (cl : List (Str × Addr)) (fp : List Addr), DG (X.blk s H scope (compEnvC scope cl C X.env) fp) c tg g sl) (hsl : ∀ j ∈ sl, j ∈ own.map (·.2))
    (ht : ∀ (s : Shared) (H : Hp) (C : Addr) (cl : List (Str × Addr)) (fp : List Addr), DTs (X.blk s H scope (compEnvC scope cl C X.env) fp) c ifs wt)
    (he : ∀ (s : Shared) (H : Hp) (C : Addr) (cl : List (Str × Addr)) (fp : List Addr), DE (X.blk s H scope (compEnvC scope cl C X.env) fp) c elt we)
    (ug : ∀ (s : Shared) (H : Hp) (C : Addr) (cl : List (Str × Addr)) (fp : List Addr), (hg s H C cl fp).t = (hg X.s_0 X.H_0 0 [] []).t := by intros; rfl)
    (ut : ∀ (s : Shared) (H : Hp) (C : Addr) (cl : List (Str × Addr)) (fp : List Addr), (ht s H C cl fp).t = (ht X.s_0 X.H_0 0 [] []).t := by intros; rfl)
    (ue : ∀ (s : Shared) (H : Hp) (C : Addr) (cl : List (Str × Addr)) (fp : List Addr), (he s H C cl fp).t = (he X.s_0 X.H_0 0 [] []).t := by intros; rfl)
    (hs : ∀ x, foldedSetIterable iter X.env x = pure x := by intro _; rfl) :
    DS X c (.Assign [.Name y py] (.ListComp elt [⟨tg, iter, ifs, 0⟩] scope pos) spos) (wSet i fun ρ m Q => wLc ws g wt we (own.map (·.2)) ρ m fun ds m1 => Q (.lst ds) m1) :=
  ⟨_, ps_setLc (i := i) hc hN hy hyl hsw hi.pe ok (fun s H C cl fp => by rw [← ug s H C cl fp]; exact (hg s H C cl fp).pe) (fun s H C cl fp => by rw [← ut s H C cl fp]; exact (ht s H C cl fp).pe) (fun s H C cl fp => by rw [← ue s H C cl fp]; exact (he s H C cl fp).pe) hs,
    fun A ρ m σ H G P F h n rt b ct => (rd_lc hi.rd (hg X.s_0 X.H_0 0 [] []).rd hsl (ht X.s_0 X.H_0 0 [] []).rd (he X.s_0 X.H_0 0 [] []).rd).de A ρ m σ H G (fun d m1 => P.nx (ρ.set i (.dat d)) m1) _ h fun v d m1 H1 G1 k1 r1 q1 =>
      n A _ m1 _ H1 (G1.set r1 i) (k1.step G.toBase) q1⟩

/-! ### isinstance -/
/-- a value's type, by data; of an instance its class -/
def D.tyv : D → Option Value
  | .non => some (.type "NoneType")
  | .bl _ => some (.type "bool")
  | .int _ => some (.type "int")
  | .str _ => some (.type "str")
  | .lst _ => some (.type "list")
  | .tup _ => some (.type "tuple")
  | _ => none
theorem Rep.tyx {p : Option Addr} {K : PySem.W.Frag} {A : List Addr} {H : Hp} {v : V} {d : D} {t : Value} (r : Rep p K (DW.cut A H) v d) (h : d.tyv = some t) : TyX K H v t := by
  cases r with
  | non => cases h; exact .base .non
  | bl b => cases h; exact .base (.bl b)
  | int i => cases h; exact .base (.int i)
  | str x => cases h; exact .base (.str x)
  | lst h1 _ => cases h; exact .base (.lst (cut_some h1).2)
  | tup h1 _ =>
    cases h
    rcases SqT.uncut h1 with (z | ⟨o, z⟩) | ⟨o, its, n, z1, z2, _⟩
    · exact .base (.tup z)
    · exact .fTuple z
    · exact .kTuple z1 z2
  | obj _ _ => cases h
  | exc _ _ _ => cases h
  | exc0 _ => cases h
  | dct _ _ => cases h
  | pen _ => cases h
  | opq _ => cases h
  | gf => cases h
/-- isinstance(x, T), T a built-in class, x plain data -/
def wIsiTy (T : String) (wa : WE) : WE := fun ρ m Q => wa ρ m fun d m1 => ∃ t k, d.tyv = some (.type t) ∧ kitB t T = some k ∧ Q (.bl k) m1
def de_isiTy {T : String} {p p' : Pos} {x : Str} (hg : Gl X "isinstance") (hm : X.mg "isinstance" = none) (hgT : Gl X x) (hmT : X.mg x = none) (hvT : bootBuiltins x = some (.type T)) (ha : DE X c a wa) (hn : x ≠ "__name__" := by decide) (hdb : (x == ("__debug__" : Str)) = false := by decide)
    (he : starEach [a, .Name x p'] X.env = (false, eval a X.env) :: starEach [.Name x p'] X.env := by rfl) (he2 : starEach [.Name x p'] X.env = (false, eval (.Name x p') X.env) :: starEach [] X.env := by rfl) (hpl : (backTo pos (starEach [.Name x p'] X.env)).any (·.1) = false := by rfl) :
    DE X c (.Call (.Name "isinstance" p) [a, .Name x p'] [] pos) (wIsiTy T wa) :=
  ⟨_, pe_callB call_isi hg hm (by decide +kernel) (pa_cons ha.pe (pa_cons (pe_bltn (v := .ty T) hgT hmT hvT rfl hn hdb) pa_nil he2) he) (he := he) (hpl := hpl), fun A ρ m σ H G Q Qv hw k => ha.rd A ρ m σ H G _ _ hw fun v d m1 H1 G1 k1 r1 ⟨t, kk, e1, e2, q⟩ => by
    exact ⟨v, .ty T, .type t, .type T, kk, rfl, .ty T, r1.tyx e1, kit_ty e2, k _ _ m1 H1 G1 k1 (.bl _) q⟩⟩

/-! ### repr of plain data -/
def reprD : List D → (D → Prop) → Prop
  | [d], Q => ∃ q, d.py = some q ∧ q.showable = true ∧ q.hasDict = false ∧ q.shown.length ≤ sizeLine ∧ q.depth ≤ 60 ∧ Q (.str q.shown)
  | _, _ => False
def rReprD (K : PySem.W.Frag) : List V → Hp → VK → Prop := fun xs H Q => ∃ x q, xs = [x] ∧ Dp K H x q ∧ q.showable = true ∧ q.hasDict = false ∧ q.shown.length ≤ sizeLine ∧ q.depth ≤ 60 ∧ Q (.str q.shown) H
theorem call_reprD (hgs : X.A.guards = some []) (hu : X.A.units + 64 < cLine) : CallR X (.builtin "repr") (rReprD X.K) := by
  intro pins s σ H xs us Q I r h
  obtain ⟨x, q, rfl, hd, h1, h2, h3, h4, hq⟩ := h
  obtain ⟨u, rfl, ru⟩ := vals1 r
  cases hd with
  | non =>
    cases ru
    exact PySem.P.repr_of_none ⟨.str _, H, I.tok _, ⟨_, rfl⟩, hq⟩
  | bl b =>
    cases ru
    refine PySem.P.repr_of_bool ⟨.str _, H, I.tok _, ⟨_, rfl⟩, ?_⟩
    exact hq
  | int i =>
    obtain ⟨t, rfl⟩ := ru
    exact PySem.P.repr_of_int (by simpa [PyData.showable] using h1) ⟨.str _, H, I.tok _, ⟨_, rfl⟩, hq⟩
  | str y =>
    obtain ⟨t, rfl⟩ := ru
    exact PySem.P.repr_of_str ⟨.str _, H, I.tok _, ⟨_, rfl⟩, hq⟩ h3
  | lst hs ha =>
    obtain ⟨as, rd⟩ := Dp.reads I _ _ _ (.lst hs ha) ru
    cases ru
    exact repr_of_reads' rd h1 (PyData.noDict_hsm h2) hgs (by omega) (fun _ _ e => e) (fun h' u tk kp => ⟨.str _, H, I.kept kp, ⟨_, rfl⟩, hq⟩) h3
  | tup hs ha =>
    obtain ⟨as, rd⟩ := Dp.reads I _ _ _ (.tup hs ha) ru
    cases ru
    exact repr_of_reads' rd h1 (PyData.noDict_hsm h2) hgs (by omega) (fun _ _ e => e) (fun h' u tk kp => ⟨.str _, H, I.kept kp, ⟨_, rfl⟩, hq⟩) h3
theorem rd_repr {K : PySem.W.Frag} : RdC K c (rReprD K) reprD := fun A ρ m σ H G vs ds r Q Qv h k => by
  unfold reprD at h
  split at h
  · obtain ⟨q, h0, h1, h2, h3, h4, hq⟩ := h
    obtain ⟨v, rfl, rv⟩ := repA1 r
    exact ⟨v, q, rfl, rv.dp h0, h1, h2, h3, h4, k _ _ H G Keep.refl (.str _) hq⟩
  · cases h
end
end DW

/-! DW8: the pen's dict. -/
namespace DW
open PySem PySem.Spec L2
/-! ### the pen -/
def pk (x : Str) : Key := Sum.inr x
theorem pen_get (cc : Addr) (i dg ct fd : Int) : valV (penKvs cc i dg ct fd) (pk "cells") = some (.ref cc) ∧ valV (penKvs cc i dg ct fd) (pk "at") = some (.int i) ∧ valV (penKvs cc i dg ct fd) (pk "digits") = some (.int dg) ∧ valV (penKvs cc i dg ct fd) (pk "count") = some (.int ct) ∧ valV (penKvs cc i dg ct fd) (pk "fold") = some (.int fd) := by
  have h1 : ¬ (("cells" : Str) = "at") := by decide +kernel
  have h2 : ¬ (("cells" : Str) = "digits") := by decide +kernel
  have h3 : ¬ (("cells" : Str) = "count") := by decide +kernel
  have h4 : ¬ (("cells" : Str) = "fold") := by decide +kernel
  have h5 : ¬ (("at" : Str) = "digits") := by decide +kernel
  have h6 : ¬ (("at" : Str) = "count") := by decide +kernel
  have h7 : ¬ (("at" : Str) = "fold") := by decide +kernel
  have h8 : ¬ (("digits" : Str) = "count") := by decide +kernel
  have h9 : ¬ (("digits" : Str) = "fold") := by decide +kernel
  have h0 : ¬ (("count" : Str) = "fold") := by decide +kernel
  simp [valV, penKvs, pk, List.find?, h1, h2, h3, h4, h5, h6, h7, h8, h9, h0]
theorem pen_put (cc : Addr) (i dg ct fd z : Int) : putK (penKvs cc i dg ct fd) (pk "count") (.int z) = penKvs cc i dg z fd ∧ putK (penKvs cc i dg ct fd) (pk "at") (.int z) = penKvs cc z dg ct fd ∧ putK (penKvs cc i dg ct fd) (pk "digits") (.int z) = penKvs cc i z ct fd ∧ putK (penKvs cc i dg ct fd) (pk "fold") (.int z) = penKvs cc i dg ct z := by
  have h1 : ¬ (("cells" : Str) = "at") := by decide +kernel
  have h2 : ¬ (("cells" : Str) = "digits") := by decide +kernel
  have h3 : ¬ (("cells" : Str) = "count") := by decide +kernel
  have h4 : ¬ (("cells" : Str) = "fold") := by decide +kernel
  have h5 : ¬ (("at" : Str) = "digits") := by decide +kernel
  have h6 : ¬ (("at" : Str) = "count") := by decide +kernel
  have h7 : ¬ (("at" : Str) = "fold") := by decide +kernel
  have h8 : ¬ (("digits" : Str) = "count") := by decide +kernel
  have h9 : ¬ (("digits" : Str) = "fold") := by decide +kernel
  have h0 : ¬ (("count" : Str) = "fold") := by decide +kernel
  have g5 : ¬ (("digits" : Str) = "at") := by decide +kernel
  have g6 : ¬ (("count" : Str) = "at") := by decide +kernel
  have g7 : ¬ (("fold" : Str) = "at") := by decide +kernel
  have g8 : ¬ (("count" : Str) = "digits") := by decide +kernel
  have g9 : ¬ (("fold" : Str) = "digits") := by decide +kernel
  have g0 : ¬ (("fold" : Str) = "count") := by decide +kernel
  simp [putK, penKvs, pk, h1, h2, h3, h4, h5, h6, h7, h8, h9, h0, g5, g6, g7, g8, g9, g0]

theorem pen_len {cc : Addr} {i dg ct fd : Int} : (penKvs cc i dg ct fd).length < sizeLine := by show 5 < sizeLine; decide
/-- a draw's promise -/
def fwDraw : FW := fun ds m Q => ∃ n, ds = [.pen, .int n] ∧ 0 < n ∧ n < 1073741824 ∧ m < 1000000000000 ∧ ∀ i, 0 ≤ i → i < n → Q (.int i) (m + 1)
theorem dget {H : Hp} {q : Addr} {kvs : List (Key × V)} {x : Str} {v : V} (h : H q = some (.dK kvs)) (e : valV kvs (pk x) = some v) : DGet H q (.str x) (some v) := by
  rw [← e]
  exact DGet.k (k := pk x) h
theorem dput {H : Hp} {q : Addr} {kvs kvs' : List (Key × V)} {x : Str} {v : V} (h : H q = some (.dK kvs)) (hl : kvs.length < sizeLine) (e : putK kvs (pk x) v = kvs') : DPut H q (.str x) v (upd H q (.dK kvs')) := by
  rw [← e]
  exact DPut.k (k := pk x) h hl
/-- the pen's fresh making -/
def spPen (K : PySem.W.Frag) : Sp := fun vs H Q _ => ∃ (a : Addr) (ns : List Int), vs = [.ref a] ∧ SqL K H a (ns.map V.int) ∧ ns.length ≤ 63 ∧ ∀ q cc H', Same H H' → H q = none → H cc = none → q ≠ cc → PenAt H' q cc 0 → Q (.ref q) H'
theorem emod_lt' {a b : Int} (h : 0 < b) : 0 ≤ a % b ∧ a % b < b := ⟨Int.emod_nonneg _ (by omega), Int.emod_lt_of_pos _ h⟩
/-- what stands behind a draw, for the caller -/
theorem pen_keep {H H' : Hp} {q : Addr} (h : ∀ b, b ≠ q → H' b = H b) {p : Option Addr} (hp : p = some q) : ∀ b o, p ≠ some b → H b = some o → H' b = some o := fun b o n e => by
  rw [h b (fun z => n (by rw [hp, z]))]
  exact e
end DW

/-! DW9: own exceptions as values: made, their fields, isinstance. -/
namespace DW
open PySem PySem.Spec L2

/-- what an own class of exceptions must say of itself -/
structure XC (K : PySem.W.Frag) (C : Addr) : Prop where
  ga : PySem.W.findIn K (.ref C) "__getattribute__" = some (some (.builtin "BaseException.__getattribute__"))
  gg : PySem.W.findIn K (.ref C) "__getattr__" = some none
  exC : PySem.W.subIn K (.ref C) (.type "BaseException") = some true
  hdC : PySem.W.hasDictIn K C = true
  ha : PySem.W.findIn K (.ref C) "__class__" = some (some (.builtin "object.__class__"))
  hn : PySem.W.specialIn K (.builtin "object.__class__") "__get__" = some (some (.builtin "getset_descriptor.__get__"))
  ht : PySem.W.takesIn K (.builtin "object.__class__") = some true
  hm : PySem.W.mroIn K C (.type "object") = some true
  hc : (PySem.W.clsIn K C).isSome = true
section
variable {X : Cx} {CX : CXT} {c : C0} {k : Nat} {x : Str} {p pos : Pos} {e : Expr} {es : List Expr} {ta : TA} {C : Addr}
/-- C(): an own exception class without __init__, made without arguments -/
def tOex0 (C : Addr) : TE := fun σ H Q => ∀ a, H a = none → Q (.ref a) (upd H a (exo a C none))
theorem pe_oex0 {bmB : List Value} {B newId initId : String} (F : ExcBaseFacts B newId initId bmB) (q : PySem.W.excIn X.K C bmB newId = true) (gC : X.mg x = some (.ref C)) (kC : PySem.W.keepIn X.K (.ref C) = true) (hg : Gl X x) (hdb : (x == ("__debug__" : Str)) = false := by decide) :
    PE X (.Call (.Name x p) [] [] pos) (tOex0 C) := by
  refine ⟨fun pins s σ H Q I h => ?_⟩
  refine wpAny_Call_Name_kw (ld_glob I hg gC ?_ hdb)
  refine PySem.W.callWith_K0 I.kIn kC ?_
  obtain ⟨bm, N, nm, qn, bs, hdct, sn, sub, ab, col, dd, k0, k1, k2, k3, k5, mN, hC, hN, hni, T⟩ := exc_obj I.kIn q
  refine wpAny_call_exc_subT F T hC hN hni (fun h' a hm => ?_) (by show 0 ≤ sizeLine; omega)
  have hn : H a = none := I.hok.gone hm.new
  obtain ⟨t, ht, _, _⟩ := hm.there
  exact ⟨.ref a, upd H a (exo a C none), I.laidN hm.keeps hm.new hn (exo_ok ht), rfl, h a hn⟩
/-- C(x, ..): an own exception class over ValueError whose __init__ is a def -/
def tOex (C : Addr) (sp : Sp) (ta : TA) : TE := fun σ H Q => ta σ H fun vs H1 => vs.length ≤ 1000 ∧ ∀ a, H1 a = none → sp (.ref a :: vs) (upd H1 a (exo a C none)) (fun v H2 => v = .non ∧ Q (.ref a) H2) (fun _ _ _ => False)
theorem pe_oex {fI : Addr} {fd : FuncData} {ps : List Str} {sp : Sp} (T : OexC X.K C) (iC : PySem.W.findIn X.K (.ref C) "__init__" = some (some (.ref fI))) (tI : PySem.W.typeIn X.K (.ref fI) = some (.type "function"))
    (F1 : FnOk X.prog X.w X.K X.mg X.base CX k fI fd ps sp) (hr : Room (k + 1) X.A) (hb : Binds X.K fd ps []) (hx : Passes CX X (fun _ _ _ => False)) (hg : Gl X x) (hm : X.mg x = some (.ref C)) (ha : PA X (e :: es) ta)
    (hdb : (x == ("__debug__" : Str)) = false := by decide) (he : starEach (e :: es) X.env = (false, eval e X.env) :: starEach es X.env := by rfl) (hpl : (backTo pos (starEach es X.env)).any (·.1) = false := by rfl) :
    PE X (.Call (.Name x p) (e :: es) [] pos) (tOex C sp ta) := by
  refine ⟨fun pins s σ H Q I h => ?_⟩
  obtain ⟨nm, q, N, bs, bm, sn, sub, ab, col, dd, k0, k1, k2, k3, k5, hC, hbm⟩ := T.cls
  refine wpAny_Call_Name_kw (ld_glob I hg hm ?_ hdb)
  refine PySem.W.callWith_K (h₀ := X.base) I.ok.mod.kin T.kC (thn (ha.run pos pins s σ H _ I h) fun us s1 ⟨vs, H1, I1, r1, hz, q1⟩ => ⟨I1.kIn, ?_⟩) he hpl
  show wpAny _ _ (call (.ref C) us) _ _ _
  obtain ⟨hp, g, dr, tk, os⟩ := s1
  have hsz : hp.objs.size ≤ hp.objs.size + 1 := Nat.le_succ _
  have hn : H1 (hp.objs.size + 1) = none := I1.hok.fresh hsz
  have hq := q1 (hp.objs.size + 1) hn
  have kk : ∀ b o, hp.get? b = some o → ((hp.push (PySem.W.kdv_tup us)).push (PySem.HandSPX.excO C hp.objs.size)).get? b = some o := fun b o e => Heap.get?_push_of_some _ (Heap.get?_push_of_some _ e)
  have hget : ((hp.push (PySem.W.kdv_tup us)).push (PySem.HandSPX.excO C hp.objs.size)).get? (hp.objs.size + 1) = some (PySem.HandSPX.excO C hp.objs.size) := by heap_get
  have I2 : Inv X pins σ (upd H1 (hp.objs.size + 1) (exo (hp.objs.size + 1) C none)) ⟨(hp.push (PySem.W.kdv_tup us)).push (PySem.HandSPX.excO C hp.objs.size), g, dr, tk, os⟩ :=
    I1.laid (t' := tk) (a := hp.objs.size + 1) (o := exo (hp.objs.size + 1) C none) (h' := (hp.push (PySem.W.kdv_tup us)).push (PySem.HandSPX.excO C hp.objs.size)) kk hsz (exo_ok hget)
  have r2 : Vals (V.ref (hp.objs.size + 1) :: vs) (Value.ref (hp.objs.size + 1) :: us) := .cons rfl r1
  have hl : (Value.ref (hp.objs.size + 1) :: us).length = ps.length := by
    have e := r2.length
    rw [F1.len _ _ _ _ hq] at e
    exact e.symm
  have hus : us.length ≤ sizeLine := by
    rw [← Paired.length r1, sizeLine_eq]
    omega
  have hbt := hb _ (Value.ref (hp.objs.size + 1) :: us) I2.kIn (by rw [List.append_nil]; exact hl)
  rw [List.append_nil] at hbt
  refine wpAny_call (PySem.HandSPX.call_own F.excBase_ValueError (fun Y => PySem.HandSPX.refsVE_contains Y bm hbm) (I1.kIn _ _ hC) (PySem.W.looks_findIn I1.kIn iC) (fun self => PySem.W.bind_fn I1.kIn self tI) hus
    (codeAny_mono (F1.run _ X.stack _ _ ⟨Value.ref (hp.objs.size + 1) :: us, []⟩ (Value.ref (hp.objs.size + 1) :: us) _ _ (fun _ _ _ => False) (hr.make C us []) (I2.env0.make C us []) hbt r2 hq) fun r s' hq' => ?_))
  cases r with
  | error er => exact hx pins σ _ _ er s' I2 hq'
  | ok fl =>
    cases fl with
    | ret u =>
      obtain ⟨v, H2, os2, bare2, un2, hok2, rv, ev, q2⟩ := hq'
      subst ev
      obtain ⟨hh, g', d', t', os'⟩ := s'
      obtain rfl : os' = os := os2
      exact ⟨rv, .ref (hp.objs.size + 1), H2, I2.call (h' := hh) (g' := g') (d' := d') (t' := t') (ch := []) un2 hok2 bare2 (fun b z => absurd z (by simp)), rfl, q2⟩
    | next => exact False.elim hq'
    | brk => exact False.elim hq'
    | cont => exact False.elim hq'
/-- e.f of an own exception held as a value -/
def tXat (K : PySem.W.Frag) (f : Str) (te : TE) : TE := fun σ H Q => te σ H fun x H1 => ∃ (a C dd : Addr) (fs : List (Str × V)) (v : V), x = .ref a ∧ H1 a = some (exo a C (some dd)) ∧ H1 dd = some (exd dd fs) ∧ XC K C ∧ PySem.W.findIn K (.ref C) f = some none ∧ fs.lookup f = some v ∧ Q v H1
theorem pe_xat {te : TE} {n : Str} (he : PE X e te) (hb : attributeBase e n X.env (eval e X.env) = eval e X.env := by rfl) : PE X (.Attribute e n pos) (tXat X.K n te) := by
  refine ⟨fun pins s σ H Q I h => ?_⟩
  refine attr_of hb (thn (he.run pins s σ H _ I h) fun u s1 hh => ?_)
  obtain ⟨x, H1, I1, rx, a, C, dd, fs, v, ex, ea, ed, T, hno, l, q⟩ := hh
  subst ex
  obtain rfl : u = Value.ref a := rx
  obtain ⟨t1, ha⟩ := exo_at I1.hok ea
  obtain ⟨mA, hns, hr⟩ := exd_at I1.hok ed
  obtain ⟨od, ho, hl⟩ := lookIn_ns hns
  obtain ⟨u, hu, ru⟩ := RelO.some_of (v := v) (o := mA n) (by rw [← l]; exact hr n)
  have J : PySem.W.InstAt s1.heap a _ C (some od) := ⟨ha, rfl, rfl, ho⟩
  exact HandSPX.exc_get I1.kIn J T.ga T.gg T.exC (PySem.W.findObj_own T.hdC hno rfl (by rw [hl, hu])) (handed_of ru) ⟨v, H1, I1.tok _, ru, q⟩
/-- isinstance of an own exception held as a value -/
def rIsX (K : PySem.W.Frag) : List V → Hp → VK → Prop := fun xs H Q => ∃ (a C : Addr) (d : Option Addr) (t : V) (cv : Value) (b : Bool), xs = [.ref a, t] ∧ H a = some (exo a C d) ∧ (∀ dd, d = some dd → ∃ fs, H dd = some (exd dd fs)) ∧ XC K C ∧ (∀ u, RelV t u → u = cv) ∧ PySem.W.kitOne K (.ref C) cv = some b ∧ Q (.bl b) H
theorem call_isX : CallR X (.builtin "isinstance") (rIsX X.K) := by
  intro pins s σ H xs us Q I r h
  obtain ⟨a, C, d, t, cv, b, rfl, ha, hd, T, hcv, e, q⟩ := h
  cases r with
  | cons rx rr =>
    cases rr with
    | cons rt rr =>
      cases rr
      cases rx
      have ec := hcv _ rt
      subst ec
      obtain ⟨t1, hx⟩ := exo_at I.hok ha
      have J : ∃ od, PySem.W.InstAt s.heap a { cls := .ref C, dict := d, data := .fields #[.ref t1, .none, .none, .none, .bool false, .none] } C od := by
        cases d with
        | none => exact ⟨none, hx, rfl, rfl, trivial⟩
        | some dd =>
          obtain ⟨fs, ed⟩ := hd dd rfl
          obtain ⟨mA, ⟨o, es, ep, ho, hr⟩, _⟩ := exd_at I.hok ed
          exact ⟨some o, hx, rfl, rfl, ho⟩
      obtain ⟨od, J⟩ := J
      exact PySem.W.kia_one (PySem.W.kitx_exc T.hc T.ga T.gg T.exC T.ha T.hn T.ht T.hm) I.kIn J e (fun z => nomatch z) fun tk => ⟨.bl b, H, I.kept (t' := tk) fun _ _ z => z, rfl, q⟩

/-! ### over data -/
theorem RepF.zip {p : Option Addr} {K : PySem.W.Frag} {H : Hp} : ∀ (ns : List Str) {vs : List V} {ds : List D}, RepA p K H vs ds → RepF p K H (ns.zip vs) (ns.zip ds)
  | [], _, _, _ => .nil
  | _ :: _, _, _, .nil => .nil
  | _ :: ns, _, _, .cons h r => .cons h (RepF.zip ns r)
theorem RepF.append {p : Option Addr} {K : PySem.W.Frag} {H : Hp} : ∀ {fs gs : List (Str × V)} {ds es : List (Str × D)}, RepF p K H fs ds → RepF p K H gs es → RepF p K H (fs ++ gs) (ds ++ es)
  | _, _, _, _, .nil, s => s
  | _, _, _, _, .cons h r, s => .cons h (RepF.append r s)
theorem RepF.reverse {p : Option Addr} {K : PySem.W.Frag} {H : Hp} : ∀ {fs : List (Str × V)} {ds : List (Str × D)}, RepF p K H fs ds → RepF p K H fs.reverse ds.reverse
  | _, _, .nil => .nil
  | _, _, .cons h r => by
    rw [List.reverse_cons, List.reverse_cons]
    exact RepF.append (RepF.reverse r) (.cons h .nil)
theorem wAny {p : Option Addr} {K : PySem.W.Frag} {H : Hp} {v : V} {C : Addr} {fs : List (Str × D)} (r : Rep p K H v (.exc C fs)) : ∃ (a : Addr) (d : Option Addr), v = .ref a ∧ H a = some (exo a C d) ∧ (∀ dd, d = some dd → ∃ gs, H dd = some (exd dd gs) ∧ RepF p K H gs fs) ∧ (d = none → fs = []) := by
  cases r with
  | exc h1 h2 r => exact ⟨_, _, rfl, h1, fun dd e => by cases e; exact ⟨_, h2, r⟩, fun e => by cases e⟩
  | exc0 h1 => exact ⟨_, none, rfl, h1, (fun dd e => nomatch e), fun _ => rfl⟩
def wXat (K : PySem.W.Frag) (f : Str) (wa : WE) : WE := fun ρ m Q => wa ρ m fun d m1 => ∃ C fs v, d = .exc C fs ∧ XC K C ∧ PySem.W.findIn K (.ref C) f = some none ∧ fs.lookup f = some v ∧ Q v m1
theorem rd_xat {K : PySem.W.Frag} {wa : WE} {ta : TE} {n : Str} (hK : X.K = K) (h : RdE X.K c ta wa) : RdE X.K c (tXat X.K n ta) (wXat K n wa) := by
  subst hK
  intro A ρ m σ H G Q Qv hw k
  refine h A ρ m σ H G _ _ hw fun v d m1 H1 G1 k1 r1 q1 => ?_
  obtain ⟨C, fs, y, e1, T, hno, hl, q⟩ := q1
  subst e1
  obtain ⟨a, d, rfl, ea, h2, h3⟩ := wAny r1
  cases d with
  | none =>
    rw [h3 rfl] at hl
    cases hl
  | some dd =>
    obtain ⟨gs, ed, rf⟩ := h2 dd rfl
    obtain ⟨u, hu, ru⟩ := rf.look hl
    exact ⟨a, C, dd, gs, u, rfl, (cut_some ea).2, (cut_some ed).2, T, hno, hu, k u y m1 H1 G1 k1 ru q⟩
def de_xat {K : PySem.W.Frag} {wa : WE} {n : Str} (hK : X.K = K) (h : DE X c e wa) (hb : attributeBase e n X.env (eval e X.env) = eval e X.env := by rfl) : DE X c (.Attribute e n pos) (wXat K n wa) :=
  ⟨_, pe_xat h.pe hb, rd_xat hK h.rd⟩
/-- isinstance(e, T), e an own exception -/
def wIsX (K : PySem.W.Frag) (cv : Value) (wa : WE) : WE := fun ρ m Q => wa ρ m fun d m1 => ∃ C fs b, d = .exc C fs ∧ XC K C ∧ PySem.W.kitOne K (.ref C) cv = some b ∧ Q (.bl b) m1
theorem rd_isX {K : PySem.W.Frag} {wa : WE} {ta : TE} {t : V} {cv : Value} (hcv : ∀ u, RelV t u → u = cv) (h : RdE K c ta wa) : RdE K c (tCB (rIsX K) (tCons ta (tCons (tC t) tNil))) (wIsX K cv wa) := fun A ρ m σ H G Q Qv hw k => h A ρ m σ H G _ _ hw fun v d m1 H1 G1 k1 r1 ⟨C, fs, b, e1, T, e2, q⟩ => by
  subst e1
  obtain ⟨a, d, rfl, ea, h2, h3⟩ := wAny r1
  exact ⟨a, C, d, t, cv, b, rfl, (cut_some ea).2, fun dd e => by
    obtain ⟨gs, ed, _⟩ := h2 dd e
    exact ⟨gs, (cut_some ed).2⟩, T, hcv, e2, k _ _ m1 H1 G1 k1 (.bl b) q⟩
def de_isX {K : PySem.W.Frag} {wa : WE} {a : Expr} {C : Addr} {y : Str} {p' : Pos} (hK : X.K = K) (hg : Gl X "isinstance") (hm : X.mg "isinstance" = none) (hgC : Gl X y) (hmC : X.mg y = some (.ref C)) (h : DE X c a wa) (hdb : (y == ("__debug__" : Str)) = false := by decide)
    (he : starEach [a, .Name y p'] X.env = (false, eval a X.env) :: starEach [.Name y p'] X.env := by rfl) (he2 : starEach [.Name y p'] X.env = (false, eval (.Name y p') X.env) :: starEach [] X.env := by rfl) (hpl : (backTo pos (starEach [.Name y p'] X.env)).any (·.1) = false := by rfl) :
    DE X c (.Call (.Name "isinstance" p) [a, .Name y p'] [] pos) (wIsX K (.ref C) wa) :=
  ⟨_, pe_callB call_isX hg hm (by decide +kernel) (pa_cons h.pe (pa_cons (pe_glob (v := .ref C) hgC hmC rfl hdb) pa_nil he2) he) (he := he) (hpl := hpl), by subst hK; exact rd_isX (t := .ref C) (cv := .ref C) (fun _ z => z) h.rd⟩
def de_isXT {K : PySem.W.Frag} {wa : WE} {a : Expr} {T : String} {y : Str} {p' : Pos} (hK : X.K = K) (hg : Gl X "isinstance") (hm : X.mg "isinstance" = none) (hgT : Gl X y) (hmT : X.mg y = none) (hvT : bootBuiltins y = some (.type T)) (h : DE X c a wa) (hn : y ≠ "__name__" := by decide) (hdb : (y == ("__debug__" : Str)) = false := by decide)
    (he : starEach [a, .Name y p'] X.env = (false, eval a X.env) :: starEach [.Name y p'] X.env := by rfl) (he2 : starEach [.Name y p'] X.env = (false, eval (.Name y p') X.env) :: starEach [] X.env := by rfl) (hpl : (backTo pos (starEach [.Name y p'] X.env)).any (·.1) = false := by rfl) :
    DE X c (.Call (.Name "isinstance" p) [a, .Name y p'] [] pos) (wIsX K (.type T) wa) :=
  ⟨_, pe_callB call_isX hg hm (by decide +kernel) (pa_cons h.pe (pa_cons (pe_bltn (v := .ty T) hgT hmT hvT rfl hn hdb) pa_nil he2) he) (he := he) (hpl := hpl), by subst hK; exact rd_isX (t := .ty T) (cv := .type T) (fun _ z => z) h.rd⟩

/-! ### making -/
/-- what such an __init__ promises -/
def spX (C : Addr) (ns : List Str) : Sp := fun vs H Q _ => ∃ (a : Addr) (us : List V), vs = .ref a :: us ∧ us.length = ns.length ∧ H a = some (exo a C none) ∧
  ∀ d H', d ≠ a → H d = none → H' a = some (exo a C (some d)) → H' d = some (exd d (ns.zip us).reverse) → (∀ b, b ≠ a → b ≠ d → H' b = H b) → Q .non H'
/-- such a class, with its __init__ -/
structure MkX (P : Program) (w : World) (K : PySem.W.Frag) (mg : Str → Option Value) (base : Heap) (x : Str) (C : Addr) (ns : List Str) : Prop where
  T : OexC K C
  ex : ∃ (fI : Addr) (fd : FuncData) (ps : List Str), PySem.W.findIn K (.ref C) "__init__" = some (some (.ref fI)) ∧ PySem.W.typeIn K (.ref fI) = some (.type "function") ∧ FnOk P w K mg base CX0 1 fI fd ps (spX C ns) ∧ Binds K fd ps []
  mg : mg x = some (.ref C)
  le : ns.length ≤ 1000
def wMkx (C : Addr) (ns : List Str) (wr : WA) : WE := fun ρ m Q => wr ρ m fun ds m1 => ds.length = ns.length ∧ Q (.exc C (ns.zip ds).reverse) m1
def de_mkx {wr : WA} {j : Nat} {ns : List Str} (M : MkX X.prog X.w X.K X.mg X.base x C ns) (hr : Room j X.A) (hj : 2 ≤ j) (hg : Gl X x) (ha : DA X c (e :: es) wr)
    (hdb : (x == ("__debug__" : Str)) = false := by decide) (he : starEach (e :: es) X.env = (false, eval e X.env) :: starEach es X.env := by rfl) (hpl : (backTo pos (starEach es X.env)).any (·.1) = false := by rfl) : DE X c (.Call (.Name x p) (e :: es) [] pos) (wMkx C ns wr) :=
  ⟨tOex C (spX C ns) ha.t, by
    obtain ⟨fI, fd, ps, h1, h2, h3, h4⟩ := M.ex
    exact pe_oex (k := 1) M.T h1 h2 h3 (hr.mono hj) h4 pass0 hg M.mg ha.pe hdb he hpl, fun A ρ m σ H G Q Qv hw k => ha.rd A ρ m σ H G _ _ hw fun vs ds m1 H1 G1 k1 r1 q1 => by
    have hl := r1.length
    refine ⟨by rw [hl, q1.1]; exact M.le, fun a hna => ⟨a, vs, rfl, by rw [hl, q1.1], upd_same, fun d H' hda hnd h1 h2 h3 => ⟨rfl, ?_⟩⟩⟩
    have hnd1 : H1 d = none := by rwa [upd_ne hda] at hnd
    have ext : Ext H1 H' := fun b o e => by
      rw [h3 b (ne_of_none e hna) (ne_of_none e hnd1), upd_ne (ne_of_none e hna)]
      exact e
    have kp : Keep c H1 H' := Keep.ofExt ext
    have G2 := G1.ext ext
    refine k _ _ m1 H' G2 (k1.trans kp) (.exc (cut_of (G1.notin hna) h1) (cut_of (G1.notin hnd1) h2) ((RepF.zip ns r1).reverse.ext ?_)) q1.2
    intro b o hb
    obtain ⟨n, z⟩ := cut_some hb
    exact cut_of n (ext b o z)⟩
/-- a class without one, made without arguments -/
def wMkx0 (C : Addr) : WE := fun ρ m Q => Q (.exc C []) m
def de_mkx0 {bmB : List Value} {B newId initId : String} (F : ExcBaseFacts B newId initId bmB) (q : PySem.W.excIn X.K C bmB newId = true) (gC : X.mg x = some (.ref C)) (kC : PySem.W.keepIn X.K (.ref C) = true) (hg : Gl X x) (hdb : (x == ("__debug__" : Str)) = false := by decide) : DE X c (.Call (.Name x p) [] [] pos) (wMkx0 C) :=
  ⟨_, pe_oex0 F q gC kC hg hdb, fun A ρ m σ H G Q Qv hw k => fun a hna => k _ _ m _ (G.fresh hna) (Keep.new hna) (.exc0 (G.freshN hna)) hw⟩
/-- the reading of such an __init__ -/
theorem init1 {K : PySem.W.Frag} {C : Addr} {N : List Str} {n1 : Str} {vs : List V} {H : Hp} {Q : VK} {E : XK} (T : OexC K C) (N1 : PySem.W.findIn K (.ref C) n1 = some none) (h : spX C [n1] vs H Q E) :
    tOst K n1 (tVar 0) (tVar 1) { nx := fun _ H' => Q .non H', rt := Q } (L2.start N vs) H := by
  obtain ⟨a, us, rfl, hl, ha, k⟩ := h
  match us, hl with
  | [x], _ => exact ⟨_, rfl, _, rfl, a, C, rfl, T, N1, .inl ⟨ha, fun dx hd hda => k dx _ hda hd upd_same (by rw [upd_ne hda]; exact upd_same) fun b h1 h2 => by rw [upd_ne h1, upd_ne h2]⟩⟩
theorem init2 {K : PySem.W.Frag} {C : Addr} {N : List Str} {n1 n2 : Str} {vs : List V} {H : Hp} {Q : VK} {E : XK} (T : OexC K C) (N1 : PySem.W.findIn K (.ref C) n1 = some none) (N2 : PySem.W.findIn K (.ref C) n2 = some none) (h : spX C [n1, n2] vs H Q E) :
    tSeq (tOst K n1 (tVar 0) (tVar 1)) (tOst K n2 (tVar 0) (tVar 2)) { nx := fun _ H' => Q .non H', rt := Q } (L2.start N vs) H := by
  obtain ⟨a, us, rfl, hl, ha, k⟩ := h
  match us, hl with
  | [x, y], _ => exact ⟨_, rfl, _, rfl, a, C, rfl, T, N1, .inl ⟨ha, fun dx hd hda => ⟨_, rfl, _, rfl, a, C, rfl, T, N2, .inr ⟨dx, _, upd_same, (by rw [upd_ne hda]; exact upd_same), (by show 1 ≤ 900; decide),
    k dx _ hda hd (by rw [upd_ne (Ne.symm hda)]; exact upd_same) upd_same fun b h1 h2 => by rw [upd_ne h2, upd_ne h1, upd_ne h2]⟩⟩⟩⟩
end
end DW

/-! DW10: how long a text of data may be. -/
namespace DW
open PySem PySem.Spec L2
mutual
def lnB : PyData → Nat
  | .none => 4
  | .bool _ => 5
  | .int i => (Str.ofString (toString i)).length
  | .str x => 10 * x.length + 2
  | .list xs => lnAll xs + 2
  | .tuple xs => lnAll xs + 4
  | .dict _ => 0
def lnAll : List PyData → Nat
  | [] => 0
  | x :: xs => lnB x + 2 + lnAll xs
end
theorem from_len : ∀ (ts : List Str) (k : Nat) (acc : Str), (textFrom k acc ts).length ≤ acc.length + piled ts
  | [], k, acc => by show acc.length ≤ _; omega
  | t :: ts, k, acc => by
    have h := from_len ts (k + 1) (acc ++ (if k > 0 then ", " else "" : String) ++ t)
    show (textFrom (k + 1) _ ts).length ≤ _
    rw [Str.length_append, Str.length_append] at h
    rw [piled_cons]
    have e : (Str.ofString (if k > 0 then ", " else "" : String)).length ≤ 2 := by split <;> decide +kernel
    omega
theorem join_len : ∀ ts : List Str, (Str.join ", " ts).length ≤ piled ts
  | [] => by show (Str.empty).length ≤ _; exact Nat.zero_le _
  | x :: r => by
    have := join_length_add (x :: r) (by simp)
    omega
theorem strOk_all {x : Str} (h : PyData.strOk x = true) : ∀ c ∈ x.cps.toList, c < 16 ^ 8 := fun c hc => by
  unfold PyData.strOk at h
  rw [Array.all_eq_true] at h
  obtain ⟨i, hi, e⟩ := List.getElem_of_mem hc
  have := h i (by simpa using hi)
  simp at this e
  rw [← e]
  omega
mutual
theorem shown_le : ∀ (q : PyData), q.canLay0 = true → q.shown.length ≤ lnB q
  | .none, _ => by rw [PyData.shown, lnB]; decide +kernel
  | .bool b, _ => by rw [PyData.shown, lnB]; cases b <;> decide +kernel
  | .int i, _ => by rw [PyData.shown, lnB]; exact Nat.le_refl _
  | .str x, h => by
    rw [PyData.shown, lnB]
    exact StrLaws.reprText_len x (strOk_all (by rwa [PyData.canLay0] at h))
  | .list xs, h => by
    rw [PyData.canLay0] at h
    have := shownAll_le xs h
    rw [PyData.shown, lnB]
    unfold listText
    rw [Str.length_append]
    have e := from_len (PyData.shownAll xs) 0 "["
    have e1 : (Str.ofString "[").length = 1 := by decide +kernel
    have e2 : (Str.ofString "]").length = 1 := by decide +kernel
    omega
  | .tuple xs, h => by
    rw [PyData.canLay0] at h
    have := shownAll_le xs h
    rw [PyData.shown, lnB]
    unfold tupleText
    rw [Str.length_append, Str.length_append]
    have e := join_len (PyData.shownAll xs)
    have e1 : (Str.ofString "(").length = 1 := by decide +kernel
    have e2 : (Str.ofString (if (PyData.shownAll xs).length == 1 then ",)" else ")" : String)).length ≤ 2 := by split <;> decide +kernel
    omega
  | .dict _, h => by rw [PyData.canLay0] at h; cases h
theorem shownAll_le : ∀ (xs : List PyData), PyData.canLayAll0 xs = true → piled (PyData.shownAll xs) ≤ lnAll xs
  | [], _ => by rw [PyData.shownAll]; exact Nat.zero_le _
  | x :: xs, h => by
    rw [PyData.canLayAll0, Bool.and_eq_true] at h
    have h1 := shown_le x h.1
    have h2 := shownAll_le xs h.2
    rw [PyData.shownAll, piled_cons, lnAll]
    omega
end
theorem int_len {i : Int} (h : -10 ^ 60 < i) (h2 : i < 10 ^ 60) : (Str.ofString (toString i)).length ≤ 61 := by
  have e : i.natAbs < 10 ^ 60 := by omega
  have := int_text_length_le10 (a := i) (k := 60) (by decide) e
  rw [ofString_length]
  exact this
theorem int_log {i : Int} (h : -10 ^ 60 < i) (h2 : i < 10 ^ 60) : i.natAbs.log2 < 1920 := by
  have e : i.natAbs < 10 ^ 60 := by omega
  by_cases z : i.natAbs = 0
  · rw [z]
    decide
  · rw [Nat.log2_lt z]
    exact Nat.lt_of_lt_of_le (Nat.lt_trans e (show 10 ^ 60 < 2 ^ 200 by decide)) (Nat.pow_le_pow_right (by decide) (by decide))
/-- plain data whose text is short -/
def Val (b : Nat) (d : D) : Prop := ∃ q, d.py = some q ∧ q.canLay0 = true ∧ q.showable = true ∧ q.hasDict = false ∧ lnB q ≤ b ∧ q.depth ≤ 5
theorem intText_ok (i : Int) : PyData.strOk (Str.ofString (toString i)) = true := by
  unfold PyData.strOk
  rw [Array.all_eq_true]
  intro j hj
  have hm : (Str.ofString (toString i)).cps[j] ∈ (Str.ofString (toString i)).cps.toList := by simp
  have h := PyProof.Rows.int_text_free' (Str.ofString (toString i)).cps[j]
  simp only [decide_eq_true_eq]
  refine Nat.lt_of_not_le fun hge => h ⟨by omega, .inr (by omega)⟩ i hm
theorem strOk_append {a b : Str} (h : PyData.strOk a = true) (k : PyData.strOk b = true) : PyData.strOk (a ++ b) = true := by
  unfold PyData.strOk at *
  have e : (a ++ b).cps = a.cps ++ b.cps := Str.cps_append _ _
  rw [e, Array.all_append, h, k]
  rfl
theorem Val.mono {b b' : Nat} {d : D} (h : Val b d) (l : b ≤ b') : Val b' d := by
  obtain ⟨q, h1, h2, h3, h4, h5, h6⟩ := h
  exact ⟨q, h1, h2, h3, h4, Nat.le_trans h5 l, h6⟩
theorem val_int {i : Int} (h : -10 ^ 60 < i) (h2 : i < 10 ^ 60) : Val 61 (.int i) := ⟨.int i, by simp [D.py], by simp [PyData.canLay0], by simp [PyData.showable]; exact int_log h h2, by simp [PyData.hasDict], by rw [lnB]; exact int_len h h2, by simp [PyData.depth]⟩
theorem val_str {b : Nat} {x : Str} (h : PyData.strOk x = true) (hl : 10 * x.length + 2 ≤ b) : Val b (.str x) := ⟨.str x, by simp [D.py], by rw [PyData.canLay0]; exact h, by simp [PyData.showable], by simp [PyData.hasDict], by rw [lnB]; exact hl, by simp [PyData.depth]⟩
end DW

/-! DW11: a law's own def, from its head on; its promise may use that no text of data is being made. -/
namespace DW
open PySem PySem.Spec L2 PyProof.Rows
section
variable {P : Program} {w : World} {K : PySem.W.Frag} {mg mb : Str → Option Value} {k : Nat} {fa a : Addr} {fd : FuncData} {x : Str} {sp : Sp} {s : Shared} {vs : List Value} {ns : List Int}
/-- the script alone is tracked (not even it, where the module itself holds it) -/
theorem script_track (KX : K.In s.heap) (ha : s.heap.get? a = some { cls := .type "list", data := .seq vs.toArray }) (hi : IntsAre vs ns) (hl : ns.length ≤ sizeLine) :
    ∃ H : Hp, SqL K H a (ns.map V.int) ∧ HOk P w H s.heap ∧ ∀ b u, H b = some u → b = a ∧ K.lookup a = none ∧ ∃ o xs, u = .frz o (.lst xs) := by
  have hv := vals_ints hi
  rcases hk : K.lookup a with _ | o
  · let o : Obj := { cls := .type "list", data := .seq vs.toArray }
    have only : ∀ b u, (fun b : Addr => if b = a then some (HO.frz o (.lst (ns.map V.int))) else none) b = some u → b = a ∧ u = .frz o (.lst (ns.map V.int)) := by
      intro b u e
      dsimp only at e
      split at e
      · rename_i hba
        exact ⟨hba, (Option.some.inj e).symm⟩
      · cases e
    refine ⟨_, .inl (.inr ⟨o, if_pos rfl⟩), ?_, fun b u e => ⟨(only b u e).1, rfl, _, _, (only b u e).2⟩⟩
    intro b u e
    obtain ⟨rfl, rfl⟩ := only b u e
    exact ⟨ha, ⟨by rw [List.length_map]; exact hl, vs, _, hv, ha⟩⟩
  · have same := KX a o hk
    rw [ha] at same
    obtain rfl := Option.some.inj same
    have size : vs.toArray.size ≤ sizeLine := by
      rw [List.size_toArray, hi.length]
      exact hl
    exact ⟨fun _ => none, .inr ⟨_, vs.toArray, _, hk, rfl, rfl, rfl, size, by simpa using hv⟩, (fun b u (e : (none : Option HO) = some u) => nomatch e), fun b u (e : (none : Option HO) = some u) => nomatch e⟩
/-- the call of a law's def that keeps sp where no text is being made -/
theorem law_at (KX : K.In s.heap) (hns : s.heap.Ns mainGlobals mg) (hb : s.heap.Ns builtinsNs mb) (hbb : ∀ x : Str, x ≠ "__name__" → mb x = bootBuiltins x) (hlim : s.heap.NoLimit) (hg : s.gens = #[])
    (ha : s.heap.get? a = some { cls := .type "list", data := .seq vs.toArray }) (hi : IntsAre vs ns) (hl : ns.length ≤ sizeLine) (hr : Room k callerA)
    (F : ∀ base : Heap, K.In base → base.Ns mainGlobals mg → FnG true P w K mg base CX0 k fa fd [x] sp) (bind : ∀ (s : Shared) (u : Value), BindsTo s fd ⟨[u], []⟩ [(x, u)])
    (hsp : ∀ H : Hp, SqL K H a (ns.map V.int) → sp [.ref a] H (fun v _ => v = .bl true) fun _ _ _ => False) :
    codeAny (model P w) callerA (.call (.ref fa) ⟨[.ref a], []⟩) (fun r s' => r = .ok (.ret (.bool true)) ∧ OldK s.heap s'.heap ∧ s'.os = s.os ∧ AllBare s'.gens) s := by
  obtain ⟨H, hS, hH, hA⟩ := script_track (P := P) (w := w) KX ha hi hl
  have off : ∀ b o, s.heap.get? b = some o → (b = a → K.lookup a ≠ none) ∨ (o.data ≠ .seq vs.toArray) → (hidT s.heap H).get? b = some o := by
    intro b o e h
    refine hidT_get e ?_
    rcases q : H b with _ | u
    · rfl
    · obtain ⟨rfl, n, _⟩ := hA b u q
      rw [ha] at e
      obtain rfl := Option.some.inj e
      rcases h with h | h
      · exact absurd n (h rfl)
      · exact absurd rfl h
  have names : ∀ {b : Addr} {m : Str → Option Value}, s.heap.Ns b m → (hidT s.heap H).Ns b m := by
    rintro b m ⟨o, es, ep, e, d, r⟩
    refine ⟨o, es, ep, off b o e (.inr ?_), d, r⟩
    rw [d]
    exact fun z => nomatch z
  have kin : K.In (hidT s.heap H) := fun b o e => off b o (KX b o e) (.inl fun z n => by
    rw [← z, e] at n
    cases n)
  obtain ⟨mc, l1, l2⟩ := hlim
  have env : Env0 P w K mg (hidT s.heap H) callerA [] s H :=
    { frames := rfl, mod := { kin := kin, glob := names hns, blt := ⟨mb, names hb, hbb⟩, nolimit := ⟨mc, names l1, l2⟩ }, bs := fun _ _ e => of_hidT e, bsz := by rw [hidT_size]; exact Nat.le_refl _, funs := trivial, frf := (fun b z => nomatch z), hok := hH, bare := .of_eq hg }
  have ran := (F _ kin (names hns)).run callerA [] s H ⟨[.ref a], []⟩ [.ref a] [.ref a] (fun v _ => v = .bl true) (fun _ _ _ => False) hr (fun _ => rfl) env (bind s (.ref a)) (.cons rfl .nil) (hsp H hS)
  refine codeAny_mono ran ?_
  rintro (e | fl) s' h
  · exact False.elim h
  · rcases fl with _ | _ | _ | u <;> try exact False.elim h
    obtain ⟨v, H2, os, bare, un, ok2, rv, rfl⟩ := h
    refine ⟨by rw [show u = Value.bool true from rv], OldK.of_keep fun b o e => ?_, os, bare⟩
    rcases q : H b with _ | t
    · exact un.keep b o e q (fun z => nomatch z) (fun z => nomatch z)
    · obtain ⟨_, _, o2, xs, rfl⟩ := hA b t q
      have before : s.heap.get? b = some o2 := (hH b _ q).1
      have behind : s'.heap.get? b = some o2 := (ok2 b _ (un.frzs b o2 _ q)).1
      rw [← e, before]
      exact behind
end
/-- the goal that the head leaves -/
theorem walk_law {l : PySem.W.OpenLaw} {n k : Nat} {q : Program} {loose : List Str} {XP : (Str → Option Value) → Heap → Prop} {YP : World → Heap → Prop} {d : DefRec} {K : Params → PySem.W.Frag} {sp : World → Sp} {x : Str}
    (hn : l.most = some n) (hn2 : n ≤ sizeLine) (hdf : d.params.defaults = []) (hr : Room k callerA) (hY : ∀ (w : World) (h : Heap), YP w h → (K w.params).In h)
    (F : ∀ (w : World) (mg : Str → Option Value) (fa : Addr) (h : Heap), (K w.params).In h → h.Ns mainGlobals mg → mg d.name = some (.ref fa) →
      ∃ fd : FuncData, (∀ (s : Shared) (u : Value), BindsTo s fd ⟨[u], []⟩ [(x, u)]) ∧ ∀ base : Heap, (K w.params).In base → base.Ns mainGlobals mg → FnG true l.prog w (K w.params) mg base CX0 k fa fd [x] (sp w))
    (hsp : ∀ (w : World) (H : Hp) (a : Addr) (ns : List Int), ns.length ≤ n → SqL (K w.params) H a (ns.map V.int) → sp w [.ref a] H (fun v _ => v = .bl true) fun _ _ _ => False) :
    PySem.W.WalkO q loose XP YP l.row.toRowW d [] (fun f vs => PySem.call f vs) :=
  Att.attach_call hn hdf fun w _ s1 mg mb fa _ _ _ _ a vs ns G Y _ _ _ hmg hobj hints hlen hg => by
    obtain ⟨fd, bind, R⟩ := F w mg fa _ (hY w _ Y) G.T.g hmg
    exact law_at (hY w _ Y) G.T.g G.T.b G.T.builtins G.T.nolimit hg hobj hints (Nat.le_trans hlen hn2) hr R bind fun H hS => hsp w H a ns hlen hS
theorem hu64 {k : Nat} {A : Around} (hr : Room k A) : A.units + 64 < cLine := by
  have := hr.un
  omega
abbrev tad (T : List (Addr × Str)) : List Addr := T.map (·.1)
/-- what a law of a script promises -/
def spLaw (K : PySem.W.Frag) (T : List (Addr × Str)) : Sp := fun vs H Q _ => ∃ (a : Addr) (ns : List Int), vs = [.ref a] ∧ SqL K H a (ns.map V.int) ∧ ns.length ≤ 63 ∧ LamX.Tabs T H ∧ ∀ H', Q (.bl true) H'
/-- what stands behind the pen's making -/
def lawE (n : Nat) : DW.Env := (List.replicate n Cell.un).set 1 (.dat .pen)
theorem law_data {g : Bool} {P : Program} {w : World} {K : PySem.W.Frag} {T : List (Addr × Str)} {mg : Str → Option Value} {base : Heap} {x qual : Str} {st : Stmt} {f : Addr} {fd : FuncData} {N : List Str} {k : Nat} {sc : Str} {wb : WS} (F : Fun K x qual st f fd) (S : FnScope N [sc] (defScope st)) (h2 : 2 ≤ N.length)
    {st0 : Stmt} {rest : List Stmt} (hb : defBody st = st0 :: rest)
    (h0 : ∀ (cdv : Value) (A : Around) (outer : List PySem.Env) (s : Shared) (H : Hp) (E : XK), Room k (A.deeper (envOfC qual (defScope st) s.heap.objs.size f cdv)) → PS (cxOf CX0 P w K mg base N qual (defScope st) f cdv A outer s H E).nox st0 (tAsg (tCall (spPen K) [] E0 (tCons (tVar 0) tNil)) (gName 1)))
    (d : ∀ (cdv : Value) (A : Around) (outer : List PySem.Env) (s : Shared) (H : Hp) (E : XK) (p : Option Addr) (cc : Addr) (B : List Addr) (H1 : Hp), Room k (A.deeper (envOfC qual (defScope st) s.heap.objs.size f cdv)) → (g = true → (A.deeper (envOfC qual (defScope st) s.heap.objs.size f cdv)).guards = some []) → fd.code = cdv → DSs (cxOf CX0 P w K mg base N qual (defScope st) f cdv A outer s H E).nox (c00 T p cc B H1) rest wb)
    (h : wb { nx := fun _ _ => False, rt := fun d _ => d = .bl true } (lawE N.length) 0)
    (u : ∀ (cdv : Value) (A : Around) (outer : List PySem.Env) (s : Shared) (H : Hp) (E : XK) (p : Option Addr) (cc : Addr) (B : List Addr) (H1 : Hp) hr hg (hcd : fd.code = cdv), (d cdv A outer s H E p cc B H1 hr hg hcd).t = (d cdv A outer s H E none 0 [] (fun _ => none) hr hg hcd).t := by intros; rfl) : FnG g P w K mg base CX0 (k + 1) f fd [sc] (spLaw K T) := by
  refine fnG_of F S (fun vs H Q E h => ?_) (fun cdv A outer s H vs Q E hr hg hcd hs => ?_)
  · obtain ⟨a, ns, rfl, _⟩ := h
    rfl
  · obtain ⟨a, ns, rfl, hS, hl, hT, kq⟩ := hs
    have hg2 : g = true → (A.deeper (envOfC qual (defScope st) s.heap.objs.size f cdv)).guards = some [] := hg
    rw [hb]
    refine ⟨_, PSs.nox (pss_cons (h0 cdv A outer s H E hr) (d cdv A outer s H E none 0 [] (fun _ => none) hr hg2 hcd).pe), ?_⟩
    have l0 : (L2.start N [V.ref a]) = (some (V.ref a)) :: List.replicate (N.length - 1) none := rfl
    have ls : (L2.start N [V.ref a]).length = N.length := by
      rw [l0, List.length_cons, List.length_replicate]
      omega
    refine ⟨.ref a, by rw [l0]; rfl, a, ns, rfl, hS, hl, fun q cc H' same hq hc qc PA => ?_⟩
    obtain ⟨ms, i, dg, ct, fd0, p1, p2, _⟩ := id PA.ex
    have tabs : LamX.Tabs T H' := hT.ext fun b o e => same b o e
    have G : Good K (c00 T (some q) cc (q :: cc :: tad T) H') (q :: cc :: tad T) (lawE N.length) 0 ((L2.start N [V.ref a]).set 1 (some (.ref q))) H' := by
      refine ⟨⟨fun b o _ e => e, fun b o _ e => e, ⟨fun q' e => by cases e; exact PA, tabs⟩, fun q' e => ?_, fun b hb => List.mem_cons_of_mem _ (List.mem_cons_of_mem _ hb), fun _ h => h, fun _ h => .inl h, fun b hb => ?_⟩, ?_, fun j kk e => ?_⟩
      · cases e
        exact ⟨List.mem_cons_self .., List.mem_cons_of_mem _ (List.mem_cons_self ..)⟩
      · rcases List.mem_cons.mp hb with z | z
        · rw [z]
          exact ⟨_, p1⟩
        · rcases List.mem_cons.mp z with z | z
          · rw [z]
            exact ⟨_, p2⟩
          · obtain ⟨y, hy, rfl⟩ := List.mem_map.mp z
            obtain ⟨ps, h1, _⟩ := tabs y hy
            exact ⟨_, h1⟩
      · unfold lawE
        rw [List.length_set, List.length_set, List.length_replicate, ls]
      · unfold lawE at e
        by_cases hj : 1 = j
        · subst hj
          rw [List.getElem?_set_self (by rw [List.length_replicate]; omega)] at e
          cases e
          exact ⟨.ref q, by rw [List.getElem?_set_self (by rw [ls]; omega)], .pen rfl⟩
        · rw [List.getElem?_set_ne hj, List.getElem?_replicate] at e
          split at e
          · cases e
            trivial
          · cases e
    rw [← u cdv A outer s H E (some q) cc (q :: cc :: tad T) H' hr hg2 hcd]
    refine (d cdv A outer s H E (some q) cc (q :: cc :: tad T) H' hr hg2 hcd).rd _ _ 0 _ H' G { nx := fun _ _ => False, rt := fun d _ => d = .bl true } _ h (fun _ _ _ _ _ _ _ z => z.elim) (fun v d A' m' H2 _ rv e => ?_) (fun _ _ _ _ _ _ _ z => z.elim) (fun _ _ _ _ _ _ _ z => z.elim)
    subst e
    cases rv
    exact kq H2
end DW

/-! DW12: what a law's own part of the heap says of its names, as facts that the kernel may reckon. -/
namespace DW
open PySem PySem.Spec L2
def adr (K : PySem.W.Frag) (x : Str) : Addr := match PySem.W.nsIn K mainGlobals x with
  | some (some (.ref a)) => a
  | _ => 0
def obK (K : PySem.W.Frag) (a : Addr) : Obj := (List.lookup a K).getD ⟨.none, none, .plain, #[]⟩
def fnK (K : PySem.W.Frag) (a : Addr) : FuncData := match (obK K a).data with
  | .func fd => fd
  | _ => default
def cdK (K : PySem.W.Frag) (a : Addr) : ClassData := match (obK K a).data with
  | .cls cd => cd
  | _ => default
def slK (K : PySem.W.Frag) (a : Addr) (i : Nat) : Option Value := ((obK K a).slots[i]?).getD none
abbrev fdK (K : PySem.W.Frag) (x qual : Str) (st : Stmt) (f : Addr) : FuncData := PySem.W.fnOf x qual (defArgs st) (defBody st) (defScope st) .none (fnK K f).kwdefaults (fnK K f).doc (fnK K f).pyModule (fnK K f).annotations (fnK K f).code (fnK K f).closureTuple
/-- the def st stands at f -/
abbrev FnAt (K : PySem.W.Frag) (x qual : Str) (st : Stmt) (f : Addr) : Prop := List.lookup f K = some ⟨(obK K f).cls, (obK K f).dict, .func (fdK K x qual st f), (obK K f).slots⟩
theorem funK {K : PySem.W.Frag} {x qual : Str} {st : Stmt} {f : Addr} (h : FnAt K x qual st f) (c : PySem.W.codeIn K (fnK K f).code qual = true) (k : PySem.W.keepIn K (.ref f) = true) : Fun K x qual st f (fdK K x qual st f) := fun_mk h c k
/-- a class over ValueError stands at C -/
abbrev ClsAt (K : PySem.W.Frag) (C : Addr) : Prop := List.lookup C K = some (excClassObj (cdK K C).name (cdK K C).qualname C (cdK K C).ns (cdK K C).bases (cdK K C).mro.tail true (cdK K C).slotNames (cdK K C).subclasses (cdK K C).abstract (cdK K C).collection (obK K C).dict (slK K C 0) (slK K C 1) (slK K C 2) (slK K C 3) (slK K C 5) "ValueError.__new__")
def oexB (K : PySem.W.Frag) (C : Addr) : Bool := PySem.HandSPX.refsVE (cdK K C).mro.tail && decide (PySem.W.findIn K (.ref C) "__setattr__" = some (some (.builtin "object.__setattr__"))) && decide (PySem.W.subIn K (.ref C) (.type "BaseException") = some true) && decide (PySem.W.typeIn K (.ref C) = some (.type "type")) && PySem.W.keepIn K (.ref C)
theorem oexK {K : PySem.W.Frag} {C : Addr} (h : ClsAt K C) (b : oexB K C = true) : OexC K C := by
  unfold oexB at b
  simp only [Bool.and_eq_true, decide_eq_true_eq] at b
  obtain ⟨⟨⟨⟨b1, b2⟩, b3⟩, b4⟩, b5⟩ := b
  exact ⟨⟨_, _, _, _, _, _, _, _, _, _, _, _, _, _, _, h, b1⟩, b2, b3, b4, b5⟩
def xcB (K : PySem.W.Frag) (C : Addr) : Bool := decide (PySem.W.findIn K (.ref C) "__getattribute__" = some (some (.builtin "BaseException.__getattribute__"))) && decide (PySem.W.findIn K (.ref C) "__getattr__" = some none) && decide (PySem.W.subIn K (.ref C) (.type "BaseException") = some true) && PySem.W.hasDictIn K C &&
  decide (PySem.W.findIn K (.ref C) "__class__" = some (some (.builtin "object.__class__"))) && decide (PySem.W.specialIn K (.builtin "object.__class__") "__get__" = some (some (.builtin "getset_descriptor.__get__"))) && decide (PySem.W.takesIn K (.builtin "object.__class__") = some true) && decide (PySem.W.mroIn K C (.type "object") = some true) && (PySem.W.clsIn K C).isSome
theorem xcK {K : PySem.W.Frag} {C : Addr} (b : xcB K C = true) : XC K C := by
  unfold xcB at b
  simp only [Bool.and_eq_true, decide_eq_true_eq] at b
  obtain ⟨⟨⟨⟨⟨⟨⟨⟨b1, b2⟩, b3⟩, b4⟩, b5⟩, b6⟩, b7⟩, b8⟩, b9⟩ := b
  exact ⟨b1, b2, b3, b4, b5, b6, b7, b8, b9⟩
/-- these names are bound to objects of the part, these to nothing -/
def nsB (K : PySem.W.Frag) (xs zs : List Str) : Bool := (xs.all fun x => decide (PySem.W.nsIn K mainGlobals x = some (some (.ref (adr K x))))) && zs.all fun z => decide (PySem.W.nsIn K mainGlobals z = some none)
theorem nsK {K : PySem.W.Frag} {xs zs : List Str} {h : Heap} {mg : Str → Option Value} (b : nsB K xs zs = true) (X : K.In h) (G : h.Ns mainGlobals mg) : (∀ x ∈ xs, mg x = some (.ref (adr K x))) ∧ ∀ z ∈ zs, mg z = none := by
  unfold nsB at b
  rw [Bool.and_eq_true, List.all_eq_true, List.all_eq_true] at b
  exact ⟨fun x hx => PySem.W.mg_of X G (of_decide_eq_true (b.1 x hx)), fun z hz => PySem.W.mg_none_of X G (of_decide_eq_true (b.2 z hz))⟩
/-- these defs' records -/
def fnB (K : PySem.W.Frag) (xs : List Str) : Bool := xs.all fun x => PySem.W.codeIn K (fnK K (adr K x)).code x && PySem.W.keepIn K (.ref (adr K x))
theorem fnB_at {K : PySem.W.Frag} {xs : List Str} (b : fnB K xs = true) {x : Str} (hx : x ∈ xs) : PySem.W.codeIn K (fnK K (adr K x)).code x = true ∧ PySem.W.keepIn K (.ref (adr K x)) = true := by
  have := List.all_eq_true.mp b x hx
  rwa [Bool.and_eq_true] at this
def iniA (K : PySem.W.Frag) (C : Addr) (m : Str) : Addr := match PySem.W.findIn K (.ref C) m with
  | some (some (.ref a)) => a
  | _ => 0
/-- a class's method -/
def mtB (K : PySem.W.Frag) (C : Addr) (m qual : Str) : Bool := decide (PySem.W.findIn K (.ref C) m = some (some (.ref (iniA K C m)))) && decide (PySem.W.typeIn K (.ref (iniA K C m)) = some (.type "function")) && PySem.W.codeIn K (fnK K (iniA K C m)).code qual && PySem.W.keepIn K (.ref (iniA K C m))
theorem mtK {K : PySem.W.Frag} {C : Addr} {m qual : Str} (b : mtB K C m qual = true) : PySem.W.findIn K (.ref C) m = some (some (.ref (iniA K C m))) ∧ PySem.W.typeIn K (.ref (iniA K C m)) = some (.type "function") ∧ PySem.W.codeIn K (fnK K (iniA K C m)).code qual = true ∧ PySem.W.keepIn K (.ref (iniA K C m)) = true := by
  unfold mtB at b
  simp only [Bool.and_eq_true, decide_eq_true_eq] at b
  exact ⟨b.1.1.1, b.1.1.2, b.1.2, b.2⟩
end DW

/-! DW13: instances of own classes: fields, __init__, making; dicts with texts as keys. -/
namespace DW
open PySem PySem.Spec L2
section
variable {X : Cx} {c : C0} {e a b : Expr} {es : List Expr} {wa wb we : WE} {x : Str} {p pos pos' : Pos} {K : PySem.W.Frag}
/-! ### fields -/
def wFld (K : PySem.W.Frag) (f : Str) (wa : WE) : WE := fun ρ m Q => wa ρ m fun d m1 => ∃ C fs v, d = .obj C fs ∧ Cls K C ∧ NoAttr K C f ∧ fs.lookup f = some v ∧ Q v m1
theorem rd_fld {ta : TE} {f : Str} (hK : X.K = K) (h : RdE X.K c ta wa) : RdE X.K c (tFld X.K ta f) (wFld K f wa) := by
  subst hK
  intro A ρ m σ H G Q Qv hw k
  refine h A ρ m σ H G _ _ hw fun v d m1 H1 G1 k1 r1 q1 => ?_
  obtain ⟨C, fs, y, rfl, hC, hf, hl, q⟩ := q1
  cases r1 with
  | obj ea rf =>
    obtain ⟨u, hu, ru⟩ := rf.look hl
    exact ⟨_, C, _, _, u, rfl, (cut_some ea).2, hC, hf, hu, k u y m1 H1 G1 k1 ru q⟩
def de_fld {f : Str} (hK : X.K = K) (h : DE X c e wa) (hb : attributeBase e f X.env (eval e X.env) = eval e X.env := by rfl) : DE X c (.Attribute e f pos) (wFld K f wa) := ⟨_, pe_fld h.pe hb, rd_fld hK h.rd⟩
/-- self.f = e, self an instance that is being made -/
def putD (f : Str) (v : D) : List (Str × D) → List (Str × D)
  | [] => [(f, v)]
  | (g, x) :: r => if g = f then (g, v) :: r else (g, x) :: putD f v r
theorem RepF.put {p : Option Addr} {K : PySem.W.Frag} {H : Hp} {f : Str} {v : V} {d : D} (h : Rep p K H v d) : ∀ {gs : List (Str × V)} {fs : List (Str × D)}, RepF p K H gs fs → RepF p K H (putF f v gs) (putD f d fs)
  | _, _, .nil => .cons h .nil
  | _, _, .cons (f := g) q r => by
    unfold putF putD
    by_cases e : g = f
    · rw [if_pos e, if_pos e]
      exact .cons h r
    · rw [if_neg e, if_neg e]
      exact .cons q (RepF.put h r)
theorem RepF.len {p : Option Addr} {K : PySem.W.Frag} {H : Hp} : ∀ {gs : List (Str × V)} {fs : List (Str × D)}, RepF p K H gs fs → gs.length = fs.length
  | _, _, .nil => rfl
  | _, _, .cons _ r => congrArg (· + 1) (RepF.len r)
def wSto (K : PySem.W.Frag) (i : Nat) (f : Str) (we : WE) : WS := fun P ρ m => we ρ m fun d m1 => match ρ[i]? with
  | some (.own (.ins x C fs)) => Cls K C ∧ NoAttr K C f ∧ fs.length < 1000 ∧ P.nx (ρ.set i (.own (.ins x C (putD f d fs)))) m1
  | _ => False
theorem rd_sto {i : Nat} {te : TE} {f : Str} (hK : X.K = K) (h : RdE X.K c te we) : RdS X.K c (sFld X.K (tVar i) te f) (wSto K i f we) := by
  subst hK
  intro A ρ m σ H G P F hw n rt bk ct
  refine h A ρ m σ H G _ _ hw fun v d m1 H1 G1 k1 r1 q1 => ?_
  split at q1
  · rename_i x C fs e1
    obtain ⟨hC, hf, hl, q⟩ := q1
    obtain ⟨l, u, h1, h2, h3, h4, h5, h6⟩ := G1.cell i _ e1
    cases h5 with | ins r5 =>
    refine ⟨_, h1, _, C, _, _, rfl, h4, hC, hf, by rw [r5.len]; exact hl, ?_⟩
    refine n A _ m1 σ _ (G1.chg e1 h1 (.ins (r5.put r1))) ⟨fun b o nb e => ?_, fun a h => .inl h⟩ q
    have nl : b ≠ x := fun z => nb (by rw [z]; exact h2)
    rw [upd_ne nl]
    exact k1.grow G.toBase b o nb e
  · cases q1
def ds_sto {i : Nat} {y f : Str} {p' : Pos} (hK : X.K = K) (hN : X.N[i]? = some y) (hv : Vis X.env.scope y) (h : DE X c e we) (hd : (y == ("__debug__" : Str)) = false := by decide) (hcd : (y == ("__classdict__" : Str)) = false := by decide)
    (hs : swapsWith e (some (.Attribute (.Name y p) f pos')) pos.line X.env = pure false := by rfl) : DS X c (.Assign [.Attribute (.Name y p) f pos'] e pos) (wSto K i f we) := ⟨_, ps_fld (pe_var hN hv hd hcd) h.pe hs, rd_sto hK h.rd⟩

/-! ### __init__ -/
abbrev FI := List D → Nat → (List (Str × D) → Nat → Prop) → Prop
/-- what an __init__ promises: the instance's fields, by data -/
def spI (K : PySem.W.Frag) (T : List (Addr × Str)) (C : Addr) (fi : FI) : Sp := fun vs H Q _ => ∃ (x dx : Addr) (H0 : Hp) (us : List V) (p : Option Addr) (cc : Addr) (A : List Addr) (ds : List D) (m : Nat) (R : List (Str × D) → Nat → Prop), vs = .ref x :: us ∧ H0 x = none ∧ H0 dx = none ∧ dx ≠ x ∧ H = upd (upd H0 dx (.own x)) x (.ins C dx []) ∧
  RepA p K (cut A H0) us ds ∧ Ctx T p cc A m H0 ∧ fi ds m R ∧
  ∀ gs fs dx' m' H', (∀ b o, ¬ VolP T p b → H0 b = some o → H' b = some o) → Amb T p cc m' H' → H' x = some (.ins C dx' gs) → RepF p K (cut A H') gs fs → R fs m' → Q .non H'
def iniE (n : Nat) (x C : Addr) (ds : List D) : DW.Env := .own (.ins x C []) :: (ds.map Cell.dat ++ List.replicate (n - (ds.length + 1)) Cell.un)
theorem init_data {P : Program} {w : World} {K : PySem.W.Frag} {T : List (Addr × Str)} {mg : Str → Option Value} {base : Heap} {qual : Str} {st : Stmt} {f : Addr} {fd : FuncData} {N : List Str} {s0 : Str} {ps : List Str} {C : Addr} {k : Nat} {fi : FI} {wb : WS} (F : Fun K "__init__" qual st f fd) (S : FnScope N (s0 :: ps) (defScope st)) (hlen : ∀ ds m Q, fi ds m Q → ds.length = ps.length)
    (hbody : ∀ (cdv : Value) (A : Around) (outer : List PySem.Env) (s : Shared) (H : Hp) (E : XK) (p : Option Addr) (cc : Addr) (B : List Addr) (H0 : Hp), Room k (A.deeper (PyProof.Rows.envOfC qual (defScope st) s.heap.objs.size f cdv)) → fd.code = cdv → DSs (cxOf CX0 P w K mg base N qual (defScope st) f cdv A outer s H E).nox (c00 T p cc B H0) (defBody st) wb)
    (h : ∀ x ds m Q, fi ds m Q → wb { nx := fun ρ m => ∃ fs, ρ[0]? = some (.own (.ins x C fs)) ∧ Q fs m, rt := fun _ _ => False } (iniE N.length x C ds) m) :
    FnOk P w K mg base CX0 (k + 1) f fd (s0 :: ps) (spI K T C fi) := by
  refine FnG.ok (fnG_of (g := false) F S (fun vs H Q E h => ?_) fun cdv A outer s H vs Q E hr _ hcd hs => ?_)
  · obtain ⟨x, dx, H0, us, p, cc, A, ds, m, R, rfl, _, _, _, _, r, _, hf, _⟩ := h
    rw [List.length_cons, r.length, hlen _ _ _ hf]
    rfl
  · obtain ⟨x, dx, H0, us, p, cc, B, ds, m, R, rfl, nx, ndx, nd, rfl, r, cx, hf, kq⟩ := hs
    have d := hbody cdv A outer s (upd (upd H0 dx (.own x)) x (.ins C dx [])) E p cc B H0 hr hcd
    refine ⟨_, PSs.nox d.pe, ?_⟩
    have nxB : x ∉ B := fun z => by
      obtain ⟨o, e⟩ := cx.thr x z
      rw [nx] at e
      cases e
    have ex : Ext H0 (upd (upd H0 dx (.own x)) x (.ins C dx [])) := fun b o e => by
      rw [upd_ne (ne_of_none e nx), upd_ne (ne_of_none e ndx)]
      exact e
    have exB : Ext (cut B H0) (cut (x :: B) (upd (upd H0 dx (.own x)) x (.ins C dx []))) := fun b o e => by
      obtain ⟨n, z⟩ := cut_some e
      exact cut_of (fun q => (List.mem_cons.mp q).elim (ne_of_none z nx) n) (ex b o z)
    have hl := r.length
    have es : L2.start N (V.ref x :: us) = some (.ref x) :: (us.map some ++ List.replicate (N.length - (us.length + 1)) none) := rfl
    have G : Good K ⟨⟨T, p, cc, B, H0⟩, H0, none⟩ (x :: B) (iniE N.length x C ds) m (L2.start N (V.ref x :: us)) (upd (upd H0 dx (.own x)) x (.ins C dx [])) := by
      refine ⟨⟨fun b o _ e => ex b o e, fun b o _ e => ex b o e, cx.am.keep ex, cx.pin, cx.tin, fun a h => List.mem_cons_of_mem _ h, fun a h => ?_, fun a h => ?_⟩, ?_, fun i k e => ?_⟩
      · rcases List.mem_cons.mp h with z | z
        · rw [z]
          exact .inr ⟨nx, nx⟩
        · exact .inl z
      · rcases List.mem_cons.mp h with z | z
        · rw [z]
          exact ⟨_, upd_same⟩
        · obtain ⟨o, e⟩ := cx.thr a z
          exact ⟨o, ex a o e⟩
      · rw [es]
        unfold iniE
        simp [hl]
      · rw [es]
        unfold iniE at e ⊢
        cases i with
        | zero =>
          cases e
          refine ⟨x, _, rfl, List.mem_cons_self .., nxB, upd_same, .ins .nil, fun j o n e2 => ?_⟩
          cases j with
          | zero => exact absurd rfl n
          | succ j =>
            rw [List.getElem?_cons_succ] at e2
            by_cases hj : j < ds.length
            · rw [List.getElem?_append_left (by simpa using hj), List.getElem?_map, List.getElem?_eq_getElem hj] at e2
              cases e2
            · rw [List.getElem?_append_right (by simpa using hj), List.getElem?_replicate] at e2
              split at e2 <;> cases e2
        | succ i =>
          rw [List.getElem?_cons_succ] at e
          by_cases hi : i < ds.length
          · rw [List.getElem?_append_left (by simpa using hi), List.getElem?_map, List.getElem?_eq_getElem hi] at e
            have e' : Cell.dat ds[i] = k := by simpa using e
            subst e'
            obtain ⟨v, h1, h2⟩ := r.get (List.getElem?_eq_getElem hi)
            refine ⟨v, ?_, h2.ext exB⟩
            rw [List.getElem?_cons_succ, List.getElem?_append_left (by rw [List.length_map, hl]; exact hi), List.getElem?_map, h1]
            rfl
          · rw [List.getElem?_append_right (by simpa using hi), List.getElem?_replicate] at e
            split at e
            · cases e
              trivial
            · cases e
    refine d.rd (x :: B) _ m _ _ G { nx := fun ρ m => ∃ fs, ρ[0]? = some (.own (.ins x C fs)) ∧ R fs m, rt := fun _ _ => False } _ (h x ds m R hf) (fun A' ρ' m' σ' H' G' _ ⟨fs, e0, q⟩ => ?_) (fun _ _ _ _ _ _ _ z => z.elim) (fun _ _ _ _ _ _ _ z => z.elim) (fun _ _ _ _ _ _ _ z => z.elim)
    obtain ⟨l, u, h1, h2, h3, h4, h5, h6⟩ := G'.cell 0 _ e0
    cases h5 with | ins r5 =>
    exact kq _ fs _ m' H' G'.ex G'.am h4 (r5.ext (cut_sub G'.sub)) q
/-- such a class -/
structure MkI (P : Program) (w : World) (K : PySem.W.Frag) (T : List (Addr × Str)) (mg : Str → Option Value) (base : Heap) (k : Nat) (x : Str) (C : Addr) (fi : FI) : Prop where
  ex : ∃ (fI : Addr) (fd : FuncData) (ps : List Str), Mk K C fI ∧ FnOk P w K mg base CX0 k fI fd ps (spI K T C fi) ∧ Binds K fd ps []
  mg : mg x = some (.ref C)
def wMkI (C : Addr) (fi : FI) (wr : WA) : WE := fun ρ m Q => wr ρ m fun ds m1 => fi ds m1 fun fs m2 => Q (.obj C fs) m2
def de_mkI {wr : WA} {j k : Nat} {C : Addr} {fi : FI} (M : MkI X.prog X.w X.K c.T X.mg X.base k x C fi) (hr : Room j X.A) (hj : k + 1 ≤ j) (hg : Gl X x) (ha : DA X c (e :: es) wr)
    (hdb : (x == ("__debug__" : Str)) = false := by decide) (he : starEach (e :: es) X.env = (false, eval e X.env) :: starEach es X.env := by rfl) (hpl : (backTo pos (starEach es X.env)).any (·.1) = false := by rfl) : DE X c (.Call (.Name x p) (e :: es) [] pos) (wMkI C fi wr) :=
  ⟨tMake C (spI X.K c.T C fi) [] E0 ha.t, by
    obtain ⟨fI, fd, ps, h1, h2, h3⟩ := M.ex
    exact pe_make h1 h2 (hr.mono hj) hg M.mg h3 .nil pass0 ha.pe hdb he hpl, fun A ρ m σ H G Q Qv hw k => ha.rd A ρ m σ H G _ _ hw fun vs ds m1 H1 G1 k1 r1 q1 => by
    intro x dx nx ndx nd
    rw [List.append_nil]
    refine ⟨x, dx, H1, vs, c.p, c.cc, A, ds, m1, fun fs m2 => Q (.obj C fs) m2, rfl, nx, ndx, nd, rfl, r1, G1.ctx, q1, fun gs fs dx' m' H' kp pn ea rf q => ⟨rfl, ?_⟩⟩
    exact k _ _ m' H' (G1.step kp pn) (k1.trans kp) (.obj (cut_of (G1.notin nx) ea) rf) q⟩
end
end DW

/-! DW14: dicts with texts as keys: written out, read. -/
namespace DW
open PySem PySem.Spec PySem.Calls L2 PyProof.Rows
section
variable {X : Cx} {c : C0} {e a b : Expr} {es : List Expr} {wa wb we : WE} {pos : Pos}
def rIxG : R2 := fun x y H Q => ∃ p z, x = V.ref p ∧ DGet H p y (some z) ∧ Q z H
theorem ix_dct (hu : X.A.units + 1 < cLine) : IxR X rIxG := by
  intro val sl pins s σ H x y v u Q I rx ry ⟨p, z, ex, g, q⟩ plain
  subst ex
  cases rx
  have isD := dict_typeIs I g
  have got : wpAny (model X.prog X.w) X.A (getItem (.ref p) u) (fun r s' => EP X pins σ Q r s') X.xe s := d_getItem hu I g ry fun w' s' J rw' => ⟨z, H, J, rw', q⟩
  have done : wpAny (model X.prog X.w) X.A (subscripted sl false (.ref p) u) (fun r s' => wpAny (model X.prog X.w) X.A (do letTemporaryGo val (.ref p) r; pure r) (EP X pins σ Q) X.xe s') X.xe s := by
    rw [plain]
    refine wpAny_operating (wpAny_mono got (fun r s' h => ?_) fun _ _ h => h)
    exact wpAny_bind (wpAny_letTemporaryGo (wpAny_pure h))
  unfold subscriptTail
  apply wpAny_bind
  rw [getitemInPython_of_ne isD.not_modules]
  apply wpAny_bind
  refine wpAny_specialOf isD PySem.F.slot_dict_getitem.lookup ?_
  first | exact wpAny_pure (wpAny_bind done) | exact wpAny_bind (wpAny_pure (wpAny_bind done)) | exact wpAny_bind done
def itemK : D → D → (D → Prop) → Prop
  | .dct fs, .str x, Q => ∃ d, fs.lookup x = some d ∧ Q d
  | _, _, _ => False
theorem valV_inr {fs : List (Str × V)} {x : Str} {v : V} : fs.lookup x = some v → valV (inrK fs) (Sum.inr x : Key) = some v := by
  induction fs with
  | nil => intro h; cases h
  | cons p r ih =>
    obtain ⟨y, w⟩ := p
    intro h
    by_cases e : x = y
    · subst e
      simp [List.lookup] at h
      subst h
      exact valV_pos rfl
    · have e' : (x == y) = false := by simpa using e
      simp [List.lookup, e'] at h
      have n : ¬ ((Sum.inr y : Key) = Sum.inr x) := fun z => e (Sum.inr.inj z).symm
      have := ih h
      simp only [inrK, List.map_cons, valV, List.find?_cons] at this ⊢
      rw [decide_eq_false n]
      exact this
theorem rd_itemK {K : PySem.W.Frag} : RdOp K c rIxG itemK := fun A ρ m σ H G x y d e rx ry Q Qv h k => by
  unfold itemK at h
  split at h
  · obtain ⟨d1, h1, q⟩ := h
    cases ry
    cases rx with
    | dct h2 r2 =>
      obtain ⟨v, h3, r3⟩ := r2.look h1
      exact ⟨_, v, rfl, dget (cut_some h2).2 (valV_inr h3), k _ _ H G Keep.refl r3 q⟩
  · cases h
def itemA (d e : D) (Q : D → Prop) : Prop := itemD d e Q ∨ itemK d e Q
/-- a[b], a a list, a tuple, a dict -/
def de_sub2 {k : Nat} (hr : Room k X.A) (ha : DE X c a wa) (hb : DE X c b wb) (hs : PlainIx b) : DE X c (.Subscript a b pos) (wOp itemA wa wb) := by
  obtain ⟨ta, pa, ra⟩ := ha
  obtain ⟨tb, pb, rb⟩ := hb
  exact ⟨_, pe_ix (ix_seq.or (ix_dct (hu_of hr))) pa pb hs, rdE_op ra rb (RdOp.or rd_item rd_itemK fun _ _ _ h => h)⟩

/-! ### {'x': e, ..} -/
structure DP (X : Cx) (c : C0) (pos : Pos) (keys : List (Option Expr)) (es : List Expr) (ns : List Str) (w : WA) where
  t : List (TE × TE)
  pe : PPs X pos keys es t
  rd : ∀ A ρ m σ H, Good X.K c A ρ m σ H → ∀ (Q : List D → Nat → Prop) (Qv : List (V × V) → Hp → Prop), w ρ m Q →
    (∀ vs ds m' H', Good X.K c A ρ m' σ H' → Keep c H H' → RepA c.p X.K (cut A H') vs ds → vs.length = ns.length → Q ds m' → Qv ((ns.zip vs).map fun f => (V.str f.1, f.2)) H') → tPairs t σ H Qv
def dp_nil : DP X c pos [] [] [] wNil := ⟨[], pps_nil, fun A ρ m σ H G Q Qv hw k => k [] [] m H G Keep.refl .nil rfl hw⟩
def dp_cons {x : Str} {j p1} {keys : List (Option Expr)} {ns : List Str} {w : WA} (h : DE X c e we) (r : DP X c pos keys es ns w) : DP X c pos (some (.Constant (.str x) j p1) :: keys) (e :: es) (x :: ns) (wCons we w) :=
  ⟨(tC (.str x), h.t) :: r.t, pps_cons pe_str h.pe r.pe, fun A ρ m σ H G Q Qv hw k => h.rd A ρ m σ H G _ _ hw fun v d m1 H1 G1 k1 r1 q1 => by
    refine r.rd A ρ m1 σ H1 G1 _ _ q1 fun vs ds m2 H2 G2 k2 r2 l2 q2 => ?_
    exact k (v :: vs) (d :: ds) m2 H2 G2 (k1.trans k2) (.cons (r1.ext (k2.grow G1.toBase).cut) r2) (congrArg (· + 1) l2) q2⟩
theorem merge_new : ∀ (more acc : List (Str × V)), ((acc ++ more).map (·.1)).Nodup → mergeK (inrK acc) (inrK more) = inrK (acc ++ more)
  | [], acc, _ => by
    rw [List.append_nil]
    rfl
  | f :: r, acc, h => by
    have e : putK (inrK acc) (Sum.inr f.1 : Key) f.2 = inrK (acc ++ [f]) := by
      unfold putK
      have n : ¬ ((inrK acc).any fun kv => decide (kv.1 = (Sum.inr f.1 : Key))) = true := by
        intro z
        obtain ⟨kv, hk, hz⟩ := List.any_eq_true.mp z
        obtain ⟨g, hg, rfl⟩ := List.mem_map.mp hk
        have hz' : g.1 = f.1 := Sum.inr.inj (of_decide_eq_true hz)
        rw [List.map_append, List.nodup_append] at h
        exact h.2.2 g.1 (List.mem_map_of_mem hg) f.1 (by simp) hz'
      rw [if_neg n]
      unfold inrK
      rw [List.map_append]
      rfl
    have e2 : mergeK (inrK acc) (inrK (f :: r)) = mergeK (putK (inrK acc) (Sum.inr f.1 : Key) f.2) (inrK r) := rfl
    rw [e2, e, merge_new r (acc ++ [f]) (by rw [List.append_assoc]; exact h), List.append_assoc]
    rfl
def wDct (ns : List Str) (w : WA) : WE := fun ρ m Q => w ρ m fun ds m1 => Q (.dct (ns.zip ds)) m1
def de_dct {keys : List (Option Expr)} {ns : List Str} {w : WA} (h : DP X c pos keys es ns w) (hn : ns.Nodup) (hl : ns.length ≤ 15) (ha : keys.all (·.isSome) = true := by rfl) (hk : keys.length = es.length := by rfl) (h0 : keys ≠ [] := by exact fun z => nomatch z) (h15 : keys.length ≤ 15 := by decide) : DE X c (.Dict keys es pos) (wDct ns w) :=
  ⟨tDisp h.t, pe_disp h.pe ha hk h0 h15, fun A ρ m σ H G Q Qv hw k => fun p hp => by
    have na := G.notin hp
    have G1 : Good X.K c (p :: A) ρ m σ (upd H p (.dK [])) := G.take hp
    refine h.rd (p :: A) ρ m σ _ G1 _ _ hw fun vs ds m' H2 G2 k2 r2 l2 q2 => ?_
    have pA : ¬ c.Vol p := fun z => na (G.sub _ (G.vin z))
    refine ⟨k2 p _ pA upd_same, inrK (ns.zip vs), by unfold inrK; rw [List.map_map]; rfl, by unfold inrK; rw [List.length_map, List.length_zip]; omega, ?_⟩
    have mg : mergeK [] (inrK (ns.zip vs)) = inrK (ns.zip vs) := by
      have := merge_new (ns.zip vs) [] (by rw [List.nil_append, List.map_fst_zip (Nat.le_of_eq l2.symm)]; exact hn)
      exact this
    rw [mg]
    have un : ∀ (i : Nat) (o : Own), ρ[i]? = some (Cell.own o) → σ[i]? ≠ some (some (V.ref p)) := own_ne G na
    have G3 : Good X.K c (p :: A) ρ m' σ (upd H2 p (.dK (inrK (ns.zip vs)))) := G2.mut (List.mem_cons_self ..) (fun z => na (G.sub p z)) (k2 p _ pA upd_same) (fun _ z => nomatch z) un
    have G4 := G3.drop G.sub un
    have e3 : Ext (cut (p :: A) H2) (cut A (upd H2 p (.dK (inrK (ns.zip vs))))) := fun b o hb => by
      obtain ⟨n, z⟩ := cut_some hb
      have nb : b ≠ p := fun y => n (by rw [y]; exact List.mem_cons_self ..)
      exact cut_of (fun y => n (List.mem_cons_of_mem _ y)) (by rw [upd_ne nb]; exact z)
    refine k (.ref p) _ m' _ G4 (fun b o nb hb => ?_) (.dct (cut_of na upd_same) (RepF.zip ns (r2.ext e3))) q2
    have bp : b ≠ p := ne_of_none hb hp
    rw [upd_ne bp]
    exact k2 b o nb (by rw [upd_ne bp]; exact hb)⟩
end
end DW

/-! DW15: what raises: raise, calls that may let an exception out, defs that do. -/
namespace DW
open PySem PySem.Spec L2
/-- an exception on its way: its class, its fields -/
def ExcR (p : Option Addr) (K : PySem.W.Frag) (H : Hp) (cls : Value) (d : Option Addr) (C : Addr) (fs : List (Str × D)) : Prop := cls = .ref C ∧ ((d = none ∧ fs = []) ∨ ∃ dd gs, d = some dd ∧ H dd = some (.xd gs) ∧ RepF p K H gs fs)
theorem ExcR.ext {p : Option Addr} {K : PySem.W.Frag} {H H' : Hp} {cls : Value} {d : Option Addr} {C : Addr} {fs : List (Str × D)} (h : ExcR p K H cls d C fs) (e : Ext H H') : ExcR p K H' cls d C fs := by
  obtain ⟨h1, h2⟩ := h
  refine ⟨h1, h2.imp id fun ⟨dd, gs, a, b, r⟩ => ⟨dd, gs, a, e _ _ b, r.ext e⟩⟩
/-- what is wished of an exception, over data: its class, its fields, the locals, the draws -/
abbrev WD := Addr → List (Str × D) → DW.Env → Nat → Prop
def RelW (K : PySem.W.Frag) (c : C0) (W : WX) (wx : WD) : Prop := ∀ A ρ m σ H, Good K c A ρ m σ H → ∀ cls d C fs, ExcR c.p K (cut A H) cls d C fs → wx C fs ρ m → W cls d σ H
abbrev FWX := List D → Nat → (D → Nat → Prop) → (Addr → List (Str × D) → Nat → Prop) → Prop
def spDX (K : PySem.W.Frag) (T : List (Addr × Str)) (fw : FWX) : Sp := fun vs H Q E => ∃ (p : Option Addr) (cc : Addr) (A : List Addr) (ds : List D) (m : Nat) (R : D → Nat → Prop) (RX : Addr → List (Str × D) → Nat → Prop), RepA p K (cut A H) vs ds ∧ Ctx T p cc A m H ∧ fw ds m R RX ∧
  (∀ v d m' H', (∀ b o, ¬ VolP T p b → H b = some o → H' b = some o) → Amb T p cc m' H' → Rep p K (cut A H') v d → R d m' → Q v H') ∧
  (∀ cls d C fs m' H', (∀ b o, ¬ VolP T p b → H b = some o → H' b = some o) → Amb T p cc m' H' → ExcR p K (cut A H') cls d C fs → RX C fs m' → E cls d H')
structure DFnX (P : Program) (w : World) (K : PySem.W.Frag) (T : List (Addr × Str)) (mg : Str → Option Value) (base : Heap) (k : Nat) (x : Str) (fw : FWX) : Prop where
  ex : ∃ (f : Addr) (fd : FuncData) (ps : List Str), FnOk P w K mg base (L2.CX P w) k f fd ps (spDX K T fw) ∧ mg x = some (.ref f) ∧ PySem.W.keepIn K (.ref f) = true ∧ Binds K fd ps []
section
variable {X : Cx} {c : C0} {e : Expr} {es : List Expr} {x : Str} {p pos : Pos} {W : WX} {wx : WD}
/-- a statement that is never come to -/
def ds_never {st : Stmt} : DS X c st (fun _ _ _ => False) := ⟨fun _ _ _ => False, ⟨fun _ _ _ _ _ _ h => h.elim⟩, fun _ _ _ _ _ _ _ _ h => h.elim⟩
def dss_never {sts : List Stmt} : DSs X c sts (fun _ _ _ => False) := ⟨fun _ _ _ => False, ⟨fun _ _ _ _ _ _ h => h.elim⟩, fun _ _ _ _ _ _ _ _ h => h.elim⟩
def wCallX (wx : WD) (fw : FWX) (wr : WA) : WE := fun ρ m Q => wr ρ m fun ds m1 => fw ds m1 Q fun C fs m2 => wx C fs ρ m2
theorem rd_callX {fw : FWX} {t : TA} {wr : WA} (hW : RelW X.K c W wx) (rr : RdA X.K c t wr) : RdE X.K c (tCallS (spDX X.K c.T fw) (L2.WE W) t) (wCallX wx fw wr) := fun A ρ m σ H G Q Qv hw k => by
  refine rr A ρ m σ H G _ _ hw fun vs ds m1 H1 G1 k1 r1 q1 => ?_
  refine ⟨c.p, c.cc, A, ds, m1, Q, fun C fs m2 => wx C fs ρ m2, r1, G1.ctx, q1, fun v d m' H' kp pn rep q => ?_, fun cls d C fs m' H' kp pn xr q => ?_⟩
  · exact k v d m' H' (G1.step kp pn) (k1.trans kp) rep q
  · exact hW A ρ m' σ H' (G1.step kp pn) cls d C fs xr q
def de_callX {j k : Nat} {fw : FWX} {wr : WA} (F : DFnX X.prog X.w X.K c.T X.mg X.base k x fw) (tk : Takes X W) (hW : RelW X.K c W wx) (hr : Room j X.A) (hk : k ≤ j) (hg : Gl X x) (ha : DA X c (e :: es) wr)
    (hdb : (x == ("__debug__" : Str)) = false := by decide) (he : starEach (e :: es) X.env = (false, eval e X.env) :: starEach es X.env := by rfl) (hpl : (backTo pos (starEach es X.env)).any (·.1) = false := by rfl) : DE X c (.Call (.Name x p) (e :: es) [] pos) (wCallX wx fw wr) :=
  ⟨tCallS (spDX X.K c.T fw) (L2.WE W) ha.t, by
    obtain ⟨f, fd, ps, h1, h2, h3, h4⟩ := F.ex
    exact pe_callS h1 (hr.mono hk) hg h2 h3 h4 (fun σ => passAt tk σ) ha.pe hdb he hpl, rd_callX hW ha.rd⟩
/-- raise C(..), C an own class whose __init__ keeps its arguments -/
def wRaise (wx : WD) (C : Addr) (ns : List Str) (wr : WA) : WS := fun _ ρ m => wr ρ m fun ds m1 => ds.length = ns.length ∧ wx C (ns.zip ds).reverse ρ m1
theorem rd_raise {C : Addr} {ns : List Str} {ta : TA} {wr : WA} (hW : RelW X.K c W wx) (hle : ns.length ≤ 1000) (rr : RdA X.K c ta wr) : RdS X.K c (fun _ σ H => tMkO C (spX C ns) [] ta σ H fun cls d H' => W cls d σ H') (wRaise wx C ns wr) := fun A ρ m σ H G P F hw n rt bk ct => by
  refine rr A ρ m σ H G _ _ hw fun vs ds m1 H1 G1 k1 r1 q1 => ?_
  have hl := r1.length
  refine ⟨by rw [hl, q1.1]; exact hle, fun a hna => ⟨a, vs, by rw [List.append_nil], by rw [hl, q1.1], upd_same, fun d H' hda hnd h1 h2 h3 => ⟨rfl, d, _, h1, h2, by rwa [upd_ne hda] at hnd, ?_⟩⟩⟩
  have hnd1 : H1 d = none := by rwa [upd_ne hda] at hnd
  have ext : Ext H1 (upd (L2.del H' a) d (.xd (ns.zip vs).reverse)) := fun b o e => by
    have ba := ne_of_none e hna
    have bd := ne_of_none e hnd1
    rw [upd_ne bd, L2.del_ne ba, h3 b ba bd, upd_ne ba]
    exact e
  have G2 := G1.ext ext
  refine hW A ρ m1 σ _ G2 _ _ C (ns.zip ds).reverse ⟨rfl, .inr ⟨d, _, rfl, cut_of (G1.notin hnd1) upd_same, (RepF.zip ns r1).reverse.ext ?_⟩⟩ q1.2
  intro b o hb
  obtain ⟨nb, z⟩ := cut_some hb
  exact cut_of nb (ext b o z)
def ds_raise {C : Addr} {j : Nat} {ns : List Str} {wr : WA} {p2 : Pos} (M : MkX X.prog X.w X.K X.mg X.base x C ns) (hc : X.calm = true) (tk : Takes X W) (hW : RelW X.K c W wx) (hr : Room j X.A) (hj : 2 ≤ j) (hg : Gl X x) (ha : DA X c (e :: es) wr)
    (hdb : (x == ("__debug__" : Str)) = false := by decide) (he : starEach (e :: es) X.env = (false, eval e X.env) :: starEach es X.env := by rfl) (hpl : (backTo pos (starEach es X.env)).any (·.1) = false := by rfl) : DS X c (.Raise (some (.Call (.Name x p) (e :: es) [] pos)) none p2) (wRaise wx C ns wr) :=
  ⟨fun _ σ H => tMkO C (spX C ns) [] ha.t σ H fun cls d H' => W cls d σ H', by
    obtain ⟨fI, fd, ps, h1, h2, h3, h4⟩ := M.ex
    exact ps_raise hc tk (pmk_oex (k := 1) M.T h1 h2 h3 (hr.mono hj) h4 .nil pass0 hg M.mg ha.pe hdb he hpl), rd_raise hW M.le ha.rd⟩
end
/-- a def that may let an exception out -/
theorem fn_dataX {P : Program} {w : World} {K : PySem.W.Frag} {T : List (Addr × Str)} {mg : Str → Option Value} {base : Heap} {x qual : Str} {st : Stmt} {f : Addr} {fd : FuncData} {N ps : List Str} {k : Nat} {fw : FWX} {wb : WD → WS} (F : Fun K x qual st f fd) (S : FnScope N ps (defScope st)) (ar : ∀ ds m Q QX, fw ds m Q QX → ds.length = ps.length)
    (hbody : ∀ (cdv : Value) (A : Around) (outer : List PySem.Env) (s : Shared) (H : Hp) (E : XK) (p : Option Addr) (cc : Addr) (B : List Addr) (W : WX) (wx : WD), Room k (A.deeper (PyProof.Rows.envOfC qual (defScope st) s.heap.objs.size f cdv)) → Takes (cxOf (L2.CX P w) P w K mg base N qual (defScope st) f cdv A outer s H E) W → RelW K (c00 T p cc B H) W wx → fd.code = cdv →
      DSs (cxOf (L2.CX P w) P w K mg base N qual (defScope st) f cdv A outer s H E) (c00 T p cc B H) (defBody st) (wb wx))
    (hw : ∀ ds m Q QX, fw ds m Q QX → wb (fun C fs _ m => QX C fs m) { nx := fun _ m => Q .non m, rt := Q } (initE N.length ds) m) : FnOk P w K mg base (L2.CX P w) (k + 1) f fd ps (spDX K T fw) := by
  refine FnG.ok (fnG_of (g := false) F S (fun vs H Q E h => ?_) (fun cdv A outer s H vs Q E hr hg hcd h => ?_))
  · obtain ⟨p, cc, B, ds, m, R, RX, r, _, q, _⟩ := h
    rw [r.length]
    exact ar ds m R RX q
  · obtain ⟨p, cc, B, ds, m, R, RX, r, cx, q, k, kx⟩ := h
    have hW : RelW K (c00 T p cc B H) (fun cls d _ H => E cls d H) (fun C fs _ m => RX C fs m) := fun A' ρ' m' σ' H' G cls d C fs xr z => kx cls d C fs m' H' G.ex G.am (xr.ext (cut_sub G.sub)) z
    have d := hbody cdv A outer s H E p cc B _ _ hr (takes_of rfl rfl rfl rfl) hW hcd
    refine ⟨d.t, d.pe, ?_⟩
    refine d.rd B _ m _ H (start_good r cx) _ _ (hw ds m R RX q) (fun A' ρ' m' σ' H' G s p => ?_) (fun v d' A' m' H' G rep p => ?_) (fun _ _ _ _ _ _ _ z => z.elim) (fun _ _ _ _ _ _ _ z => z.elim)
    · exact k .non .non m' H' G.ex G.am .non p
    · exact k v d' m' H' G.ex G.am (rep.ext (cut_sub G.sub)) p
end DW

/-! DW16: several except clauses, each with a name. -/
namespace DW
open PySem PySem.Spec L2 PyProof.Rows
abbrev SuiteT := Addr → Value → Option Addr → TS
/-- the ends of a suite whose name (slot i) is forgotten behind it -/
def forget (i : Nat) (D : Ends) : Ends := { nx := fun τ G => D.nx (τ.set i none) G, rt := D.rt, bk := fun τ G => D.bk (τ.set i none) G, ct := fun τ G => D.ct (τ.set i none) G }
def wNamed (K : PySem.W.Frag) (Wout : WX) (D : Ends) : List (Value × Nat × SuiteT) → WX
  | [] => Wout
  | h :: r => fun cls d τ G => ∃ b, PySem.W.exmOne K cls h.1 = some b ∧ (b = true → ∀ a, G a = none → h.2.2 a cls d (forget h.2.1 D) (τ.set h.2.1 (some (.ref a))) G) ∧ (b = false → wNamed K Wout D r cls d τ G)
inductive Named (X : Cx) : List ExceptHandler → List (Value × Nat × SuiteT) → Prop
  | none : Named X [] []
  | more {y z : Str} {v : Value} {i : Nat} {ts : SuiteT} {st : Stmt} {sts : List Stmt} {p1 p2 : Pos} {hs : List ExceptHandler} {l : List (Value × Nat × SuiteT)} (hv : Names X y v) (hz : X.N[i]? = some z) (hk : X.env.kindOf z = some .local)
      (run : ∀ (a : Addr) (o : Obj) (cls : Value) (d : Option Addr) (pn : List (Addr × Obj)), Zc cls d o → (∃ vs, o.data = .fields vs) → PSs (X.suite a ((a, o) :: pn)) (st :: sts) (ts a cls d)) (rest : Named X hs l) :
      Named X (.ExceptHandler (some (.Name y p1)) (some z) (st :: sts) p2 :: hs) ((v, i, ts) :: l)
section
variable {X : Cx}
/-- what a handled exception's record leaves of the slots and pins -/
theorem handlers_run (hst : X.stack = X.env :: X.outer) (hfr : X.env.frame = some X.env.locals) (nd : X.N.Nodup) {Wout : WX} (tk : Takes X Wout) {D : Ends} {pins : List (Addr × Obj)} {τ : L2.St} {G : Hp} {sI : Shared} {B : Heap} {a : Addr} {cls : Value} {d : Option Addr}
    (ok : X.Ok) (fr0 : X.A.frames = some (X.env :: X.outer)) (J : Inv X pins τ G sI) (nb : ∀ b o, sI.heap.get? b = some o → b ∉ frs X.stack → B.get? b = some o) (na : G a = none) {hp : Heap} {gs : Array GenState} {dr : Drawn} {tks : Nat} {os : OsState} (oseq : os = sI.os) (bare : AllBare gs)
    (fly : HandSPX.FlyingZ B (X.env :: X.outer) a (Zc cls d) hp) (up : sI.heap.UpToSlots hp) :
    ∀ {hs : List ExceptHandler} {l : List (Value × Nat × SuiteT)}, Named X hs l → wNamed X.K Wout D l cls d τ G → wpAny (model X.prog X.w) X.A (handleBy (.ref a) X.env hs) (SP X pins D) X.xe ⟨hp, gs, dr, tks, os⟩ := by
  have J3 : Inv X pins τ G ⟨hp, gs, dr, tks, os⟩ := J.landed nb fly.1 up oseq bare
  have outside : ∀ {h : Heap} {o : Obj} {vs : Array Value}, h.FunFrames B (X.env :: X.outer) → h.get? a = some o → o.data = .fields vs → a ∉ frs (X.env :: X.outer) := by
    intro h o vs ff e dd mem
    obtain ⟨_, o2, e2, no⟩ := ff.mem mem
    rw [e] at e2
    cases e2
    exact no _ dd
  obtain ⟨oe, fv, he, hz, hd⟩ := fly.there
  have far := outside fly.2.2.1 he hd
  have aL : a ≠ X.env.locals := fun z => far (List.mem_filterMap.mpr ⟨X.env, List.mem_cons_self, by rw [hfr, z]⟩)
  have aF : a ∉ X.fs := fun z => by
    obtain ⟨e, m, q⟩ := List.mem_filterMap.mp z
    exact far (List.mem_filterMap.mpr ⟨e, List.mem_cons_of_mem _ m, q⟩)
  intro hs l N
  induction N with
  | none =>
    intro wish
    have on : wpAny (model X.prog X.w) X.A (setFlight (.ref a) X.env.frame) (fun _ s4 => wpAny (model X.prog X.w) X.A (throw (.ref a) : Sem Flow) (SP X pins D) X.xe s4) X.xe ⟨hp, gs, dr, tks, os⟩ := by
      rw [hfr]
      refine HandSPX.setFlight_upZ fly fun h4 held up4 => wpAny_throw (tk _ _ ?_)
      refine ⟨a, B, sI, pins, τ, G, cls, d, rfl, J, nb, up.trans up4, .inr (.inr ?_), na, oseq, bare, wish⟩
      rw [hst]
      exact held
    obtain ⟨_, _, _, o1, fv1, T, _, _, g1, _, g3, g4, _⟩ := id fly
    refine wpAny_handleBy_nil ?_
    unfold PySem.passOn
    apply wpAny_bind
    refine wpAny_field g1 g3 g4 ?_
    rw [if_neg (by simp : ¬ ((Value.ref T == Value.none) = true))]
    first | exact wpAny_bind on | exact wpAny_bind (wpAny_pure (wpAny_bind on))
  | @more y z v i ts st sts p1 p2 hs2 l2 hv hz2 hk run rest ih =>
    rintro ⟨b, hb, yes, no⟩
    have S3 := J3.suite he hd na aL aF
    have kind : PySem.W.Looks (model X.prog X.w) hp (typeOf (.ref a)) cls := fun A Q E s k q => wpAny_typeOf_ref (k _ _ he) (by rw [hz.1]; exact q)
    have fits := PySem.W.exm_one (M := model X.prog X.w) J3.kIn kind hb
    have named : ∀ {Q : Value → Shared → Prop} {E : Value → Shared → Prop}, Q v ⟨hp, gs, dr, tks, os⟩ → wpAny (model X.prog X.w) (X.A.mark (some (.ref a))) (eval (.Name y p1) X.env) Q E ⟨hp, gs, dr, tks, os⟩ := by
      intro Q E q
      rcases hv with ⟨g, dbg, m | ⟨m, bt, nn⟩⟩
      · exact ld_glob (X := X.suite a ((a, oe) :: (X.pn ++ pins))) S3 g m q dbg
      · exact ld_blt (X := X.suite a ((a, oe) :: (X.pn ++ pins))) S3 g m bt q nn dbg
    refine wpAny_handleBy_cons (codeAny_handlers_test (named (fits.here ?_))) (fun q => nomatch q)
    rcases b with _ | _
    · show wpAny _ X.A (handleBy (.ref a) X.env hs2) _ _ _
      exact ih (no rfl)
    · refine codeAny_handlers_suite_as (HandSPX.lands_againZ fly fun h4 fly4 up4 => ?_)
      have J4 : Inv X pins τ G ⟨h4, gs, dr, tks, os⟩ := J.landed nb fly4.1 (up.trans up4) oseq bare
      obtain ⟨o4, fv4, he4, hz4, hd4⟩ := fly4.there
      have S4 := J4.suite he4 hd4 na aL aF
      refine store_ok (X := X.suite a ((a, o4) :: (X.pn ++ pins))) (v := .ref a) S4 nd hz2 (.inl hk) rfl (fun s5 S5 => ?_) (.inr hk)
      have ran := (run a o4 cls d (X.pn ++ pins) hz4 ⟨_, hd4⟩).run [] s5 _ G _ S5 (yes rfl a na)
      have behind : ∀ {s6 : Shared} {τ6 : L2.St} {G6 : Hp} {Q : Shared → Prop}, Inv (X.suite a ((a, o4) :: (X.pn ++ pins))) [] τ6 G6 s6 → (∀ s7, Inv X pins (τ6.set i none) G6 s7 → Q s7) →
          wpAny (model X.prog X.w) X.A (do bindName X.env z .none; unbindBehindTheSuite X.env z p2) (fun _ s7 => Q s7) X.xe s6 := fun S6 hq => gone_ok (S6.unsuite ok) nd hz2 hk hq
      refine wpAny_mono ran ?_ (fun _ _ z => z.elim)
      rintro (_ | _ | _ | u) s6 post
      · obtain ⟨τ6, G6, S6, q⟩ := post
        exact behind S6 fun s7 J7 => ⟨_, _, J7, q⟩
      · obtain ⟨τ6, G6, S6, q⟩ := post
        exact behind S6 fun s7 J7 => ⟨_, _, J7, q⟩
      · obtain ⟨τ6, G6, S6, q⟩ := post
        exact behind S6 fun s7 J7 => ⟨_, _, J7, q⟩
      · obtain ⟨v6, τ6, G6, S6, rv, q⟩ := post
        exact behind S6 fun s7 J7 => ⟨_, _, _, J7, rv, q⟩
theorem ps_named {body : List Stmt} {h0 : ExceptHandler} {hds : List ExceptHandler} {l : List (Value × Nat × SuiteT)} {pos : Pos} {tb : WX → TS} {Wout : WX} (hst : X.stack = X.env :: X.outer) (hfr : X.env.frame = some X.env.locals) (nd : X.N.Nodup) (tk : Takes X Wout)
    (hb : ∀ (W : WX) (pn : List (Addr × Obj)) (xe : Value → Shared → Prop), Takes (X.tr pn xe) W → PassesOwn (model X.prog X.w) X.A X.env xe → PSs (X.tr pn xe) body (tb W))
    (hh : Named X (h0 :: hds) l) : PS X (.Try body (h0 :: hds) [] [] pos) (fun D τ G => tb (wNamed X.K Wout D l) D τ G) := by
  refine ⟨fun pins s τ0 G0 D I h => ?_⟩
  have ok := I.ok
  have fr0 : X.A.frames = some (X.env :: X.outer) := by rw [ok.frames, hst]
  refine wpAny_Try_except ?_
  refine wpAny_mono ((hb (wNamed X.K Wout D l) (X.pn ++ pins) (fun e s1 => wpAny (model X.prog X.w) X.A (noteFrame e X.env) (fun _ s2 => wpAny (model X.prog X.w) X.A (setFlight e none) (fun _ s3 =>
    wpAny (model X.prog X.w) X.A (handleBy e X.env (h0 :: hds)) (SP X pins D) X.xe s3) X.xe s2) X.xe s1) (fun u s' caught => ?_) PassesOwn.looking).run [] s τ0 G0 D (I.toTry _) h) (fun f s1 post => ?_) (fun e s1 q => q)
  · obtain ⟨a, B, sI, pins2, τ, G, cls, d, rfl, J2, nb, up, sky, na, os, ag, wish⟩ := caught
    have J : Inv X pins τ G sI := J2.ofTry ok
    have sky2 : Sky B (X.env :: X.outer) a (Zc cls d) X.env.locals s'.heap := by rw [← hst]; exact sky
    obtain ⟨hp', gs, dr, tks, os'⟩ := s'
    refine Sky.land Zc.steady fr0 hfr sky2 fun h3 fly up3 => ?_
    exact handlers_run hst hfr nd tk ok fr0 J nb na os ag fly (up.trans up3) hh wish
  · rcases f with _ | _ | _ | u
    · obtain ⟨τ, G, J, q⟩ := post
      exact wpAny_execs_nil ⟨τ, G, J.ofTry ok, q⟩
    · obtain ⟨τ, G, J, q⟩ := post
      exact ⟨τ, G, J.ofTry ok, q⟩
    · obtain ⟨τ, G, J, q⟩ := post
      exact ⟨τ, G, J.ofTry ok, q⟩
    · obtain ⟨v, τ, G, J, r, q⟩ := post
      exact ⟨v, τ, G, J.ofTry ok, r, q⟩
end
end DW

/-! DW17: try .. except, over data. -/
namespace DW
open PySem PySem.Spec L2
/-- the same context begun anew at H: what is owned may change, all else stays -/
def C0.at_ (c : C0) (A : List Addr) (H : Hp) (ca : Option (Addr × Value × Option Addr)) : C0 := ⟨c.toOrg, fun b => if b ∈ A ∧ b ∉ c.A0 then none else H b, ca⟩
section
variable {K : PySem.W.Frag} {c : C0} {A A' : List Addr} {ρ ρ' : DW.Env} {m m' : Nat} {σ σ' : L2.St} {H H' : Hp} {ca : Option (Addr × Value × Option Addr)}
theorem at_off {b : Addr} (h : b ∉ A) : (c.at_ A H ca).H0 b = H b := if_neg fun z => h z.1
theorem at_in {b : Addr} (h : b ∈ c.A0) : (c.at_ A H ca).H0 b = H b := if_neg fun z => z.2 h
theorem at_none {b : Addr} (h : (c.at_ A H ca).H0 b = none) : (b ∈ A ∧ b ∉ c.A0) ∨ H b = none := by
  by_cases z : b ∈ A ∧ b ∉ c.A0
  · exact .inl z
  · exact .inr ((if_neg z).symm.trans h)
theorem Base.at_ (B : Base K c A m H) : Base K (c.at_ A H ca) A m H := by
  refine ⟨fun b o _ e => ?_, B.ex0, B.am, B.pin, B.tin, B.sub, fun a h => ?_, B.thr⟩
  · by_cases z : b ∈ A ∧ b ∉ c.A0
    · have : (c.at_ A H ca).H0 b = none := if_pos z
      rw [this] at e
      cases e
    · have : (c.at_ A H ca).H0 b = H b := if_neg z
      rwa [this] at e
  · by_cases z : a ∈ c.A0
    · exact .inl z
    · exact .inr ⟨if_pos ⟨h, z⟩, ((B.new a h).resolve_left z).2⟩
/-- a cell that holds no caught exception -/
def Cell.plain : Cell → Prop
  | .cau _ _ => False
  | _ => True
theorem Good.at_ (G : Good K c A ρ m σ H) (hp : ∀ (i : Nat) (k : Cell), ρ[i]? = some k → k.plain) : Good K (c.at_ A H ca) A ρ m σ H := by
  refine ⟨G.toBase.at_, G.len, fun i k e => ?_⟩
  have q := G.cell i k e
  cases k with
  | un => trivial
  | dat d => exact q
  | own o => exact q
  | cau C fs => exact (hp i _ e).elim
  | raw v => exact q
theorem Base.back (B0 : Base K c A m H) (B : Base K (c.at_ A H ca) A' m' H') : Base K c A' m' H' := by
  refine ⟨fun b o n e => ?_, B.ex0, B.am, B.pin, B.tin, B.sub, fun a h => ?_, B.thr⟩
  · have e1 := B0.ex b o n e
    by_cases hb : b ∈ A
    · rcases B0.new b hb with z | z
      · exact B.ex b o n ((at_in z).trans e1)
      · rw [z.1] at e
        cases e
    · exact B.ex b o n ((at_off hb).trans e1)
  · rcases B.new a h with z | z
    · exact .inl z
    · rcases at_none z.1 with y | y
      · exact (B0.new a y.1).imp_left fun w => absurd w y.2
      · exact .inr (B0.none0 y)
theorem Base.stepB (B0 : Base K c A m H) (B : Base K (c.at_ A H ca) A' m' H') : Step A H A' H' := by
  refine ⟨fun b o n e => ?_, fun a h => ?_⟩
  · exact B.ex b o (fun z => n (B0.sub b (B0.vin z))) ((at_off n).trans e)
  · rcases B.new a h with z | z
    · exact .inl (B0.sub a z)
    · rcases at_none z.1 with y | y
      · exact .inl y.1
      · exact .inr y
theorem Good.back (B0 : Base K c A m H) (G : Good K (c.at_ A H ca) A' ρ' m' σ' H') (hp : ∀ (i : Nat) (k : Cell), ρ'[i]? = some k → k.plain) : Good K c A' ρ' m' σ' H' := by
  refine ⟨B0.back G.toBase, G.len, fun i k e => ?_⟩
  have q := G.cell i k e
  cases k with
  | un => trivial
  | dat d => exact q
  | own o => exact q
  | cau C fs => exact (hp i _ e).elim
  | raw v => exact q
end
/-- e.f of the exception that the suite holds in slot i -/
def wCau (C : Addr) (f : Str) (i : Nat) : WE := fun ρ m Q => ∃ fs v, ρ[i]? = some (.cau C fs) ∧ fs.lookup f = some v ∧ Q v m
section
variable {X : Cx} {c : C0} {pos p : Pos}
theorem rd_cau {a C : Addr} {cls : Value} {d : Option Addr} {f : Str} {i : Nat} {K : PySem.W.Frag} (hca : c.ca = some (a, cls, d)) : RdE K c (tXf a cls d C f (tVar i)) (wCau C f i) := fun A ρ m σ H G Q Qv ⟨fs, v, e, hl, q⟩ k => by
  obtain ⟨a2, d2, h1, h2, h3⟩ := G.cell i _ e
  rw [hca] at h1
  cases h1
  rcases h3 with ⟨_, z⟩ | ⟨dd, gs, rfl, hq, r⟩
  · rw [z] at hl
    cases hl
  · obtain ⟨u, hu, ru⟩ := r.look hl
    exact ⟨_, h2, rfl, rfl, dd, gs, u, rfl, (cut_some hq).2, hu, k u v m H G Keep.refl ru q⟩
def de_cau {a C : Addr} {oe : Obj} {cls : Value} {d : Option Addr} {pn : List (Addr × Obj)} {x f : Str} {i : Nat} (T : XfC X.K C) (hno : PySem.W.findIn X.K (.ref C) f = some none) (hz : Zc cls d oe) (hf : ∃ vs, oe.data = .fields vs) (hca : c.ca = some (a, cls, d)) (hN : X.N[i]? = some x) (hv : Vis X.env.scope x)
    (hb : attributeBase (.Name x p) f (X.suite a ((a, oe) :: pn)).env (eval (.Name x p) (X.suite a ((a, oe) :: pn)).env) = eval (.Name x p) (X.suite a ((a, oe) :: pn)).env := by rfl) (hd : (x == ("__debug__" : Str)) = false := by decide) (hcd : (x == ("__classdict__" : Str)) = false := by decide) :
    DE (X.suite a ((a, oe) :: pn)) c (.Attribute (.Name x p) f pos) (wCau C f i) :=
  ⟨tXf a cls d C f (tVar i), pe_xf T hno hz hf (pe_var (X := X.suite a ((a, oe) :: pn)) hN hv hd hcd) hb, rd_cau hca⟩
/-! ### the clauses -/
def oe0 (cls : Value) (d : Option Addr) : Obj := { cls := cls, dict := d, data := .fields #[] }
inductive DHs (X : Cx) (g : Org) : List ExceptHandler → List (Value × Nat × WS) → Type
  | nil : DHs X g [] []
  | cons {y z : Str} {v : Value} {i : Nat} {ws : WS} {st : Stmt} {sts : List Stmt} {p1 p2 : Pos} {hs : List ExceptHandler} {l : List (Value × Nat × WS)} (hv : Names X y v) (hz : X.N[i]? = some z) (hk : X.env.kindOf z = some .local)
      (ds : ∀ (a : Addr) (o : Obj) (cls : Value) (d : Option Addr) (pn : List (Addr × Obj)) (H0 : Hp), Zc cls d o → (∃ vs, o.data = .fields vs) → DSs (X.suite a ((a, o) :: pn)) ⟨g, H0, some (a, cls, d)⟩ (st :: sts) ws)
      (u : ∀ (a : Addr) (o : Obj) (cls : Value) (d : Option Addr) (pn : List (Addr × Obj)) (H0 : Hp) h1 h2, (ds a o cls d pn H0 h1 h2).t = (ds a (oe0 cls d) cls d [] (fun _ => none) ⟨rfl, rfl⟩ ⟨_, rfl⟩).t) (rest : DHs X g hs l) :
      DHs X g (.ExceptHandler (some (.Name y p1)) (some z) (st :: sts) p2 :: hs) ((v, i, ws) :: l)
def DHs.ts {g : Org} : ∀ {hs : List ExceptHandler} {l : List (Value × Nat × WS)}, DHs X g hs l → List (Value × Nat × SuiteT)
  | _, _, .nil => []
  | _, _, .cons (v := v) (i := i) _ _ _ ds _ rest => (v, i, fun a cls d => (ds a (oe0 cls d) cls d [] (fun _ => none) ⟨rfl, rfl⟩ ⟨_, rfl⟩).t) :: rest.ts
theorem DHs.named {g : Org} : ∀ {hs : List ExceptHandler} {l : List (Value × Nat × WS)} (h : DHs X g hs l), Named X hs h.ts
  | _, _, .nil => .none
  | _, _, .cons hv hz hk ds u rest => .more hv hz hk (fun a o cls d pn h1 h2 => by
      rw [← u a o cls d pn (fun _ => none) h1 h2]
      exact (ds a o cls d pn _ h1 h2).pe) rest.named
abbrev PlainE (ρ : DW.Env) : Prop := ∀ (i : Nat) (k : Cell), ρ[i]? = some k → k.plain
def wHds (K : PySem.W.Frag) (wo : WD) (P : Posts) : List (Value × Nat × WS) → WD
  | [] => wo
  | h :: r => fun C fs ρ m => ∃ b, PySem.W.exmOne K (.ref C) h.1 = some b ∧
      (b = true → h.2.2 { nx := fun ρ' m' => PlainE (ρ'.set h.2.1 .un) ∧ P.nx (ρ'.set h.2.1 .un) m', rt := P.rt, bk := fun _ _ => False, ct := fun _ _ => False } (ρ.set h.2.1 (.cau C fs)) m) ∧ (b = false → wHds K wo P r C fs ρ m)
theorem Good.recast {K : PySem.W.Frag} {c : C0} {A0 A : List Addr} {ρ : DW.Env} {m : Nat} {σ : L2.St} {H0 H : Hp} {ca cb : Option (Addr × Value × Option Addr)} (G : Good K (c.at_ A0 H0 ca) A ρ m σ H) (hp : PlainE ρ) : Good K (c.at_ A0 H0 cb) A ρ m σ H :=
  ⟨⟨G.ex, G.ex0, G.am, G.pin, G.tin, G.sub, G.new, G.thr⟩, G.len, fun i k e => by
    have q := G.cell i k e
    cases k with
    | un => trivial
    | dat d => exact q
    | own o => exact q
    | cau C fs => exact (hp i _ e).elim
    | raw v => exact q⟩
theorem Good.setCau {K : PySem.W.Frag} {c : C0} {A : List Addr} {ρ : DW.Env} {m : Nat} {σ : L2.St} {H : Hp} (G : Good K c A ρ m σ H) {a C : Addr} {d : Option Addr} {fs : List (Str × D)} (hca : c.ca = some (a, .ref C, d)) (r : ExcF c.p K (cut A H) d fs) (i : Nat) (ha : ∀ (j : Nat) (o : Own), ρ[j]? = some (Cell.own o) → σ[j]? ≠ some (some (V.ref a))) :
    Good K c A (ρ.set i (.cau C fs)) m (σ.set i (some (.ref a))) H := by
  refine ⟨G.toBase, by rw [List.length_set, List.length_set]; exact G.len, fun j k e => ?_⟩
  by_cases hj : i = j
  · subst hj
    have hl : i < ρ.length := by
      have := (List.getElem?_eq_some_iff.mp e).1
      rwa [List.length_set] at this
    rw [List.getElem?_set_self hl] at e
    cases e
    exact ⟨a, d, hca, by rw [List.getElem?_set_self (by rw [← G.len]; exact hl)], r⟩
  · rw [List.getElem?_set_ne hj] at e
    have q := G.cell j k e
    cases k with
    | un => trivial
    | raw v' => exact (List.getElem?_set_ne hj).trans q
    | dat d' =>
      obtain ⟨v', h1, h2⟩ := q
      exact ⟨v', by rw [List.getElem?_set_ne hj]; exact h1, h2⟩
    | cau _ _ =>
      obtain ⟨xa, xd, xe, h1, h2⟩ := q
      exact ⟨xa, xd, xe, by rw [List.getElem?_set_ne hj]; exact h1, h2⟩
    | own ds =>
      obtain ⟨l, xs, h1, h2, h3, h4, h5, h6⟩ := q
      refine ⟨l, xs, by rw [List.getElem?_set_ne hj]; exact h1, h2, h3, h4, h5, fun j' es n' e' => ?_⟩
      by_cases hj' : i = j'
      · subst hj'
        have hl : i < ρ.length := by
          have := (List.getElem?_eq_some_iff.mp e').1
          rwa [List.length_set] at this
        rw [List.getElem?_set_self hl] at e'
        cases e'
      · rw [List.getElem?_set_ne hj'] at e' ⊢
        exact h6 j' es n' e'
theorem rd_hds {A : List Addr} {ρ : DW.Env} {m : Nat} {σ : L2.St} {H : Hp} {P : Posts} {F : Ends} {Wout : WX} {wo : WD} (G0 : Good X.K c A ρ m σ H) (hW : RelW X.K c Wout wo) (n : Out X.K c A H P.nx F.nx) (rt : OutR X.K c P.rt F.rt) :
    ∀ {hs : List ExceptHandler} {l : List (Value × Nat × WS)} (h : DHs X c.toOrg hs l) {A' : List Addr} {ρ' : DW.Env} {m' : Nat} {σ' : L2.St} {H' : Hp}, Good X.K (c.at_ A H none) A' ρ' m' σ' H' → PlainE ρ' → ∀ {cls : Value} {d : Option Addr} {C : Addr} {fs : List (Str × D)}, ExcR c.p X.K (cut A' H') cls d C fs → wHds X.K wo P l C fs ρ' m' →
      wNamed X.K Wout F h.ts cls d σ' H'
  | _, _, .nil, A', ρ', m', σ', H', G, hp, cls, d, C, fs, x, q => hW A' ρ' m' σ' H' (Good.back G0.toBase G hp) cls d C fs x q
  | _, _, .cons (i := i) hv hz hk ds u rest, A', ρ', m', σ', H', G, hp, cls, d, C, fs, x, q => by
    obtain ⟨b, hb, yes, no⟩ := q
    have ec : cls = .ref C := x.1
    subst ec
    refine ⟨b, hb, fun e a na => ?_, fun e => rd_hds G0 hW n rt rest G hp x (no e)⟩
    have G2 : Good X.K (c.at_ A H (some (a, .ref C, d))) A' (ρ'.set i (.cau C fs)) m' (σ'.set i (some (.ref a))) H' := (G.recast hp).setCau rfl x.2 i fun j o ej ez => by
      obtain ⟨l, y, h1, h2, _, h4, _⟩ := G.cell j _ ej
      rw [ez] at h1
      cases h1
      rw [na] at h4
      cases h4
    have et := u a (oe0 (.ref C) d) (.ref C) d [] (c.at_ A H (some (a, .ref C, d))).H0 ⟨rfl, rfl⟩ ⟨_, rfl⟩
    show (ds a (oe0 (.ref C) d) (.ref C) d [] (fun _ => none) ⟨rfl, rfl⟩ ⟨_, rfl⟩).t (forget i F) (σ'.set i (some (.ref a))) H'
    rw [← et]
    refine (ds a (oe0 (.ref C) d) (.ref C) d [] (c.at_ A H (some (a, .ref C, d))).H0 ⟨rfl, rfl⟩ ⟨_, rfl⟩).rd A' _ m' _ H' G2 _ _ (yes e) (fun A2 ρ2 m2 σ2 H2 G3 _ q3 => ?_) (fun v dd A2 m2 H2 B3 rv q3 => ?_) (fun _ _ _ _ _ _ _ z => z.elim) (fun _ _ _ _ _ _ _ z => z.elim)
    · have G4 := G3.wipe1 i
      exact n A2 _ m2 _ H2 (Good.back G0.toBase G4 q3.1) (Base.stepB G0.toBase G3.toBase) q3.2
    · exact rt v dd A2 m2 H2 (Base.back G0.toBase B3) rv q3
/-- try: body, its clauses -/
def wTry (K : PySem.W.Frag) (wo : WD) (l : List (Value × Nat × WS)) (wb : WD → WS) : WS := fun P ρ m => PlainE ρ ∧ wb (fun C fs ρ' m' => PlainE ρ' ∧ wHds K wo P l C fs ρ' m') { P with nx := fun ρ' m' => PlainE ρ' ∧ P.nx ρ' m', bk := fun _ _ => False, ct := fun _ _ => False } ρ m
def ds_try {body : List Stmt} {h0 : ExceptHandler} {hds : List ExceptHandler} {l : List (Value × Nat × WS)} {Wout : WX} {wo : WD} {wb : WD → WS} {K : PySem.W.Frag} (hK : X.K = K) (hst : X.stack = X.env :: X.outer) (hfr : X.env.frame = some X.env.locals) (nd : X.N.Nodup) (tk : Takes X Wout) (hW : RelW X.K c Wout wo)
    (db : ∀ (W : WX) (pn : List (Addr × Obj)) (xe : Value → Shared → Prop) (H0 : Hp) (wx : WD), Takes (X.tr pn xe) W → RelW X.K ⟨c.toOrg, H0, none⟩ W wx → DSs (X.tr pn xe) ⟨c.toOrg, H0, none⟩ body (wb wx)) (dh : DHs X c.toOrg (h0 :: hds) l)
    (ub : ∀ (W : WX) (pn : List (Addr × Obj)) (xe : Value → Shared → Prop) (H0 : Hp) (wx : WD) h1 h2, (db W pn xe H0 wx h1 h2).t = (db W [] (fun _ _ => True) (fun _ => none) (fun _ _ _ _ => False) (fun _ _ _ => trivial) (fun _ _ _ _ _ _ _ _ _ _ _ z => z.elim)).t := by intros; rfl) :
    DS X c (.Try body (h0 :: hds) [] [] pos) (wTry K wo l wb) :=
  ⟨fun D τ G => (db (wNamed X.K Wout D dh.ts) [] (fun _ _ => True) (fun _ => none) (fun _ _ _ _ => False) (fun _ _ _ => trivial) (fun _ _ _ _ _ _ _ _ _ _ _ z => z.elim)).t D τ G,
    ps_named (tb := fun W => (db W [] (fun _ _ => True) (fun _ => none) (fun _ _ _ _ => False) (fun _ _ _ => trivial) (fun _ _ _ _ _ _ _ _ _ _ _ z => z.elim)).t) hst hfr nd tk (fun W pn xe h1 _ => by
      rw [← ub W pn xe (fun _ => none) (fun _ _ _ _ => False) h1 (fun _ _ _ _ _ _ _ _ _ _ _ z => z.elim)]
      exact (db W pn xe _ _ h1 _).pe) dh.named, fun A ρ m σ H G P F hw n rt bk ct => by
      subst hK
      have rel : RelW X.K (c.at_ A H none) (wNamed X.K Wout F dh.ts) (fun C fs ρ' m' => PlainE ρ' ∧ wHds X.K wo P l C fs ρ' m') := fun A' ρ' m' σ' H' G' cls d C fs x q => rd_hds G hW n rt dh G' q.1 x q.2
      rw [← ub (wNamed X.K Wout F dh.ts) [] (fun _ _ => True) (c.at_ A H none).H0 (fun C fs ρ' m' => PlainE ρ' ∧ wHds X.K wo P l C fs ρ' m') (fun _ _ _ => trivial) rel]
      refine (db (wNamed X.K Wout F dh.ts) [] (fun _ _ => True) (c.at_ A H none).H0 _ (fun _ _ _ => trivial) rel).rd A ρ m σ H (G.at_ hw.1) _ F hw.2 (fun A2 ρ2 m2 σ2 H2 G2 _ q2 => ?_) (fun v dd A2 m2 H2 B2 rv q2 => ?_) (fun _ _ _ _ _ _ _ z => z.elim) (fun _ _ _ _ _ _ _ z => z.elim)
      · exact n A2 _ m2 _ H2 (Good.back G.toBase G2 q2.1) (Base.stepB G.toBase G2.toBase) q2.2
      · exact rt v dd A2 m2 H2 (Base.back G.toBase B2) rv q2⟩
end
end DW

/-! DW18: x(lambda: body), x a def of one's own that calls what it is given. -/
namespace DW
open PySem PySem.Spec L2 PyProof.Rows LamX
section
variable {X : Cx} {pins : List (Addr × Obj)} {σ : L2.St} {H : Hp} {s : Shared}
/-- what stands in a heap behind a lambda's making -/
structure LamMade (X : Cx) (T : List (Addr × Str)) (P : Addr) (params : Arguments) (body : Expr) (scope : Scope) (pins : List (Addr × Obj)) (σ : L2.St) (H : Hp) (f c' : Addr) (pm ctv : Value) (H1 : Hp) (s' : Shared) : Prop where
  inv : Inv X pins σ H1 s'
  ext : ∀ b o, b ≠ P → H b = some o → H1 b = some o
  tab : Tabs T H1
  obj : s'.heap.get? f = some (PySem.W.kla_obj "<lambda>" (X.env.qual ++ "<lambda>") params body scope (cloFrom X.env.cells scope.names []) pm c' ctv)
  new : H1 f = none
  far : f ∉ frs X.stack
  code : H1 c' = some (CodeO c' (X.env.qual ++ "<lambda>"))
theorem lam_made {T : List (Addr × Str)} {c P : Addr} {params : Arguments} {body : Expr} {scope : Scope} {pos : Pos} {E : Value → Shared → Prop} {Q : Value → Shared → Prop} (I : Inv X pins σ H s) (TB : TabB X.base X.mg c P) (hcode : X.env.code = .ref c)
    (hm : (P, X.env.qual ++ "<lambda>") ∈ T) (hu : ∀ p ∈ T, p.1 = P → p.2 = X.env.qual ++ "<lambda>") (hT : Tabs T H) (hdef : defaultsOf params X.env = ([], [])) (hfree : ∀ y ∈ scope.names, y.2 = .free → ∃ c, X.env.cells.lookup y.1 = some c)
    (h : ∀ (f c' : Addr) (pm ctv : Value) (H1 : Hp) (s' : Shared), LamMade X T P params body scope pins σ H f c' pm ctv H1 s' → Q (.ref f) s') :
    wpAny (model X.prog X.w) X.A (eval (.Lambda params body scope pos) X.env) Q E s := by
  obtain ⟨rows, atP, triples, named⟩ := hT _ hm
  refine PySem.W.kla_eval hdef ?_
  have bP := TB.bm.keeps I.bk
  have objP : s.heap.get? P = some { cls := .none, data := .fields rows } := I.hok P _ atP
  have off : ∀ f, s.heap.objs.size ≤ f → f ∉ frs X.stack := fun f hf z => by
    rcases List.mem_cons.mp (I.stkSub _ z) with e | e
    · have h1 := I.lt
      rw [← e] at h1
      exact absurd h1 (Nat.not_lt.mpr hf)
    · exact I.nofs hf e
  cases hc : codeAmong pos rows.toList with
  | some cv =>
    obtain ⟨c', rfl, named1⟩ := named pos cv hc
    refine PySem.W.kla_makeFunctionHit (mg := X.mg) (c := c) (P := P) (ps := rows) (closure_ok hfree) I.ok.glob (I.mod.glob.keeps I.bk) hcode (TB.code.keeps I.bk) objP triples hc bP fun ctv h' tk same size => ?_
    exact h _ c' ((X.mg "__name__").getD .none) ctv H _ ⟨I.kept fun b o e => Heap.get?_push_of_some _ (same b o e), fun _ _ _ e => e, hT, Heap.get?_push_size _ rfl, I.hok.fresh size, off _ size, named1⟩
  | none =>
    refine PySem.W.kla_makeFunction (mg := X.mg) (c := c) (P := P) (ps := rows) (closure_ok hfree) I.ok.glob (I.mod.glob.keeps I.bk) hcode (TB.code.keeps I.bk) objP triples hc TB.gP bP fun c' ctv h' tk same ge lt isC atP2 => ?_
    obtain ⟨c2, oc, fs, t, e2, objC, dataC, nameC⟩ := isC
    cases e2
    have size : s.heap.objs.size ≤ h'.objs.size := Nat.le_trans ge (Nat.le_of_lt lt)
    have nC : H c' = none := I.hok.fresh ge
    have PC : P ≠ c' := ne_of_none atP nC
    have J := inv_table (t' := tk) (more := #[rawInt pos.line, rawInt pos.col, .ref c']) (h' := h'.push (PySem.W.kla_obj "<lambda>" (X.env.qual ++ "<lambda>") params body scope (cloFrom X.env.cells scope.names []) ((X.mg "__name__").getD .none) c' ctv)) (q := X.env.qual ++ "<lambda>") I atP
      (fun b o nb e => Heap.get?_push_of_some _ (same b o nb e)) (Heap.get?_push_of_some _ atP2) ge ⟨oc, fs, t, Heap.get?_push_of_some _ objC, dataC, nameC⟩
    have stay : ∀ b o, b ≠ P → H b = some o → upd (upd H P (.tbl (rows ++ #[rawInt pos.line, rawInt pos.col, .ref c']))) c' (CodeO c' (X.env.qual ++ "<lambda>")) b = some o := fun b o nb e => by
      rw [upd_ne (ne_of_none e nC), upd_ne nb]
      exact e
    have notP : ∀ d, H d = some (CodeO d (X.env.qual ++ "<lambda>")) → d ≠ P := fun d e z => by
      rw [z, atP] at e
      exact codeO_ne _ (Option.some.inj e).symm
    refine h h'.objs.size c' ((X.mg "__name__").getD .none) ctv _ _ ⟨J, stay, fun p hp => ?_, Heap.get?_push_size _ rfl, ?_, off _ size, upd_same⟩
    · by_cases hb : p.1 = P
      · rw [hu p hp hb, hb]
        have tl : (rows ++ #[rawInt pos.line, rawInt pos.col, .ref c']).toList = rows.toList ++ [rawInt pos.line, rawInt pos.col, .ref c'] := by simp
        refine ⟨_, by rw [upd_ne PC, upd_same], by rw [tl]; exact PySem.TriplesOk_snoc _ _ _ _ triples, fun p' cv hcv => ?_⟩
        rw [tl] at hcv
        rcases among_app _ triples hcv with z | z
        · obtain ⟨d, e1, e3⟩ := named p' cv z
          exact ⟨d, e1, stay _ _ (notP d e3) e3⟩
        · exact ⟨c', z, upd_same⟩
      · obtain ⟨rows2, a1, a2, a3⟩ := hT p hp
        refine ⟨rows2, stay _ _ hb a1, a2, fun p' cv hcv => ?_⟩
        obtain ⟨d, e1, e3⟩ := a3 p' cv hcv
        refine ⟨d, e1, stay _ _ (fun z => ?_) e3⟩
        rw [z, atP] at e3
        exact codeO_ne _ (Option.some.inj e3).symm
    · have n1 : h'.objs.size ≠ c' := Nat.ne_of_gt lt
      have n2 : h'.objs.size ≠ P := Nat.ne_of_gt (Nat.lt_of_lt_of_le (Heap.lt_size objP) size)
      rw [upd_ne n1, upd_ne n2]
      exact I.hok.fresh size
/-- x(), in the def that got the lambda; what it lets out is taken as that def takes it there -/
theorem pe_actW {T : List (Addr × Str)} {P : Addr} {H0 : Hp} {Ng : List Str} {qg : Str} {sg : Scope} {g f c' : Addr} {cdg pm ctv : Value} {params : Arguments} {body : Expr} {scope : Scope} {k i : Nat} {a : Str} {pn : List (Addr × Obj)} {xe : Value → Shared → Prop} {W : WX} {tb : XK → TE} {p1 p2 : Pos}
    (M : LamMade X T P params body scope pins σ H0 f c' pm ctv H s) (L : LamS X.env.scope scope) (hbind : ∀ (q : Str) (cl : List (Str × Addr)) (pm cv ctv : Value), bindArgs (PySem.W.kla_fn "<lambda>" q params body scope cl pm cv ctv) ⟨[], []⟩ = pure [])
    (tk : Takes ((cxOf CX0 X.prog X.w X.K X.mg X.base Ng qg sg g cdg X.A X.stack s H E0).nox.tr pn xe) W) (hr : Room (k + 1) (X.A.deeper (envOfC qg sg s.heap.objs.size g cdg)))
    (hbody : ∀ (E : XK) (A : Around) (outer : List PySem.Env) (s : Shared) (H : Hp), Room k (A.deeper (lamEnv X scope s.heap.objs.size f c')) → PE (lamCx X A outer s H E scope f c') body (tb E))
    (hN : Ng[i]? = some a) (hv : Vis sg a) (hd : (a == ("__debug__" : Str)) = false) (hcd : (a == ("__classdict__" : Str)) = false) :
    PE ((cxOf CX0 X.prog X.w X.K X.mg X.base Ng qg sg g cdg X.A X.stack s H E0).nox.tr pn xe) (.Call (.Name a p1) [] [] p2)
      (fun τ G Q => τ[i]? = some (some (.ref f)) ∧ G c' = some (CodeO c' (X.env.qual ++ "<lambda>")) ∧ tb (L2.WE W τ) σ G Q) := by
  refine ⟨fun pz sz τ G Q J ⟨slot, known, wish⟩ => ?_⟩
  refine wpAny_Call_Name_kw (thn ((pe_var (pos := p1) (i := i) hN hv hd hcd).run pz sz τ G (fun v G1 => v = .ref f ∧ G1 = G) J ⟨.ref f, slot, rfl, rfl⟩) ?_)
  rintro u s1 ⟨v, G1, J1, rv, rfl, rfl⟩
  obtain rfl : u = Value.ref f := rv
  have objF := J1.base.keep f _ M.obj M.new M.far (fun z => nomatch (show f ∈ ([] : List Addr) from z))
  refine PySem.W.callWith_F0 ⟨_, _, _, _, objF⟩ ?_
  have un : Un (frs X.stack) [] H G1 s.heap s1.heap := J1.base
  obtain ⟨⟨oc, vs, t, objC, dataC, nameC⟩, _, _⟩ := J1.hok c' _ known
  have ran : codeAny (model X.prog X.w) (X.A.deeper (envOfC qg sg s.heap.objs.size g cdg)) (.call (.ref f) ⟨[], []⟩) (CR (L2.CX X.prog X.w) (envOfC qg sg s.heap.objs.size g cdg :: X.stack) X.prog X.w G1 s1 Q (L2.WE W τ)) s1 := by
    refine PySem.W.kla_callFunE hr.depth objF rfl L.co L.gen rfl ⟨c', oc, vs, t, rfl, objC, dataC, nameC⟩ ?_
    rw [hbind]
    refine wpAny_pure (wpAny_newFunctionEnv (fun y hy => (L.own y hy).2) (fun y hy => absurd hy (by simp)) (fun h1 hns hsb => ⟨J1.nolimit.fresh _ hsb, ?_⟩) L.kind)
    show codeAny _ _ (.expr body (lamEnv X scope s1.heap.objs.size f c')) _ _
    have same : ∀ b o, s1.heap.get? b = some o → h1.get? b = some o := fun b o e => hsb.extBut b o (Nat.ne_of_lt (Heap.lt_size e)) (Heap.get?_push_of_some _ e)
    have J2 : Inv (lamCx X (X.A.deeper (envOfC qg sg s.heap.objs.size g cdg)) (envOfC qg sg s.heap.objs.size g cdg :: X.stack) s1 G1 (L2.WE W τ) scope f c') [] σ G1 { s1 with heap := h1, toks := s1.toks + ([] : List (Str × Value)).length } :=
      lam_start2 M.inv L J1.env0 hr.hd un hns same
    refine PySem.W.kla_codeExpr (wpAny_mono ((hbody _ _ _ s1 G1 (hr.deeper _)).run [] _ _ G1 Q J2 wish) ?_ fun e s' hq => hq)
    rintro w1 s2 ⟨w2, G2, J3, rw2, q⟩
    exact ⟨w2, G2, J3.os, J3.bare, J3.base, J3.hok, rw2, q⟩
  refine wpAny_call (codeAny_mono ran fun r s2 hq => ?_)
  match r, hq with
  | .error e, hq => exact passAt tk τ pz G1 s1 e s2 J1 hq
  | .ok (.ret u), hq => exact J1.after hq
end
end DW

/-! DW19: x(lambda: body) over data. -/
namespace DW
open PySem PySem.Spec L2 PyProof.Rows LamX
/-- what a lambda does, by data -/
abbrev BE := Nat → (D → Nat → Prop) → (Addr → List (Str × D) → Nat → Prop) → Prop
/-- what a def makes of it -/
abbrev FT := BE → Nat → (D → Nat → Prop) → Prop
def wAct (f : Addr) (be : BE) (wx : WD) : WE := fun ρ m Q => ρ[0]? = some (.raw (.ref f)) ∧ be m Q fun C fs m2 => wx C fs ρ m2
def actE (n : Nat) (f : Addr) : DW.Env := .raw (.ref f) :: List.replicate (n - 1) .un
/-- the context of such a def's body -/
abbrev zCx (P : Program) (w : World) (K : PySem.W.Frag) (mg : Str → Option Value) (base : Heap) (Ng : List Str) (x : Str) (st : Stmt) (g : Addr) (cdv : Value) (A : Around) (stack : List PySem.Env) (s : Shared) (H : Hp) : Cx := (cxOf CX0 P w K mg base Ng x (defScope st) g cdv A stack s H E0).nox
structure ActR (P : Program) (w : World) (K : PySem.W.Frag) (T : List (Addr × Str)) (mg : Str → Option Value) (base : Heap) (k : Nat) (x a : Str) (st : Stmt) (g : Addr) (Ng : List Str) (fwT : FT) : Prop where
  run : ∀ (A : Around) (stack : List PySem.Env) (s : Shared) (H : Hp) (cdv : Value) (f : Addr) (p : Option Addr) (cc : Addr) (B : List Addr) (tact : WX → TE) (be : BE), Room k (A.deeper (envOfC x (defScope st) s.heap.objs.size g cdv)) →
    (∀ (W : WX) (pn : List (Addr × Obj)) (xe : Value → Shared → Prop) (p1 p2 : Pos), Takes ((zCx P w K mg base Ng x st g cdv A stack s H).tr pn xe) W → PE ((zCx P w K mg base Ng x st g cdv A stack s H).tr pn xe) (.Call (.Name a p1) [] [] p2) (tact W)) →
    (∀ (W : WX) (H0 : Hp) (wx : WD), RelW K ⟨(c00 T p cc B H).toOrg, H0, none⟩ W wx → RdE K ⟨(c00 T p cc B H).toOrg, H0, none⟩ (tact W) (wAct f be wx)) →
    ∃ wb, Nonempty (DSs (zCx P w K mg base Ng x st g cdv A stack s H) (c00 T p cc B H) (defBody st) wb) ∧ ∀ m R, fwT be m R → wb { nx := fun _ m => R .non m, rt := R } (actE Ng.length f) m
structure LFn (P : Program) (w : World) (K : PySem.W.Frag) (T : List (Addr × Str)) (mg : Str → Option Value) (base : Heap) (k : Nat) (x : Str) (fwT : FT) : Prop where
  ex : ∃ (g : Addr) (a : Str) (st : Stmt) (fd : FuncData) (Ng : List Str), Fun K x x st g fd ∧ FnScope Ng [a] (defScope st) ∧ Ng[0]? = some a ∧ Vis (defScope st) a ∧ (a == ("__debug__" : Str)) = false ∧ (a == ("__classdict__" : Str)) = false ∧ mg x = some (.ref g) ∧ PySem.W.keepIn K (.ref g) = true ∧ Binds K fd [a] [] ∧
    ActR P w K T mg base k x a st g Ng fwT
/-- what a lambda may read of its maker's names -/
def Cell.bare : Cell → Cell
  | .dat d => .dat d
  | _ => .un
def wLam (fwT : FT) (wl : WD → WE) : WE := fun ρ m Q => fwT (fun m1 Qn Qx => wl (fun C fs _ m2 => Qx C fs m2) (ρ.map Cell.bare) m1 Qn) m Q
section
variable {K : PySem.W.Frag} {c : C0} {A : List Addr} {ρ : DW.Env} {m : Nat} {σ : L2.St} {H : Hp}
/-- the same place seen as a beginning -/
theorem Good.begin (G : Good K c A ρ m σ H) : Good K (c00 c.T c.p c.cc A H) A (ρ.map Cell.bare) m σ H := by
  refine ⟨⟨fun _ _ _ e => e, fun _ _ _ e => e, G.am, fun q e => ⟨G.sub _ (G.pin q e).1, G.sub _ (G.pin q e).2⟩, fun b h => G.sub b (G.tin b h), fun _ h => h, fun _ h => .inl h, G.thr⟩, by rw [List.length_map]; exact G.len, fun i k e => ?_⟩
  rw [List.getElem?_map] at e
  cases q : ρ[i]? with
  | none =>
    rw [q] at e
    cases e
  | some k0 =>
    rw [q] at e
    have e' : k0.bare = k := Option.some.inj e
    subst e'
    have z := G.cell i k0 q
    cases k0 with
    | dat d => exact z
    | un => trivial
    | own o => trivial
    | cau C fs => trivial
    | raw v => trivial
theorem ExcR.sub {p : Option Addr} {A B : List Addr} {cls : Value} {d : Option Addr} {C : Addr} {fs : List (Str × D)} (h : ExcR p K (cut A H) cls d C fs) (s : ∀ a ∈ B, a ∈ A) : ExcR p K (cut B H) cls d C fs := h.ext (cut_sub s)
end
section
variable {X : Cx} {c : C0} {x : Str} {p pos lpos : Pos}
theorem rel0 {K : PySem.W.Frag} {W : WX} : RelW K c W (fun _ _ _ _ => False) := fun _ _ _ _ _ _ _ _ _ _ _ z => z.elim
def de_lam {fwT : FT} {wl : WD → WE} {params : Arguments} {body : Expr} {scope : Scope} {cq P : Addr} {kc kb j : Nat} (F : LFn X.prog X.w X.K c.T X.mg X.base kc x fwT) (TB : TabB X.base X.mg cq P) (hcode : X.env.code = .ref cq) (hmT : (P, X.env.qual ++ "<lambda>") ∈ c.T)
    (hu : ∀ q ∈ c.T, q.1 = P → q.2 = X.env.qual ++ "<lambda>") (L : LamS X.env.scope scope) (hr : Room j X.A) (hj : kc + 1 ≤ j) (hj2 : kb + 2 ≤ j) (hk : kb + 1 ≤ kc) (hg : Gl X x)
    (d : ∀ (A : Around) (outer : List PySem.Env) (s : Shared) (H : Hp) (E : XK) (f c' : Addr) (B : List Addr) (G : Hp) (wx : WD), Room kb (A.deeper (lamEnv X scope s.heap.objs.size f c')) → Takes (lamCx X A outer s H E scope f c') (fun cls d _ H => E cls d H) → RelW X.K (c00 c.T c.p c.cc B G) (fun cls d _ H => E cls d H) wx →
      DE (lamCx X A outer s H E scope f c') (c00 c.T c.p c.cc B G) body (wl wx))
    (u : ∀ (A : Around) (outer : List PySem.Env) (s : Shared) (H : Hp) (E : XK) (f c' : Addr) (B : List Addr) (G : Hp) (wx : WD) h1 h2 h3 (g1 : Room kb (X.A.deeper (lamEnv X scope X.s_0.heap.objs.size 0 0))), (d A outer s H E f c' B G wx h1 h2 h3).t = (d X.A [] X.s_0 X.H_0 E 0 0 [] (fun _ => none) (fun _ _ _ _ => False) g1 (takes_of rfl rfl rfl rfl) rel0).t := by intros; rfl)
    (hdef : defaultsOf params X.env = ([], []) := by rfl) (hbind : ∀ (q : Str) (cl : List (Str × Addr)) (pm cv ctv : Value), bindArgs (PySem.W.kla_fn "<lambda>" q params body scope cl pm cv ctv) ⟨[], []⟩ = pure [] := by intros; rfl)
    (hdb : (x == ("__debug__" : Str)) = false := by decide) : DE X c (.Call (.Name x p) [.Lambda params body scope lpos] [] pos) (wLam fwT wl) :=
  ⟨fun σ H Q => X.Ok → Tabs c.T H ∧ ∀ (pins : List (Addr × Obj)) (f c' : Addr) (pm ctv : Value) (H1 : Hp) (s' : Shared) (g : Addr), X.mg x = some (.ref g) → LamMade X c.T P params body scope pins σ H f c' pm ctv H1 s' →
      codeAny (model X.prog X.w) X.A (.call (.ref g) ⟨[.ref f], []⟩) (CR CX0 X.stack X.prog X.w H1 s' Q E0) s', by
    obtain ⟨g, a, st, fd, Ng, hF, hS, hN, hV, hd1, hd2, hm, hkp, hb, hR⟩ := F.ex
    refine ⟨fun pins s σ H Q I h => ?_⟩
    obtain ⟨hT, h⟩ := h I.ok
    refine wpAny_Call_Name_kw (ld_glob I hg hm ?_ hdb)
    refine PySem.W.callWith_K (h₀ := X.base) I.ok.mod.kin hkp ?_ (by rfl) (by rfl)
    show wpAny _ _ (spliced ((false, eval (.Lambda params body scope lpos) X.env) :: backTo pos (starEach [] X.env))) _ _ s
    refine Calls.spliced_cons (lam_made I TB hcode hmT hu hT hdef (L.has I.ok) fun f c' pm ctv H1 s' M => ?_)
    refine Calls.spliced_nil ⟨M.inv.kIn, ?_⟩
    refine wpAny_call (codeAny_mono (h pins f c' pm ctv H1 s' g hm M) fun r s2 hq => ?_)
    match r, hq with
    | .error e, hq => exact (show False from hq).elim
    | .ok (.ret u), hq => exact M.inv.after hq, fun A ρ m σ H G Q Qv hw k => by
    intro ok
    refine ⟨G.am.tab, fun pins f c' pm ctv H1 s' g hmg M => ?_⟩
    obtain ⟨g2, a, st, fd, Ng, hF, hS, hN, hV, hd1, hd2, hm, hkp, hb, hR⟩ := F.ex
    obtain rfl : g2 = g := by
      rw [hm] at hmg
      cases hmg
      rfl
    have nVP : c.Vol P := .inr (List.mem_map_of_mem hmT)
    have kp : Keep c H H1 := fun b o nv e => M.ext b o (fun z => nv (by rw [z]; exact nVP)) e
    obtain ⟨rows, atP, _⟩ := G.am.tab _ hmT
    have am1 : c.Am m H1 := by
      refine ⟨fun q e => ?_, M.tab⟩
      obtain ⟨ns, i, dg, ct, fd, h1, h2, h3⟩ := (G.am.pen q e).ex
      refine ⟨ns, i, dg, ct, fd, M.ext _ _ (fun z => ?_) h1, M.ext _ _ (fun z => ?_) h2, h3⟩
      · rw [z, atP] at h1
        cases h1
      · rw [z, atP] at h2
        cases h2
    have G1 : Good X.K c A ρ m σ H1 := G.step kp am1
    have nVc : ¬ c.Vol c' := fun v => by
      rcases v with z | z
      · obtain ⟨_, _, _, _, _, h1, _⟩ := (am1.pen _ z).ex
        rw [M.code] at h1
        cases h1
      · obtain ⟨y, hy, ey⟩ := List.mem_map.mp z
        obtain ⟨rows2, h1, _⟩ := M.tab y hy
        rw [ey, M.code] at h1
        exact codeO_ne _ (Option.some.inj h1)
    refine run_def (us := [.ref f]) (vs := [.ref f]) (k := kc) hF hS (hr.mono hj) M.inv.env0 (by have := hb s' [.ref f] M.inv.kIn rfl; rwa [List.append_nil] at this) (.cons rfl .nil) rfl fun cdv hcd hr2 => ?_
    let be : BE := fun m1 Qn Qx => wl (fun C fs _ m2 => Qx C fs m2) (ρ.map Cell.bare) m1 Qn
    have g1 : Room kb (X.A.deeper (lamEnv X scope X.s_0.heap.objs.size 0 0)) := (hr.mono (show kb + 1 ≤ j by omega)).deeper _
    let tB : XK → TE := fun E => (d X.A [] X.s_0 X.H_0 E 0 0 [] (fun _ => none) (fun _ _ _ _ => False) g1 (takes_of rfl rfl rfl rfl) rel0).t
    obtain ⟨wb, ⟨D0⟩, fin⟩ := hR.run X.A X.stack s' H1 cdv f c.p c.cc A (fun W τ G Q => τ[0]? = some (some (.ref f)) ∧ G c' = some (CodeO c' (X.env.qual ++ "<lambda>")) ∧ tB (L2.WE W τ) σ G Q) be hr2
      (fun W pn xe p1 p2 tk => pe_actW (i := 0) (k := kb) M L hbind tk (hr2.mono hk) (fun E A' outer s2 H2 hr3 => by
        show PE _ _ (d X.A [] X.s_0 X.H_0 E 0 0 [] (fun _ => none) (fun _ _ _ _ => False) g1 (takes_of rfl rfl rfl rfl) rel0).t
        rw [← u A' outer s2 H2 E f c' [] (fun _ => none) (fun _ _ _ _ => False) (by
          have e : (lamEnv X scope s2.heap.objs.size f c') = (lamEnv X scope s2.heap.objs.size f c') := rfl
          exact ⟨hr3.hd, hr3.dp, hr3.un⟩) (takes_of rfl rfl rfl rfl) rel0 g1]
        exact (d A' outer s2 H2 E f c' [] (fun _ => none) (fun _ _ _ _ => False) _ _ _).pe) hN hV hd1 hd2)
      (fun W H0 wx hW A' ρ' m' τ G2 GG Q2 Qv2 hq k2 => by
        obtain ⟨e0, hbe⟩ := hq
        have slot : τ[0]? = some (some (.ref f)) := GG.cell 0 _ e0
        have keep2 : Keep c H1 G2 := fun b o nv e => GG.ex0 b o nv e
        have G3 : Good X.K c A' ρ m' σ G2 := G1.steps keep2 GG.am GG.sub (fun a ha => (GG.new a ha).imp id fun z => z.2) GG.thr
        refine ⟨slot, GG.ex0 c' _ nVc M.code, ?_⟩
        have rel : RelW X.K (c00 c.T c.p c.cc A' G2) (fun cls d _ H => L2.WE W τ cls d H) (fun C fs _ m2 => wx C fs ρ' m2) := fun A3 ρ3 m3 σ3 H3 G4 cls dd C fs xr z =>
          hW A' ρ' m3 τ H3 (GG.step (fun b o nv e => G4.ex b o nv e) G4.am) cls dd C fs (xr.sub G4.sub) z
        show (d X.A [] X.s_0 X.H_0 (L2.WE W τ) 0 0 [] (fun _ => none) (fun _ _ _ _ => False) g1 (takes_of rfl rfl rfl rfl) rel0).t σ G2 Qv2
        rw [← u X.A [] X.s_0 X.H_0 (L2.WE W τ) 0 0 A' G2 (fun C fs _ m2 => wx C fs ρ' m2) g1 (takes_of rfl rfl rfl rfl) rel g1]
        refine (d X.A [] X.s_0 X.H_0 (L2.WE W τ) 0 0 A' G2 (fun C fs _ m2 => wx C fs ρ' m2) g1 (takes_of rfl rfl rfl rfl) rel).rd A' _ m' σ G2 G3.begin Q2 Qv2 hbe fun v dd m3 H3 G4 k4 r4 q4 => ?_
        exact k2 v dd m3 H3 (GG.step (fun b o nv e => G4.ex b o nv e) G4.am) (fun b o nv e => G4.ex b o nv e) r4 q4)
    refine ⟨D0.t, D0.pe.nox, ?_⟩
    have start : Good X.K (c00 c.T c.p c.cc A H1) A (actE Ng.length f) m (L2.start Ng [V.ref f]) H1 := by
      have l0 : (L2.start Ng [V.ref f]) = (some (V.ref f)) :: List.replicate (Ng.length - 1) none := rfl
      refine ⟨G1.begin.toBase, by rw [l0]; unfold actE; rw [List.length_cons, List.length_cons, List.length_replicate, List.length_replicate], fun i kk e => ?_⟩
      unfold actE at e
      cases i with
      | zero =>
        cases e
        rfl
      | succ i =>
        rw [List.getElem?_cons_succ, List.getElem?_replicate] at e
        split at e
        · cases e
          trivial
        · cases e
    refine D0.rd A _ m _ H1 start { nx := fun _ m => Q .non m, rt := Q } _ (fin m Q hw) (fun A' ρ' m' σ' H' G' s p => ?_) (fun v d' A' m' H' G' rep p => ?_) (fun _ _ _ _ _ _ _ z => z.elim) (fun _ _ _ _ _ _ _ z => z.elim)
    · exact k .non .non m' H' (G1.step (fun b o nv e => G'.ex b o nv e) G'.am) (kp.trans fun b o nv e => G'.ex b o nv e) .non p
    · exact k v d' m' H' (G1.step (fun b o nv e => G'.ex b o nv e) G'.am) (kp.trans fun b o nv e => G'.ex b o nv e) (rep.ext (cut_sub G'.sub)) p⟩
end
end DW

/-! DW20: == and != item by item, whatever the answer, while objects are made. -/
namespace DW
open PySem PySem.Spec
open PySem.SeqAt
open AutoSeq1 (wpAny_loadPart')
open MeetsSeq MeetsSeq2 MeetsSeq3 SeqRoads2
section
variable {prog : Program} {w : World} {A : Around} {R : Result → Shared → Prop}
/-- the answer of a loop over pairs -/
def pairsB (e : Nat → Bool) (a b : Nat) : Bool := (List.range (min a b)).all e && a == b
theorem pairs_no {e : Nat → Bool} {a b i : Nat} (h : i < min a b) (h0 : e i = false) : pairsB e a b = false := by
  have : (List.range (min a b)).all e = false := by
    rw [← Bool.not_eq_true, List.all_eq_true]
    intro z
    have := z i (List.mem_range.mpr h)
    rw [h0] at this
    cases this
  unfold pairsB
  rw [this]
  rfl
theorem pairs_end {e : Nat → Bool} {a b i : Nat} (h : min a b ≤ i) (he : ∀ j, j < i → e j = true) : pairsB e a b = (a == b) := by
  have : (List.range (min a b)).all e = true := List.all_eq_true.mpr fun j hj => he j (Nat.lt_of_lt_of_le (List.mem_range.mp hj) h)
  unfold pairsB
  rw [this]
  rfl
theorem tup_eqB (l b : Addr) (xs ys : Array Value) (n n2 : Nat) (dd dd2 : Option Addr) (sl sl2 : Array (Option Value)) (e : Nat → Bool) (I : Nat → Shared → Prop)
    (turn : ∀ i (h1 : i < xs.size) (h2 : i < ys.size) s, I i s → wpAny (model prog w) A.in1 (eqBool xs[i] ys[i]) (fun r s' => r = e i ∧ I (i + 1) s') (fun er s' => R (.error er) s') s)
    (fin : ∀ i s, I i s → R (.ok (.ret (.bool (pairsB e xs.size ys.size)))) s) {s : Shared} (hl1 : s.heap.get? l = some { cls := .type "tuple", dict := dd, data := .seq xs n, slots := sl }) (hb1 : s.heap.get? b = some { cls := .type "tuple", dict := dd2, data := .seq ys n2, slots := sl2 }) (h : I 0 s) :
    wpAny (model prog w) A.in1 (Builtin.«tuple.__eq__» ⟨[.ref l, .ref b], []⟩) (GQ.FinOf prog w A R) (fun er s' => R (.error er) s') s := by
  have sub2 := AutoSeq1.sub_tuple_tuple
  have len : (xs.toList.zip ys.toList).length = min xs.size ys.size := by simp
  have h0 := h
  obtain ⟨hp, g, d, tk, os⟩ := s
  wp_walk using wpAny_loadPart' hl1, wpAny_loadPart' hb1, wpAny_forIn_list _ (fun rest b s' => b.1 = none ∧ ∃ i, rest = (xs.toList.zip ys.toList).drop i ∧ (∀ j, j < i → e j = true) ∧ I i s') _
  case turn =>
    rintro ⟨y, x⟩ rest b s' ⟨hb', i, hz, he, hI⟩
    have lt : i < (xs.toList.zip ys.toList).length := by
      by_cases q : i < (xs.toList.zip ys.toList).length
      · exact q
      · rw [List.drop_of_length_le (Nat.le_of_not_lt q)] at hz
        cases hz
    have hm : i < min xs.size ys.size := len ▸ lt
    have h1 : i < xs.size := by omega
    have h2 : i < ys.size := by omega
    rw [List.drop_eq_getElem_cons lt] at hz
    injection hz with hyx hrest
    obtain rfl : y = xs[i] := by simpa using congrArg Prod.fst hyx
    obtain rfl : x = ys[i] := by simpa using congrArg Prod.snd hyx
    refine wpAny_bind (wpAny_mono (turn i h1 h2 s' hI) (fun r s2 q2 => ?_) fun _ _ x => x)
    obtain ⟨rfl, q2⟩ := q2
    cases hy : e i with
    | true =>
      wp_walk
      exact ⟨rfl, i + 1, hrest, fun j hj => (Nat.lt_succ_iff_lt_or_eq.mp hj).elim (he j) fun z => by rw [z]; exact hy, q2⟩
    | false =>
      have hR := fin _ _ q2
      rw [pairs_no hm hy] at hR
      wp_walk
      exact hR
  case fin =>
    rintro ⟨b1, b2⟩ s' ⟨hb', i, hz, he, hI⟩
    simp only at hb'
    subst hb'
    have ge : min xs.size ys.size ≤ i := by
      by_cases q : i < (xs.toList.zip ys.toList).length
      · rw [List.drop_eq_getElem_cons q] at hz
        cases hz
      · omega
    have hR := fin _ _ hI
    rw [pairs_end ge he] at hR
    wp_walk
    simpa [Builtin.Tuple.tupleCompareSizes] using hR
  case h =>
    exact ⟨rfl, 0, rfl, fun j z => absurd z (Nat.not_lt_zero j), h0⟩
theorem tup_neB (l b : Addr) (xs ys : Array Value) (n n2 : Nat) (dd dd2 : Option Addr) (sl sl2 : Array (Option Value)) (e : Nat → Bool) (I : Nat → Shared → Prop)
    (turn : ∀ i (h1 : i < xs.size) (h2 : i < ys.size) s, I i s → wpAny (model prog w) A.in1 (eqBool xs[i] ys[i]) (fun r s' => r = e i ∧ I (i + 1) s') (fun er s' => R (.error er) s') s)
    (fin : ∀ i s, I i s → R (.ok (.ret (.bool (!pairsB e xs.size ys.size)))) s) {s : Shared} (hl1 : s.heap.get? l = some { cls := .type "tuple", dict := dd, data := .seq xs n, slots := sl }) (hb1 : s.heap.get? b = some { cls := .type "tuple", dict := dd2, data := .seq ys n2, slots := sl2 }) (h : I 0 s) :
    wpAny (model prog w) A.in1 (Builtin.«tuple.__ne__» ⟨[.ref l, .ref b], []⟩) (GQ.FinOf prog w A R) (fun er s' => R (.error er) s') s := by
  have sub2 := AutoSeq1.sub_tuple_tuple
  have len : (xs.toList.zip ys.toList).length = min xs.size ys.size := by simp
  have h0 := h
  obtain ⟨hp, g, d, tk, os⟩ := s
  wp_walk using wpAny_loadPart' hl1, wpAny_loadPart' hb1, wpAny_forIn_list _ (fun rest b s' => b.1 = none ∧ ∃ i, rest = (xs.toList.zip ys.toList).drop i ∧ (∀ j, j < i → e j = true) ∧ I i s') _
  case turn =>
    rintro ⟨y, x⟩ rest b s' ⟨hb', i, hz, he, hI⟩
    have lt : i < (xs.toList.zip ys.toList).length := by
      by_cases q : i < (xs.toList.zip ys.toList).length
      · exact q
      · rw [List.drop_of_length_le (Nat.le_of_not_lt q)] at hz
        cases hz
    have hm : i < min xs.size ys.size := len ▸ lt
    have h1 : i < xs.size := by omega
    have h2 : i < ys.size := by omega
    rw [List.drop_eq_getElem_cons lt] at hz
    injection hz with hyx hrest
    obtain rfl : y = xs[i] := by simpa using congrArg Prod.fst hyx
    obtain rfl : x = ys[i] := by simpa using congrArg Prod.snd hyx
    refine wpAny_bind (wpAny_mono (turn i h1 h2 s' hI) (fun r s2 q2 => ?_) fun _ _ x => x)
    obtain ⟨rfl, q2⟩ := q2
    cases hy : e i with
    | true =>
      wp_walk
      exact ⟨rfl, i + 1, hrest, fun j hj => (Nat.lt_succ_iff_lt_or_eq.mp hj).elim (he j) fun z => by rw [z]; exact hy, q2⟩
    | false =>
      have hR := fin _ _ q2
      rw [pairs_no hm hy] at hR
      wp_walk
      exact hR
  case fin =>
    rintro ⟨b1, b2⟩ s' ⟨hb', i, hz, he, hI⟩
    simp only at hb'
    subst hb'
    have ge : min xs.size ys.size ≤ i := by
      by_cases q : i < (xs.toList.zip ys.toList).length
      · rw [List.drop_eq_getElem_cons q] at hz
        cases hz
      · omega
    have hR := fin _ _ hI
    rw [pairs_end ge he] at hR
    wp_walk
    simpa [Builtin.Tuple.tupleCompareSizes, bne] using hR
  case h =>
    exact ⟨rfl, 0, rfl, fun j z => absurd z (Nat.not_lt_zero j), h0⟩
/-- lists are read anew at each turn -/
def ListR (prog : Program) (w : World) (A : Around) (E : Value → Shared → Prop) (l b : Addr) (N : Nat) (e : Nat → Bool) (I : Nat → Shared → Prop) : Prop :=
  ∀ i s, I i s → ∃ (xs ys : Array Value) (n n2 : Nat), s.heap.get? l = some { cls := .type "list", data := .seq xs n } ∧ s.heap.get? b = some { cls := .type "list", data := .seq ys n2 } ∧ xs.size = N ∧ ys.size = N ∧
    ∀ (h1 : i < xs.size) (h2 : i < ys.size), wpAny (model prog w) A.in1 (eqBool xs[i] ys[i]) (fun r s' => r = e i ∧ I (i + 1) s') E s
theorem lst_loopB (l b : Addr) (N : Nat) (e : Nat → Bool) (I : Nat → Shared → Prop) (hl : ListR prog w A (fun er s' => R (.error er) s') l b N e I) (fin : ∀ i s, I i s → R (.ok (.ret (.bool (pairsB e N N)))) s) (k : Nat) :
    ∀ i : Nat, N - i = k → i ≤ N → (∀ j, j < i → e j = true) → ∀ s, I i s →
      wpAny (model prog w) A.in1 (Builtin.«list.__eq__.loop» ⟨[.ref l, .ref b, rawInt i, rawInt 2], []⟩) (GQ.FinOf prog w A R) (fun er s' => R (.error er) s') s := by
  induction k with
  | zero =>
    intro i hk hi he s h
    obtain ⟨xs, ys, n, n2, hl1, hb1, hs1, hs2, _⟩ := hl _ _ h
    have ei : i = N := by omega
    have hR := fin _ _ h
    rw [pairs_end (i := i) (by omega) he] at hR
    obtain ⟨hp, g, d, tk, os⟩ := s
    wp_walk using wpAny_loadPart' hl1, wpAny_loadPart' hb1
    have o1 : xs[((i : Nat) : Int).toNat]? = none := by simp; omega
    have o2 : ys[((i : Nat) : Int).toNat]? = none := by simp; omega
    rw [o1, o2]
    wp_walk using wpAny_loadPart' hl1, wpAny_loadPart' hb1
    show R (.ok (.ret (.bool (xs.size == ys.size)))) _
    rw [hs1, hs2]
    exact hR
  | succ k ih =>
    intro i hk hi he s h
    obtain ⟨xs, ys, n, n2, hl1, hb1, hs1, hs2, turn⟩ := hl _ _ h
    have lt1 : i < xs.size := by omega
    have lt2 : i < ys.size := by omega
    have ht := turn lt1 lt2
    obtain ⟨hp, g, d, tk, os⟩ := s
    wp_walk using wpAny_loadPart' hl1, wpAny_loadPart' hb1
    have o1 : xs[((i : Nat) : Int).toNat]? = some xs[i] := by simp [lt1]
    have o2 : ys[((i : Nat) : Int).toNat]? = some ys[i] := by simp [lt2]
    have up : ((i : Int) + 1) = ((i + 1 : Nat) : Int) := by omega
    rw [o1, o2]
    refine wpAny_bind (wpAny_mono ht (fun r s2 h2 => ?_) fun _ _ x => x)
    obtain ⟨rfl, h2⟩ := h2
    cases hy : e i with
    | true =>
      have again := ih (i + 1) (by omega) (by omega) (fun j hj => (Nat.lt_succ_iff_lt_or_eq.mp hj).elim (he j) fun z => by rw [z]; exact hy) s2 h2
      obtain ⟨hp2, g2, d2, tk2, os2⟩ := s2
      wp_walk
      rw [up]
      refine ⟨plainId_quiet plain_eq_loop _, codeAny_builtin entry_eq_loop ?_⟩
      rw [Around.under_plainId plain_eq_loop _]
      exact again
    | false =>
      obtain ⟨xs2, ys2, m, m2, hl2, hb2, hs3, hs4, _⟩ := hl _ _ h2
      have hR := fin _ _ h2
      rw [pairs_no (i := i) (by omega) hy] at hR
      have o3 : xs2[((i : Nat) : Int).toNat]? = some (xs2[i]'(by omega)) := by simp
      have o4 : ys2[((i : Nat) : Int).toNat]? = some (ys2[i]'(by omega)) := by simp
      obtain ⟨hp2, g2, d2, tk2, os2⟩ := s2
      wp_walk using wpAny_loadPart' hl2, wpAny_loadPart' hb2
      rw [o3, o4]
      wp_walk
      exact hR
theorem lst_eqB (l b : Addr) (N : Nat) (e : Nat → Bool) (I : Nat → Shared → Prop) (hl : ListR prog w A (fun er s' => R (.error er) s') l b N e I) (fin : ∀ i s, I i s → R (.ok (.ret (.bool (pairsB e N N)))) s) {s : Shared} (h : I 0 s) :
    wpAny (model prog w) A.in1 (Builtin.«list.__eq__» ⟨[.ref l, .ref b], []⟩) (GQ.FinOf prog w A R) (fun er s' => R (.error er) s') s := by
  obtain ⟨xs, ys, n, n2, hl1, hb1, hs1, hs2, _⟩ := hl _ _ h
  have run := lst_loopB (A := A) (R := R) l b N e I hl fin _ 0 rfl (Nat.zero_le _) (fun j z => absurd z (Nat.not_lt_zero j)) s h
  obtain ⟨hp, g, d, tk, os⟩ := s
  have sub2 := AutoSeq1.sub_list_list
  have hne : ¬ (xs.size != ys.size) = true := by simp [hs1, hs2]
  wp_walk using wpAny_loadPart' hl1, wpAny_loadPart' hb1
  refine ⟨plainId_quiet plain_eq_loop _, codeAny_builtin entry_eq_loop ?_⟩
  rw [Around.under_plainId plain_eq_loop _]
  exact run
theorem lst_loopNe (l b : Addr) (N : Nat) (e : Nat → Bool) (I : Nat → Shared → Prop) (hl : ListR prog w A (fun er s' => R (.error er) s') l b N e I) (fin : ∀ i s, I i s → R (.ok (.ret (.bool (!pairsB e N N)))) s) (k : Nat) :
    ∀ i : Nat, N - i = k → i ≤ N → (∀ j, j < i → e j = true) → ∀ s, I i s →
      wpAny (model prog w) A.in1 (Builtin.«list.__eq__.loop» ⟨[.ref l, .ref b, rawInt i, rawInt 3], []⟩) (GQ.FinOf prog w A R) (fun er s' => R (.error er) s') s := by
  induction k with
  | zero =>
    intro i hk hi he s h
    obtain ⟨xs, ys, n, n2, hl1, hb1, hs1, hs2, _⟩ := hl _ _ h
    have ei : i = N := by omega
    have hR := fin _ _ h
    rw [pairs_end (i := i) (by omega) he] at hR
    obtain ⟨hp, g, d, tk, os⟩ := s
    wp_walk using wpAny_loadPart' hl1, wpAny_loadPart' hb1
    have o1 : xs[((i : Nat) : Int).toNat]? = none := by simp; omega
    have o2 : ys[((i : Nat) : Int).toNat]? = none := by simp; omega
    rw [o1, o2]
    wp_walk using wpAny_loadPart' hl1, wpAny_loadPart' hb1
    show R (.ok (.ret (.bool (xs.size != ys.size)))) _
    rw [hs1, hs2]
    exact hR
  | succ k ih =>
    intro i hk hi he s h
    obtain ⟨xs, ys, n, n2, hl1, hb1, hs1, hs2, turn⟩ := hl _ _ h
    have lt1 : i < xs.size := by omega
    have lt2 : i < ys.size := by omega
    have ht := turn lt1 lt2
    obtain ⟨hp, g, d, tk, os⟩ := s
    wp_walk using wpAny_loadPart' hl1, wpAny_loadPart' hb1
    have o1 : xs[((i : Nat) : Int).toNat]? = some xs[i] := by simp [lt1]
    have o2 : ys[((i : Nat) : Int).toNat]? = some ys[i] := by simp [lt2]
    have up : ((i : Int) + 1) = ((i + 1 : Nat) : Int) := by omega
    rw [o1, o2]
    refine wpAny_bind (wpAny_mono ht (fun r s2 h2 => ?_) fun _ _ x => x)
    obtain ⟨rfl, h2⟩ := h2
    cases hy : e i with
    | true =>
      have again := ih (i + 1) (by omega) (by omega) (fun j hj => (Nat.lt_succ_iff_lt_or_eq.mp hj).elim (he j) fun z => by rw [z]; exact hy) s2 h2
      obtain ⟨hp2, g2, d2, tk2, os2⟩ := s2
      wp_walk
      rw [up]
      refine ⟨plainId_quiet plain_eq_loop _, codeAny_builtin entry_eq_loop ?_⟩
      rw [Around.under_plainId plain_eq_loop _]
      exact again
    | false =>
      obtain ⟨xs2, ys2, m, m2, hl2, hb2, hs3, hs4, _⟩ := hl _ _ h2
      have hR := fin _ _ h2
      rw [pairs_no (i := i) (by omega) hy] at hR
      have o3 : xs2[((i : Nat) : Int).toNat]? = some (xs2[i]'(by omega)) := by simp
      have o4 : ys2[((i : Nat) : Int).toNat]? = some (ys2[i]'(by omega)) := by simp
      obtain ⟨hp2, g2, d2, tk2, os2⟩ := s2
      wp_walk using wpAny_loadPart' hl2, wpAny_loadPart' hb2
      rw [o3, o4]
      wp_walk
      exact hR
theorem lst_neB (l b : Addr) (N : Nat) (e : Nat → Bool) (I : Nat → Shared → Prop) (hl : ListR prog w A (fun er s' => R (.error er) s') l b N e I) (fin : ∀ i s, I i s → R (.ok (.ret (.bool (!pairsB e N N)))) s) {s : Shared} (h : I 0 s) :
    wpAny (model prog w) A.in1 (Builtin.«list.__ne__» ⟨[.ref l, .ref b], []⟩) (GQ.FinOf prog w A R) (fun er s' => R (.error er) s') s := by
  obtain ⟨xs, ys, n, n2, hl1, hb1, hs1, hs2, _⟩ := hl _ _ h
  have run := lst_loopNe (A := A) (R := R) l b N e I hl fin _ 0 rfl (Nat.zero_le _) (fun j z => absurd z (Nat.not_lt_zero j)) s h
  obtain ⟨hp, g, d, tk, os⟩ := s
  have sub2 := AutoSeq1.sub_list_list
  have hne : ¬ (xs.size != ys.size) = true := by simp [hs1, hs2]
  wp_walk using wpAny_loadPart' hl1, wpAny_loadPart' hb1
  refine ⟨plainId_quiet plain_eq_loop _, codeAny_builtin entry_eq_loop ?_⟩
  rw [Around.under_plainId plain_eq_loop _]
  exact run
end
section
variable {prog : Program} {w : World} {A : Around} {E : Value → Shared → Prop} {s : Shared}
theorem rc_lstB {l b : Addr} {N : Nat} {e : Nat → Bool} {Q : Value → Shared → Prop} (hu : A.units < cLine) (I : Nat → Shared → Prop) (hl : ListR prog w A E l b N e I) (fin : ∀ i s, I i s → Q (.bool (pairsB e N N)) s) (h : I 0 s) :
    wpAny (model prog w) A (richCompare .Eq (.ref l) (.ref b)) Q E s := by
  obtain ⟨xs, ys, n, n2, hl1, hb1, _, _, _⟩ := hl _ _ h
  refine wpAny_richCompare_same_room (op := .Eq) ⟨_, hl1, rfl⟩ ⟨_, hb1, rfl⟩ F.slot_list_eq (GQ.call_here F.slot_list_eq ⟨_, hl1, rfl⟩ F.entry_list_eq (F.args_list_eq_2 _ _) ?_) hu
  exact lst_eqB (R := wants (fun v s' => v ≠ .notImplemented ∧ Q v s') E) l b N e I hl (fun i s' q => ⟨(fun x => nomatch x), fin i s' q⟩) h
theorem rc_lstNe {l b : Addr} {N : Nat} {e : Nat → Bool} {Q : Value → Shared → Prop} (hu : A.units < cLine) (I : Nat → Shared → Prop) (hl : ListR prog w A E l b N e I) (fin : ∀ i s, I i s → Q (.bool (!pairsB e N N)) s) (h : I 0 s) :
    wpAny (model prog w) A (richCompare .NotEq (.ref l) (.ref b)) Q E s := by
  obtain ⟨xs, ys, n, n2, hl1, hb1, _, _, _⟩ := hl _ _ h
  refine wpAny_richCompare_same_room (op := .NotEq) ⟨_, hl1, rfl⟩ ⟨_, hb1, rfl⟩ F.slot_list_ne (GQ.call_here F.slot_list_ne ⟨_, hl1, rfl⟩ F.entry_list_ne (F.args_list_ne_2 _ _) ?_) hu
  exact lst_neB (R := wants (fun v s' => v ≠ .notImplemented ∧ Q v s') E) l b N e I hl (fun i s' q => ⟨(fun x => nomatch x), fin i s' q⟩) h
theorem rc_tupB {l b : Addr} {xs ys : Array Value} {e : Nat → Bool} {Q : Value → Shared → Prop} (hu : A.units < cLine) (I : Nat → Shared → Prop) (hl : s.heap.IsTuple l xs) (hb : s.heap.IsTuple b ys)
    (turn : ∀ i (h1 : i < xs.size) (h2 : i < ys.size) s, I i s → wpAny (model prog w) A.in1 (eqBool xs[i] ys[i]) (fun r s' => r = e i ∧ I (i + 1) s') E s)
    (fin : ∀ i s, I i s → Q (.bool (pairsB e xs.size ys.size)) s) (h : I 0 s) : wpAny (model prog w) A (richCompare .Eq (.ref l) (.ref b)) Q E s := by
  obtain ⟨⟨cls, dd, data, sl⟩, ho, hc, n, hd⟩ := id hl
  obtain ⟨⟨cls2, dd2, data2, sl2⟩, ho2, hc2, n2, hd2⟩ := id hb
  simp only at hc hd hc2 hd2
  subst hc hd hc2 hd2
  refine wpAny_richCompare_same_room (op := .Eq) ⟨_, ho, rfl⟩ ⟨_, ho2, rfl⟩ F.slot_tuple_eq (GQ.call_here F.slot_tuple_eq ⟨_, ho, rfl⟩ F.entry_tuple_eq (F.args_tuple_eq_2 _ _) ?_) hu
  exact tup_eqB (R := wants (fun v s' => v ≠ .notImplemented ∧ Q v s') E) l b xs ys n n2 dd dd2 sl sl2 e I turn (fun i s' q => ⟨(fun x => nomatch x), fin i s' q⟩) ho ho2 h
theorem rc_tupNeB {l b : Addr} {xs ys : Array Value} {e : Nat → Bool} {Q : Value → Shared → Prop} (hu : A.units < cLine) (I : Nat → Shared → Prop) (hl : s.heap.IsTuple l xs) (hb : s.heap.IsTuple b ys)
    (turn : ∀ i (h1 : i < xs.size) (h2 : i < ys.size) s, I i s → wpAny (model prog w) A.in1 (eqBool xs[i] ys[i]) (fun r s' => r = e i ∧ I (i + 1) s') E s)
    (fin : ∀ i s, I i s → Q (.bool (!pairsB e xs.size ys.size)) s) (h : I 0 s) : wpAny (model prog w) A (richCompare .NotEq (.ref l) (.ref b)) Q E s := by
  obtain ⟨⟨cls, dd, data, sl⟩, ho, hc, n, hd⟩ := id hl
  obtain ⟨⟨cls2, dd2, data2, sl2⟩, ho2, hc2, n2, hd2⟩ := id hb
  simp only at hc hd hc2 hd2
  subst hc hd hc2 hd2
  refine wpAny_richCompare_same_room (op := .NotEq) ⟨_, ho, rfl⟩ ⟨_, ho2, rfl⟩ F.slot_tuple_ne (GQ.call_here F.slot_tuple_ne ⟨_, ho, rfl⟩ F.entry_tuple_ne (F.args_tuple_ne_2 _ _) ?_) hu
  exact tup_neB (R := wants (fun v s' => v ≠ .notImplemented ∧ Q v s') E) l b xs ys n n2 dd dd2 sl sl2 e I turn (fun i s' q => ⟨(fun x => nomatch x), fin i s' q⟩) ho ho2 h
end
end DW

/-! DW21: == of any data, by data. -/
namespace DW
open PySem PySem.Spec L2 PyProof.Rows
mutual
def D.eqb : D → D → Bool
  | .non, .non => true
  | .bl a, .bl b => a == b
  | .bl a, .int j => (if a then 1 else 0) == j
  | .int i, .bl b => i == (if b then 1 else 0)
  | .int i, .int j => i == j
  | .str x, .str y => x == y
  | .lst xs, .lst ys => eqbA xs ys
  | .tup xs, .tup ys => eqbA xs ys
  | .obj C fs, .obj C' gs => C == C' && eqbF fs gs
  | .dct fs, .dct gs => eqbF fs gs
  | _, _ => false
def eqbA : List D → List D → Bool
  | [], [] => true
  | x :: xs, y :: ys => x.eqb y && eqbA xs ys
  | _, _ => false
def eqbF : List (Str × D) → List (Str × D) → Bool
  | [], [] => true
  | (f, x) :: r, (g, y) :: s => decide (f = g) && (x.eqb y && eqbF r s)
  | _, _ => false
end
mutual
/-- without objects, of texts that the model lays -/
def D.pl : D → Bool
  | .non => true
  | .bl _ => true
  | .int _ => true
  | .str x => PyData.strOk x
  | .lst ds => plA ds
  | .tup ds => plA ds
  | _ => false
def plA : List D → Bool
  | [] => true
  | d :: ds => d.pl && plA ds
end
mutual
def D.dep : D → Nat
  | .lst ds => depA ds + 1
  | .tup ds => depA ds + 1
  | _ => 0
def depA : List D → Nat
  | [] => 0
  | d :: ds => max d.dep (depA ds)
end
mutual
theorem pl_py : ∀ {d : D}, d.pl = true → ∃ q, d.py = some q ∧ q.canLay0 = true ∧ q.depth = d.dep
  | .non, _ => ⟨.none, by simp [D.py], by simp [PyData.canLay0], by simp [PyData.depth, D.dep]⟩
  | .bl b, _ => ⟨.bool b, by simp [D.py], by simp [PyData.canLay0], by simp [PyData.depth, D.dep]⟩
  | .int i, _ => ⟨.int i, by simp [D.py], by simp [PyData.canLay0], by simp [PyData.depth, D.dep]⟩
  | .str x, h => ⟨.str x, by simp [D.py], by rw [PyData.canLay0]; rwa [D.pl] at h, by simp [PyData.depth, D.dep]⟩
  | .lst ds, h => by
    rw [D.pl] at h
    obtain ⟨qs, h1, h2, h3⟩ := pl_pyA h
    exact ⟨.list qs, by rw [D.py, h1]; rfl, by rw [PyData.canLay0]; exact h2, by rw [PyData.depth, D.dep, h3]⟩
  | .tup ds, h => by
    rw [D.pl] at h
    obtain ⟨qs, h1, h2, h3⟩ := pl_pyA h
    exact ⟨.tuple qs, by rw [D.py, h1]; rfl, by rw [PyData.canLay0]; exact h2, by rw [PyData.depth, D.dep, h3]⟩
  | .obj _ _, h => by simp [D.pl] at h
  | .exc _ _, h => by simp [D.pl] at h
  | .dct _, h => by simp [D.pl] at h
  | .pen, h => by simp [D.pl] at h
  | .opq, h => by simp [D.pl] at h
  | .gf _, h => by simp [D.pl] at h
theorem pl_pyA : ∀ {ds : List D}, plA ds = true → ∃ qs, pyAll ds = some qs ∧ PyData.canLayAll0 qs = true ∧ PyData.depthAll qs = depA ds
  | [], _ => ⟨[], by simp [pyAll], by simp [PyData.canLayAll0], by simp [PyData.depthAll, depA]⟩
  | d :: ds, h => by
    rw [plA, Bool.and_eq_true] at h
    obtain ⟨q, h1, h2, h3⟩ := pl_py h.1
    obtain ⟨qs, k1, k2, k3⟩ := pl_pyA h.2
    exact ⟨q :: qs, by rw [pyAll, h1, k1], by rw [PyData.canLayAll0, h2, k2]; rfl, by rw [PyData.depthAll, depA, h3, k3]⟩
end
mutual
theorem eqv_eqb : ∀ {d e : D} {q r : PyData}, d.py = some q → e.py = some r → PyData.eqv q r = d.eqb e := by
  intro d e q r h1 h2
  cases d <;> cases e <;> simp only [D.py, Option.map_eq_some_iff, Option.some.injEq, reduceCtorEq] at h1 h2 <;> (try obtain ⟨qs, h1, rfl⟩ := h1) <;> (try obtain ⟨rs, h2, rfl⟩ := h2) <;> (try subst h1) <;> (try subst h2) <;> (try (simp [PyData.eqv, D.eqb]; done))
  · rw [PyData.eqv, D.eqb]
    exact eqv_eqbA h1 h2
  · rw [PyData.eqv, D.eqb]
    exact eqv_eqbA h1 h2
theorem eqv_eqbA : ∀ {ds es : List D} {qs rs : List PyData}, pyAll ds = some qs → pyAll es = some rs → PyData.eqvAll qs rs = eqbA ds es
  | [], [], _, _, h1, h2 => by
    simp [pyAll] at h1 h2
    subst h1
    subst h2
    simp [PyData.eqvAll, eqbA]
  | [], e :: es, _, _, h1, h2 => by
    simp [pyAll] at h1
    subst h1
    rw [pyAll] at h2
    split at h2 <;> cases h2
    simp [PyData.eqvAll, eqbA]
  | d :: ds, [], _, _, h1, h2 => by
    simp [pyAll] at h2
    subst h2
    rw [pyAll] at h1
    split at h1 <;> cases h1
    simp [PyData.eqvAll, eqbA]
  | d :: ds, e :: es, _, _, h1, h2 => by
    rw [pyAll] at h1 h2
    split at h1
    · rename_i a as ha has
      cases h1
      split at h2
      · rename_i b bs hb hbs
        cases h2
        rw [PyData.eqvAll, eqbA, eqv_eqb ha hb, eqv_eqbA has hbs]
      · cases h2
    · cases h1
end
end DW

/-! DW22: which data may be compared; the same value is equal to itself. -/
namespace DW
open PySem PySem.Spec L2 PyProof.Rows
/-- how deep an own class's __eq__ may go, what else is asked of the fields -/
structure Lev where
  n : Addr → Nat
  ok : Addr → List (Str × D) → List (Str × D) → Bool
instance : CoeFun Lev (fun _ => Addr → Nat) := ⟨Lev.n⟩
mutual
def D.need (lev : Lev) : D → Nat
  | .lst ds => needA lev ds + 1
  | .tup ds => needA lev ds + 1
  | .obj C _ => lev C
  | _ => 0
def needA (lev : Lev) : List D → Nat
  | [] => 0
  | d :: ds => max (d.need lev) (needA lev ds)
end
def needF (lev : Lev) (fs : List (Str × D)) : Nat := needA lev (fs.map (·.2))
mutual
def cmpOk (lev : Lev) : D → D → Bool
  | .tup xs, .tup ys => cmpA lev xs ys
  | .lst xs, .lst ys => cmpA lev xs ys
  | .obj C fs, .obj C' gs => decide (0 < lev C) && decide (0 < lev C') && (!decide (C = C') || (cmpF lev fs gs && (decide (needF lev fs < lev C) && lev.ok C fs gs)))
  | .obj C _, .dct _ => decide (0 < lev C)
  | .obj C _, .lst _ => decide (0 < lev C)
  | .obj C _, .tup _ => decide (0 < lev C)
  | .obj C _, .non => decide (0 < lev C)
  | .obj C _, .bl _ => decide (0 < lev C)
  | .obj C _, .int _ => decide (0 < lev C)
  | .obj C _, .str _ => decide (0 < lev C)
  | .dct fs, .dct gs => plF fs gs && (decide ((gs.map (·.1)).Nodup) && fs.all fun f => decide (f.2.dep ≤ 60))
  | d, e => d.pl && e.pl
def cmpA (lev : Lev) : List D → List D → Bool
  | x :: xs, y :: ys => cmpOk lev x y && cmpA lev xs ys
  | _, _ => true
def cmpF (lev : Lev) : List (Str × D) → List (Str × D) → Bool
  | (f, x) :: xs, (g, y) :: ys => decide (f = g) && (cmpOk lev x y && cmpF lev xs ys)
  | [], [] => true
  | _, _ => false
def plF : List (Str × D) → List (Str × D) → Bool
  | (f, x) :: xs, (g, y) :: ys => decide (f = g) && (x.pl && y.pl && plF xs ys)
  | [], [] => true
  | _, _ => false
end
section
variable {lev : Lev}
theorem cmp_excR {d : D} {C : Addr} {fs : List (Str × D)} : cmpOk lev d (.exc C fs) = false := by cases d <;> simp [cmpOk, D.pl]
theorem cmp_penR {d : D} : cmpOk lev d .pen = false := by cases d <;> simp [cmpOk, D.pl]
theorem cmp_opqR {d : D} : cmpOk lev d .opq = false := by cases d <;> simp [cmpOk, D.pl]
theorem cmp_gfR {d : D} {a : Addr} : cmpOk lev d (.gf a) = false := by cases d <;> simp [cmpOk, D.pl]
theorem cmp_gfL {d : D} {a : Addr} : cmpOk lev (.gf a) d = false := by cases d <;> simp [cmpOk, D.pl]
theorem cmp_opqL {d : D} : cmpOk lev .opq d = false := by cases d <;> simp [cmpOk, D.pl]
theorem cmp_excL {d : D} {C : Addr} {fs : List (Str × D)} : cmpOk lev (.exc C fs) d = false := by cases d <;> simp [cmpOk, D.pl]
theorem cmp_penL {d : D} : cmpOk lev .pen d = false := by cases d <;> simp [cmpOk, D.pl]
mutual
theorem pl_cmp : ∀ {d e : D}, d.pl = true → e.pl = true → cmpOk lev d e = true
  | .non, e, hd, he => by cases e <;> simp_all [cmpOk, D.pl]
  | .bl _, e, hd, he => by cases e <;> simp_all [cmpOk, D.pl]
  | .int _, e, hd, he => by cases e <;> simp_all [cmpOk, D.pl]
  | .str _, e, hd, he => by cases e <;> simp_all [cmpOk, D.pl]
  | .lst ds, e, hd, he => by
    cases e with
    | lst es =>
      rw [D.pl] at hd he
      rw [cmpOk]
      exact pl_cmpA hd he
    | _ => simp_all [cmpOk, D.pl]
  | .tup ds, e, hd, he => by
    cases e with
    | tup es =>
      rw [D.pl] at hd he
      rw [cmpOk]
      exact pl_cmpA hd he
    | _ => simp_all [cmpOk, D.pl]
  | .obj _ _, e, hd, he => by simp [D.pl] at hd
  | .exc _ _, e, hd, he => by simp [D.pl] at hd
  | .dct _, e, hd, he => by simp [D.pl] at hd
  | .pen, e, hd, he => by simp [D.pl] at hd
  | .opq, e, hd, he => by simp [D.pl] at hd
  | .gf _, e, hd, he => by simp [D.pl] at hd
theorem pl_cmpA : ∀ {ds es : List D}, plA ds = true → plA es = true → cmpA lev ds es = true
  | [], es, _, _ => by simp [cmpA]
  | d :: ds, [], _, _ => by simp [cmpA]
  | d :: ds, e :: es, hd, he => by
    rw [plA, Bool.and_eq_true] at hd he
    rw [cmpA, pl_cmp hd.1 he.1, pl_cmpA hd.2 he.2]
    rfl
end
end
mutual
theorem need_dep {lev : Lev} : ∀ {d : D}, d.pl = true → d.need lev = d.dep
  | .non, _ => by simp [D.need, D.dep]
  | .bl b, _ => by simp [D.need, D.dep]
  | .int i, _ => by simp [D.need, D.dep]
  | .str x, h => by simp [D.need, D.dep]
  | .lst ds, h => by
    rw [D.pl] at h
    rw [D.need, D.dep, need_depA h]
  | .tup ds, h => by
    rw [D.pl] at h
    rw [D.need, D.dep, need_depA h]
  | .obj _ _, h => by simp [D.pl] at h
  | .exc _ _, h => by simp [D.pl] at h
  | .dct _, h => by simp [D.pl] at h
  | .pen, h => by simp [D.pl] at h
  | .opq, h => by simp [D.pl] at h
  | .gf _, h => by simp [D.pl] at h
theorem need_depA {lev : Lev} : ∀ {ds : List D}, plA ds = true → needA lev ds = depA ds
  | [], _ => by simp [needA, depA]
  | d :: ds, h => by
    rw [plA, Bool.and_eq_true] at h
    rw [needA, depA, need_dep h.1, need_depA h.2]
end
section
variable {X : Cx} {pins : List (Addr × Obj)} {σ : L2.St} {H : Hp} {s : Shared} {p : Option Addr} {B : List Addr}
theorem SqT.noLst (I : Inv X pins σ H s) {a : Addr} {xs ys : List V} (h : SqT X.K H a xs) (h2 : H a = some (.lst ys)) : False := by
  obtain ⟨_, _, ⟨o, e, c, _⟩, _⟩ := I.tuple h
  obtain ⟨_, _, ⟨o2, n, e2, c2, _, _⟩, _⟩ := I.list (SqL.of h2)
  rw [e] at e2
  have eo := Option.some.inj e2
  rw [← eo, c] at c2
  exact absurd c2 (by simp)
theorem SqT.noIns (I : Inv X pins σ H s) {a C dx : Addr} {xs : List V} {fs : List (Str × V)} (h : SqT X.K H a xs) (h2 : H a = some (.ins C dx fs)) : False := by
  obtain ⟨_, _, ⟨o, e, c, _⟩, _⟩ := I.tuple h
  obtain ⟨mA, O, _⟩ := ins_get I.hok h2
  obtain ⟨od, J, _⟩ := O.look
  have e3 := J.at_
  rw [e] at e3
  have eo := Option.some.inj e3
  have c2 := J.cls
  rw [← eo, c] at c2
  exact absurd c2 (by simp)
mutual
/-- the same value has the same data -/
theorem rep_eqb {lev : Lev} (I : Inv X pins σ H s) : ∀ {d e : D} {v : V}, Rep p X.K (cut B H) v d → Rep p X.K (cut B H) v e → cmpOk lev d e = true → d.eqb e = true
  | .non, e, _, .non, re, h => by cases re; simp [D.eqb]
  | .bl b, e, _, .bl _, re, h => by cases re; simp [D.eqb]
  | .int i, e, _, .int _, re, h => by cases re; simp [D.eqb]
  | .str x, e, _, .str _, re, h => by cases re; simp [D.eqb]
  | .lst ds, e, _, .lst h1 r1, re, h => by
    cases re with
    | lst h2 r2 =>
      rw [h1] at h2
      cases h2
      rw [cmpOk] at h
      rw [D.eqb]
      exact rep_eqbA I r1 r2 h
    | tup h2 r2 => exact (SqT.noLst I (SqT.uncut h2) (cut_some h1).2).elim
    | obj h2 r2 => rw [h1] at h2; cases h2
    | exc h2 h3 r2 => rw [cmp_excR] at h; cases h
    | exc0 h2 => rw [cmp_excR] at h; cases h
    | dct h2 r2 => rw [h1] at h2; cases h2
    | pen h2 => rw [cmp_penR] at h; cases h
    | opq h2 => rw [cmp_opqR] at h; cases h
    | gf => rw [cmp_gfR] at h; cases h
  | .tup ds, e, _, .tup h1 r1, re, h => by
    cases re with
    | lst h2 r2 => exact (SqT.noLst I (SqT.uncut h1) (cut_some h2).2).elim
    | tup h2 r2 =>
      have := I.tuple_inj (SqT.uncut h1) (SqT.uncut h2)
      subst this
      rw [cmpOk] at h
      rw [D.eqb]
      exact rep_eqbA I r1 r2 h
    | obj h2 r2 => exact (SqT.noIns I (SqT.uncut h1) (cut_some h2).2).elim
    | exc h2 h3 r2 => rw [cmp_excR] at h; cases h
    | exc0 h2 => rw [cmp_excR] at h; cases h
    | dct h2 r2 => simp [cmpOk, D.pl] at h
    | pen h2 => rw [cmp_penR] at h; cases h
    | opq h2 => rw [cmp_opqR] at h; cases h
    | gf => rw [cmp_gfR] at h; cases h
  | .obj C fs, e, _, .obj h1 r1, re, h => by
    cases re with
    | lst h2 r2 => rw [h1] at h2; cases h2
    | tup h2 r2 => exact (SqT.noIns I (SqT.uncut h2) (cut_some h1).2).elim
    | obj h2 r2 =>
      rw [h1] at h2
      cases h2
      rw [cmpOk] at h
      simp only [Bool.and_eq_true, Bool.or_eq_true, decide_true, Bool.not_true, Bool.false_eq_true, false_or] at h
      rw [D.eqb]
      simp only [beq_self_eq_true, Bool.true_and]
      exact rep_eqbF I r1 r2 h.2.1
    | exc h2 h3 r2 => rw [cmp_excR] at h; cases h
    | exc0 h2 => rw [cmp_excR] at h; cases h
    | dct h2 r2 => rw [h1] at h2; cases h2
    | pen h2 => rw [cmp_penR] at h; cases h
    | opq h2 => rw [cmp_opqR] at h; cases h
    | gf => rw [cmp_gfR] at h; cases h
  | .dct fs, e, _, .dct h1 r1, re, h => by
    cases re with
    | lst h2 r2 => rw [h1] at h2; cases h2
    | tup h2 r2 => simp [cmpOk, D.pl] at h
    | obj h2 r2 => rw [h1] at h2; cases h2
    | exc h2 h3 r2 => rw [cmp_excR] at h; cases h
    | exc0 h2 => rw [cmp_excR] at h; cases h
    | dct h2 r2 =>
      rw [h1] at h2
      have e0 : inrK _ = inrK _ := HO.dK.inj (Option.some.inj h2)
      rw [cmpOk, Bool.and_eq_true] at h
      rw [D.eqb]
      exact rep_eqbK I r1 r2 e0 h.1
    | pen h2 => rw [cmp_penR] at h; cases h
    | opq h2 => rw [cmp_opqR] at h; cases h
    | gf => rw [cmp_gfR] at h; cases h
  | .exc _ _, e, _, r, re, h => by rw [cmp_excL] at h; cases h
  | .pen, e, _, r, re, h => by rw [cmp_penL] at h; cases h
  | .opq, e, _, r, re, h => by rw [cmp_opqL] at h; cases h
  | .gf _, e, _, r, re, h => by rw [cmp_gfL] at h; cases h
theorem rep_eqbA {lev : Lev} (I : Inv X pins σ H s) : ∀ {ds es : List D} {vs : List V}, RepA p X.K (cut B H) vs ds → RepA p X.K (cut B H) vs es → cmpA lev ds es = true → eqbA ds es = true
  | [], _, _, .nil, r2, h => by cases r2; simp [eqbA]
  | d :: ds, _, _, .cons h1 r1, r2, h => by
    cases r2 with
    | cons h2 r2 =>
      rw [cmpA, Bool.and_eq_true] at h
      rw [eqbA, rep_eqb I h1 h2 h.1, rep_eqbA I r1 r2 h.2]
      rfl
theorem rep_eqbF {lev : Lev} (I : Inv X pins σ H s) : ∀ {ds es : List (Str × D)} {vs : List (Str × V)}, RepF p X.K (cut B H) vs ds → RepF p X.K (cut B H) vs es → cmpF lev ds es = true → eqbF ds es = true
  | [], _, _, .nil, r2, h => by cases r2; simp [eqbF]
  | (f, d) :: ds, _, _, .cons h1 r1, r2, h => by
    cases r2 with
    | cons h2 r2 =>
      rw [cmpF, Bool.and_eq_true, Bool.and_eq_true] at h
      rw [eqbF, rep_eqb I h1 h2 h.2.1, rep_eqbF I r1 r2 h.2.2]
      simp
theorem rep_eqbK (I : Inv X pins σ H s) : ∀ {ds es : List (Str × D)} {vs ws : List (Str × V)}, RepF p X.K (cut B H) vs ds → RepF p X.K (cut B H) ws es → inrK vs = inrK ws → plF ds es = true → eqbF ds es = true
  | [], _, _, _, .nil, r2, e0, h => by
    cases r2 with
    | nil => simp [eqbF]
    | cons _ _ => cases e0
  | (f, d) :: ds, _, _, _, .cons h1 r1, r2, e0, h => by
    cases r2 with
    | nil => cases e0
    | cons h2 r2 =>
      unfold inrK at e0
      rw [List.map_cons, List.map_cons] at e0
      injection e0 with e1 e2
      injection e1 with e3 e4
      cases e3
      cases e4
      rw [plF, Bool.and_eq_true, Bool.and_eq_true, Bool.and_eq_true] at h
      rw [eqbF, rep_eqb (lev := ⟨fun _ => 0, fun _ _ _ => true⟩) I h1 h2 (pl_cmp h.2.1.1 h.2.1.2), rep_eqbK I r1 r2 (by unfold inrK; exact e2) h.2.2]
      simp
end
end
end DW

/-! DW23: types of data; == run. -/
namespace DW
open PySem PySem.Spec L2 PyProof.Rows
/-- what isinstance and == ask of an own class -/
structure InsT (K : PySem.W.Frag) (C : Addr) : Prop where
  cl : Cls K C
  ha : PySem.W.findIn K (.ref C) "__class__" = some (some (.builtin "object.__class__"))
  hn : PySem.W.specialIn K (.builtin "object.__class__") "__get__" = some (some (.builtin "getset_descriptor.__get__"))
  ht : PySem.W.takesIn K (.builtin "object.__class__") = some true
  hm : PySem.W.mroIn K C (.type "object") = some true
/-- a value's type, by data -/
inductive TyD (K : PySem.W.Frag) : D → Value → Prop
  | base {d : D} {t : Value} (h : d.tyv = some t) : TyD K d t
  | obj {C : Addr} {fs : List (Str × D)} (T : InsT K C) : TyD K (.obj C fs) (.ref C)
  | dct {fs : List (Str × D)} : TyD K (.dct fs) (.type "dict")
  | opq : TyD K .opq (.type "dict")
theorem Rep.tyX {p : Option Addr} {K : PySem.W.Frag} {A : List Addr} {H : Hp} {v : V} {d : D} {t : Value} (r : Rep p K (DW.cut A H) v d) (h : TyD K d t) : TyX K H v t := by
  cases h with
  | base h => exact r.tyx h
  | obj T =>
    cases r with
    | obj h1 _ => exact .base (.ins (cut_some h1).2 T.cl T.ha T.hn T.ht T.hm)
  | dct =>
    cases r with
    | dct h1 _ => exact .base (.dK (cut_some h1).2)
  | opq =>
    cases r with
    | opq h1 => exact .base (.dK (cut_some h1).2)
abbrev KeepT (T : List (Addr × Str)) (p : Option Addr) (H H' : Hp) : Prop := ∀ b o, ¬ VolP T p b → H b = some o → H' b = some o
section
variable {T : List (Addr × Str)} {p : Option Addr} {cc : Addr} {B : List Addr} {m : Nat} {H H' H1 : Hp}
theorem KeepT.trans (a : KeepT T p H H1) (b : KeepT T p H1 H') : KeepT T p H H' := fun x o n e => b x o n (a x o n e)
theorem Ctx.vin (cx : Ctx T p cc B m H) {b : Addr} (v : VolP T p b) : b ∈ B := v.elim (fun z => (cx.pin b z).1) (cx.tin b)
theorem Ctx.grow (cx : Ctx T p cc B m H) (k : KeepT T p H H') : Grow B H H' := fun b o n e => k b o (fun v => n (cx.vin v)) e
theorem Ctx.step (cx : Ctx T p cc B m H) (k : KeepT T p H H') {m' : Nat} (am : Amb T p cc m' H') : Ctx T p cc B m' H' := by
  refine ⟨am, cx.pin, cx.tin, fun a ha => ?_⟩
  obtain ⟨o, e⟩ := cx.thr a ha
  by_cases v : VolP T p a
  · rcases v with z | z
    · obtain ⟨_, _, _, _, _, h1, _⟩ := (am.pen a z).ex
      exact ⟨_, h1⟩
    · obtain ⟨x, hx, rfl⟩ := List.mem_map.mp z
      obtain ⟨ps, h1, _⟩ := am.tab x hx
      exact ⟨_, h1⟩
  · exact ⟨o, k a o v e⟩
end
def okEq (lev : Lev) (C : Addr) (fs : List (Str × D)) (e : D) : Prop := cmpOk lev (.obj C fs) e = true
/-- what an own __eq__ promises -/
def fwEq (lev : Lev) (C : Addr) : FW := fun ds m Q => ∃ fs e, ds = [.obj C fs, e] ∧ okEq lev C fs e ∧ Q (.bl (D.eqb (.obj C fs) e)) m
def tyNs : List String := ["NoneType", "bool", "int", "str", "list", "tuple", "dict"]
structure EqC (P : Program) (w : World) (K : PySem.W.Frag) (T : List (Addr × Str)) (mg : Str → Option Value) (base : Heap) (lev : Lev) (C : Addr) : Prop where
  ins : InsT K C
  ex : ∃ (f : Addr) (fd : FuncData) (ps : List Str), PySem.W.findIn K (.ref C) "__eq__" = some (some (.ref f)) ∧ PySem.W.isFn K (.ref f) = true ∧ FnOk P w K mg base CX0 (lev C) f fd ps (spD K T (fwEq lev C)) ∧ Binds K fd ps []
  nf : ∀ t ∈ tyNs, PySem.W.notFirst K C (.type t) = true
  nfo : ∀ C', 0 < lev C' → PySem.W.notFirst K C (.ref C') = true
section
variable {X : Cx} {T : List (Addr × Str)} {p : Option Addr} {cc : Addr} {B : List Addr} {m : Nat} {lev : Lev}
def EqRun (X : Cx) (T : List (Addr × Str)) (p : Option Addr) (cc : Addr) (B : List Addr) (m n : Nat) (d e : D) : Prop :=
  ∀ (A : Around) (pins : List (Addr × Obj)) (s : Shared) (σ : L2.St) (H : Hp) (x y : V) (u v : Value), Sub X n A → Inv X pins σ H s → Ctx T p cc B m H → RelV x u → RelV y v → Rep p X.K (cut B H) x d → Rep p X.K (cut B H) y e →
    wpAny (model X.prog X.w) A (eqBool u v) (fun r s' => r = d.eqb e ∧ ∃ H', Inv X pins σ H' s' ∧ KeepT T p H H' ∧ Amb T p cc m H') X.xe s
def RcRun (X : Cx) (T : List (Addr × Str)) (p : Option Addr) (cc : Addr) (B : List Addr) (m n : Nat) (d e : D) : Prop :=
  ∀ (A : Around) (pins : List (Addr × Obj)) (s : Shared) (σ : L2.St) (H : Hp) (a : Addr) (y : V) (v : Value), Sub X n A → Inv X pins σ H s → Ctx T p cc B m H → RelV y v → Rep p X.K (cut B H) (.ref a) d → Rep p X.K (cut B H) y e →
    wpAny (model X.prog X.w) A (richCompare .Eq (.ref a) v) (fun r s' => r = .bool (d.eqb e) ∧ ∃ H', Inv X pins σ H' s' ∧ KeepT T p H H' ∧ Amb T p cc m H') X.xe s
/-- from a comparison to == inside a list: the same object is equal to itself -/
theorem RcRun.eq {n : Nat} {d e : D} (h : RcRun X T p cc B m n d e) (ok : cmpOk lev d e = true) {A : Around} {pins : List (Addr × Obj)} {s : Shared} {σ : L2.St} {H : Hp} {a : Addr} {y : V} {v : Value} (sb : Sub X n A) (I : Inv X pins σ H s) (cx : Ctx T p cc B m H) (ry : RelV y v) (rd : Rep p X.K (cut B H) (.ref a) d) (re : Rep p X.K (cut B H) y e) :
    wpAny (model X.prog X.w) A (eqBool (.ref a) v) (fun r s' => r = d.eqb e ∧ ∃ H', Inv X pins σ H' s' ∧ KeepT T p H H' ∧ Amb T p cc m H') X.xe s := by
  have run := h A pins s σ H a y v sb I cx ry rd re
  unfold eqBool
  refine wpAny_holding ?_
  refine wpAny_ite_split (fun q => ?_) fun _ => ?_
  case refine_2 =>
    cases v <;> (refine wpAny_bind (wpAny_mono run (fun r s' z => ?_) fun _ _ z => z); obtain ⟨rfl, z⟩ := z; exact wpAny_truthy_bool ⟨rfl, z⟩)
  have e1 : Value.ref a = v := eq_of_beq q
  subst e1
  have e2 : y = V.ref a := RelV.inj ry (show RelV (.ref a) (.ref a) from rfl)
  subst e2
  refine wpAny_bind (wpAny_rule (wpAny_pure ⟨(rep_eqb I rd re ok).symm, H, I, fun _ _ _ z => z, cx.am⟩))
end
end DW

/-! DW24: == of any data. -/
namespace DW
open PySem PySem.Spec L2 PyProof.Rows
section
variable {X : Cx} {T : List (Addr × Str)} {p : Option Addr} {cc : Addr} {B : List Addr} {m : Nat} {lev : Lev}
theorem eqPl {n : Nat} {d e : D} (hd : d.pl = true) (he : e.pl = true) (hn : d.dep ≤ n) : EqRun X T p cc B m n d e := by
  intro A pins s σ H x y u v sb I cx ru rv rd re
  obtain ⟨q, h1, h2, h3⟩ := pl_py hd
  obtain ⟨r, k1, k2, k3⟩ := pl_py he
  obtain ⟨as, ra⟩ := Dp.reads I q x u (rd.dp h1) ru
  obtain ⟨bs, rb⟩ := Dp.reads I r y v (re.dp k1) rv
  have un := sb.room.un
  have := SeqAt.eqAt_reads q r A s u v as bs ra rb h2 k2 (by
    have : min q.depth r.depth ≤ q.depth := Nat.min_le_left _ _
    omega)
  refine this X.prog X.w X.xe _ ⟨eqv_eqb h1 k1, H, I, fun _ _ _ z => z, cx.am⟩
/-- the i-th pair -/
def pairB (ds es : List D) (i : Nat) : Bool := (ds.getD i .non).eqb (es.getD i .non)
theorem pairB_all : ∀ (ds es : List D), pairsB (pairB ds es) ds.length es.length = eqbA ds es
  | [], [] => by simp [pairsB, eqbA]
  | [], _ :: _ => by simp [pairsB, eqbA]
  | _ :: _, [] => by simp [pairsB, eqbA]
  | d :: ds, e :: es => by
    have ih := pairB_all ds es
    unfold pairsB at ih ⊢
    have e0 : min (d :: ds).length (e :: es).length = min ds.length es.length + 1 := by simp [Nat.succ_min_succ]
    rw [e0, List.range_succ_eq_map, List.all_cons, List.all_map, eqbA, ← ih]
    have e1 : (pairB (d :: ds) (e :: es) ∘ Nat.succ) = pairB ds es := by
      funext i
      simp [pairB]
    rw [e1]
    have e2 : pairB (d :: ds) (e :: es) 0 = d.eqb e := by simp [pairB]
    rw [e2]
    simp [Bool.and_assoc]
section
variable {pins : List (Addr × Obj)} {s : Shared} {σ : L2.St} {H : Hp} {A : Around} {n : Nat}
/-- what stays through such a loop -/
def LoopE (X : Cx) (T : List (Addr × Str)) (p : Option Addr) (cc : Addr) (m : Nat) (pins : List (Addr × Obj)) (σ : L2.St) (H : Hp) (s' : Shared) : Prop := ∃ H', Inv X pins σ H' s' ∧ KeepT T p H H' ∧ Amb T p cc m H'
theorem turnE {ds es : List D} {xs ys : List V} {its its2 : List Value} (hi : ∀ (i : Nat) d e, ds[i]? = some d → es[i]? = some e → EqRun X T p cc B m n d e) (sb : Sub X (n + 1) A) (cx : Ctx T p cc B m H) (r1 : Vals xs its) (r2 : Vals ys its2) (d1 : RepA p X.K (cut B H) xs ds) (d2 : RepA p X.K (cut B H) ys es)
    (i : Nat) (h1 : i < its.toArray.size) (h2 : i < its2.toArray.size) (s' : Shared) (l : LoopE X T p cc m pins σ H s') :
    wpAny (model X.prog X.w) A.in1 (eqBool its.toArray[i] its2.toArray[i]) (fun r s2 => r = pairB ds es i ∧ LoopE X T p cc m pins σ H s2) X.xe s' := by
  obtain ⟨H1, I1, k1, am1⟩ := l
  have l1 : i < its.length := by simpa using h1
  have l2 : i < its2.length := by simpa using h2
  have x1 : i < xs.length := by rw [r1.length]; exact l1
  have x2 : i < ys.length := by rw [r2.length]; exact l2
  have y1 : i < ds.length := by rw [← d1.length]; exact x1
  have y2 : i < es.length := by rw [← d2.length]; exact x2
  obtain ⟨u, hu, ru⟩ := r1.get (List.getElem?_eq_getElem x1)
  obtain ⟨v, hv, rv⟩ := r2.get (List.getElem?_eq_getElem x2)
  obtain ⟨a, ha, ra⟩ := d1.get (List.getElem?_eq_getElem y1)
  obtain ⟨b, hb, rb⟩ := d2.get (List.getElem?_eq_getElem y2)
  rw [List.getElem?_eq_getElem x1] at ha
  rw [List.getElem?_eq_getElem x2] at hb
  cases ha
  cases hb
  rw [List.getElem?_eq_getElem l1] at hu
  rw [List.getElem?_eq_getElem l2] at hv
  have e1 : its.toArray[i] = u := by simpa using Option.some.inj hu
  have e2 : its2.toArray[i] = v := by simpa using Option.some.inj hv
  rw [e1, e2]
  have g := (cx.grow k1).cut
  refine wpAny_mono (hi i _ _ (List.getElem?_eq_getElem y1) (List.getElem?_eq_getElem y2) A.in1 pins s' σ H1 _ _ u v sb.in1 I1 (cx.step k1 am1) ru rv (ra.ext g) (rb.ext g)) (fun r s2 q => ?_) fun _ _ z => z
  obtain ⟨rfl, H2, I2, k2, am2⟩ := q
  exact ⟨by simp [pairB, y1, y2], H2, I2, k1.trans k2, am2⟩
end
theorem rcTup {n : Nat} {ds es : List D} (hi : ∀ (i : Nat) d e, ds[i]? = some d → es[i]? = some e → EqRun X T p cc B m n d e) : RcRun X T p cc B m (n + 1) (.tup ds) (.tup es) := by
  intro A pins s σ H a y v sb I cx rv rd re
  cases rd with
  | tup h1 d1 =>
    cases re with
    | tup h2 d2 =>
      cases rv
      obtain ⟨its, r1, t1, _⟩ := I.tuple (SqT.uncut h1)
      obtain ⟨its2, r2, t2, _⟩ := I.tuple (SqT.uncut h2)
      refine rc_tupB (e := pairB ds es) sb.room.units0 (fun _ s' => LoopE X T p cc m pins σ H s') t1 t2 (fun i h1 h2 s' q => turnE hi sb cx r1 r2 d1 d2 i h1 h2 s' q) (fun i s' q => ⟨?_, q⟩) ⟨H, I, fun _ _ _ z => z, cx.am⟩
      rw [List.size_toArray, List.size_toArray, ← r1.length, ← r2.length, d1.length, d2.length, pairB_all, D.eqb]
theorem rcLst {n : Nat} {ds es : List D} (hi : ∀ (i : Nat) d e, ds[i]? = some d → es[i]? = some e → EqRun X T p cc B m n d e) : RcRun X T p cc B m (n + 1) (.lst ds) (.lst es) := by
  intro A pins s σ H a y v sb I cx rv rd re
  cases rd with
  | lst h1 d1 =>
    cases re with
    | lst h2 d2 =>
      rename_i b ys
      cases rv
      have n1 : a ∉ B := (cut_some h1).1
      have n2 : b ∉ B := (cut_some h2).1
      by_cases hl : ds.length = es.length
      · refine rc_lstB (N := ds.length) (e := pairB ds es) sb.room.units0 (fun _ s' => LoopE X T p cc m pins σ H s') (fun i s' q => ?_) (fun i s' q => ⟨?_, q⟩) ⟨H, I, fun _ _ _ z => z, cx.am⟩
        · obtain ⟨H1, I1, k1, am1⟩ := id q
          have g := cx.grow k1
          obtain ⟨z, its, k, r1, e1⟩ := I1.hok a _ (g a _ n1 (cut_some h1).2)
          obtain ⟨z2, its2, k2, r2, e2⟩ := I1.hok b _ (g b _ n2 (cut_some h2).2)
          refine ⟨its.toArray, its2.toArray, k, k2, e1, e2, by rw [List.size_toArray, ← r1.length, d1.length], by rw [List.size_toArray, ← r2.length, d2.length, hl], fun l1 l2 => ?_⟩
          exact turnE hi sb cx r1 r2 d1 d2 i l1 l2 s' q
        · have := pairB_all ds es
          rw [← hl] at this
          rw [this, D.eqb]
      · obtain ⟨its, r1, t1, _⟩ := I.list (SqL.of (cut_some h1).2)
        obtain ⟨its2, r2, t2, _⟩ := I.list (SqL.of (cut_some h2).2)
        have eb : eqbA ds es = false := by
          rw [← pairB_all]
          unfold pairsB
          have : (ds.length == es.length) = false := by simpa using hl
          rw [this, Bool.and_false]
        refine SeqAt.RcAt.lists_lengths t1.isList t2.isList ?_ sb.room.units0 X.prog X.w X.xe _ ⟨by rw [D.eqb, eb], H, I, fun _ _ _ z => z, cx.am⟩
        rw [List.size_toArray, List.size_toArray, ← r1.length, ← r2.length, d1.length, d2.length]
        simpa using hl
theorem rcObj {n : Nat} {C : Addr} {fs : List (Str × D)} {e : D} (E : EqC X.prog X.w X.K T X.mg X.base lev C) (ok : cmpOk lev (.obj C fs) e = true) (he : ∀ C', 0 < lev C' → InsT X.K C') (hn : lev C ≤ n) : RcRun X T p cc B m n (.obj C fs) e := by
  intro A pins s σ H a y v sb I cx rv rd re
  obtain ⟨f, fd, ps, hs, hf, F, hb⟩ := E.ex
  have ty : ∃ t, TyD X.K e t ∧ PySem.W.notFirst X.K C t = true := by
    cases e with
    | non => exact ⟨_, .base rfl, E.nf _ (by decide)⟩
    | bl _ => exact ⟨_, .base rfl, E.nf _ (by decide)⟩
    | int _ => exact ⟨_, .base rfl, E.nf _ (by decide)⟩
    | str _ => exact ⟨_, .base rfl, E.nf _ (by decide)⟩
    | lst _ => exact ⟨_, .base rfl, E.nf _ (by decide)⟩
    | tup _ => exact ⟨_, .base rfl, E.nf _ (by decide)⟩
    | obj C' gs =>
      have z := ok
      rw [cmpOk, Bool.and_eq_true, Bool.and_eq_true] at z
      have z2 := of_decide_eq_true z.1.2
      exact ⟨_, .obj (he C' z2), E.nfo C' z2⟩
    | dct _ => exact ⟨_, .dct, E.nf _ (by decide)⟩
    | exc _ _ => rw [cmp_excR] at ok; cases ok
    | pen => rw [cmp_penR] at ok; cases ok
    | opq => rw [cmp_opqR] at ok; cases ok
    | gf _ => rw [cmp_gfR] at ok; cases ok
  obtain ⟨t, tyd, nf⟩ := ty
  obtain ⟨P1, Z, pz, _⟩ := kit_of I rv (re.tyX tyd)
  cases rd with
  | obj h1 d1 =>
    obtain ⟨mA, O, _⟩ := ins_get I.hok (cut_some h1).2
    obtain ⟨od, J, _⟩ := O.look
    obtain ⟨mm, hF⟩ := I.fr
    refine PySem.W.cmp_K (op := .Eq) (tb := t) sb.room.units0 hF I.ok.mod.kin J (Z.ty _ _ I.kIn pz) nf hs hf ?_
    have hsp : spD X.K T (fwEq lev C) [.ref a, y] H (fun z H' => z = .bl (D.eqb (.obj C fs) e) ∧ KeepT T p H H' ∧ Amb T p cc m H') E0 :=
      ⟨p, cc, B, [.obj C fs, e], m, fun d m' => d = .bl (D.eqb (.obj C fs) e) ∧ m' = m, .cons (.obj h1 d1) (.cons re .nil), cx, ⟨fs, e, rfl, ok, rfl, rfl⟩, fun z d m' H' kp am rz ⟨e1, e2⟩ => by
        subst e1
        subst e2
        cases rz
        exact ⟨rfl, kp, am⟩⟩
    have e0 : Env0 X.prog X.w X.K X.mg X.base A X.stack s H := by
      have z := I.env0
      exact ⟨by rw [sb.fr]; exact z.frames, z.mod, z.bs, z.bsz, z.funs, z.frf, z.hok, z.bare⟩
    have hl := F.len _ _ _ _ hsp
    have vals : Vals [V.ref a, y] [Value.ref a, v] := .cons rfl (.cons rv .nil)
    refine wpAny_call (codeAny_mono (F.run A X.stack s H ⟨[.ref a, v], []⟩ [.ref a, v] [.ref a, y] _ E0 (sb.room.mono hn) e0 (by
      have z := hb s [.ref a, v] I.kIn (by simpa using hl)
      simpa using z) vals hsp) fun r s' hq => ?_)
    match r, hq with
    | .error er, hq => exact (pass0 (X := X) pins σ H s er s' I hq)
    | .ok (.ret w), hq =>
      obtain ⟨z, H', I', rz, ez, kp, am⟩ := I.after hq
      subst ez
      cases rz
      exact ⟨rfl, H', I', kp, am⟩
theorem KV.at_ {vb : List (Key × Value)} : (vb.map (·.1)).Nodup → ∀ q ∈ vb, valueAt vb q.1 = some q.2 := by
  induction vb with
  | nil => intro _ q hq; cases hq
  | cons r rs ih =>
    intro nd q hq
    rw [List.map_cons, List.nodup_cons] at nd
    unfold valueAt
    rw [List.find?_cons]
    rcases List.mem_cons.mp hq with e | e
    · subst e
      simp
    · have ne : ¬ r.1 = q.1 := fun z => nd.1 (by rw [z]; exact List.mem_map_of_mem e)
      rw [decide_eq_false ne]
      exact ih nd.2 q e
theorem hitsF {A : Around} {n : Nat} {pins : List (Addr × Obj)} {s : Shared} {σ : L2.St} {H : Hp} (hun : A.units + 64 < cLine) (I : Inv X pins σ H s) {vb : List (Key × Value)} (hv : ∀ q ∈ vb, valueAt vb q.1 = some q.2) :
    ∀ {fs gs : List (Str × D)} {vs ws : List (Str × V)} {va1 vb1 : List (Key × Value)}, RepF p X.K (cut B H) vs fs → RepF p X.K (cut B H) ws gs → KV (inrK vs) va1 → KV (inrK ws) vb1 → (∀ q ∈ vb1, q ∈ vb) → plF fs gs = true → (∀ f ∈ fs, f.2.dep ≤ 60) →
      PySem.W.KeqHits A s vb va1 (eqbF fs gs)
  | [], [], _, _, _, _, .nil, .nil, ka, kb, sub, h, hd => by
    cases ka
    simp only [eqbF]
    exact .nil
  | [], _ :: _, _, _, _, _, _, _, ka, kb, sub, h, hd => by simp [plF] at h
  | _ :: _, [], _, _, _, _, _, _, ka, kb, sub, h, hd => by simp [plF] at h
  | (f, d) :: fs, (g, e) :: gs, _, _, _, _, .cons h1 r1, .cons h2 r2, ka, kb, sub, h, hd => by
    rw [plF, Bool.and_eq_true, Bool.and_eq_true, Bool.and_eq_true] at h
    have fg : f = g := of_decide_eq_true h.1
    subst fg
    unfold inrK at ka kb
    rw [List.map_cons] at ka kb
    cases ka with
    | cons a1 a2 =>
      cases kb with
      | cons b1 b2 =>
        rename_i qa la qb lb
        obtain ⟨ea, va⟩ := a1
        obtain ⟨eb, vb2⟩ := b1
        have hit := hv qb (sub qb (List.mem_cons_self ..))
        obtain ⟨k1, v1⟩ := qa
        obtain ⟨k2, v2⟩ := qb
        have e1 : (Sum.inr f : Key) = k1 := ea
        have e2 : (Sum.inr f : Key) = k2 := eb
        subst e1
        subst e2
        obtain ⟨q, q1, q2, q3⟩ := pl_py h.2.1.1
        obtain ⟨r, k1, k2, k3⟩ := pl_py h.2.1.2
        obtain ⟨as, ra⟩ := Dp.reads I q _ v1 (h1.dp q1) va
        obtain ⟨bs, rb⟩ := Dp.reads I r _ v2 (h2.dp k1) vb2
        have dd := hd (f, d) (List.mem_cons_self ..)
        have run := SeqAt.eqAt_reads q r A s v1 v2 as bs ra rb q2 k2 (by
          have : min q.depth r.depth ≤ q.depth := Nat.min_le_left _ _
          have : d.dep ≤ 60 := dd
          omega)
        rw [eqv_eqb q1 k1] at run
        have out := PySem.W.KeqHits.hit (k := (Sum.inr f : Key)) hit run (hitsF (n := n) hun I hv r1 r2 a2 b2 (fun q hq => sub q (List.mem_cons_of_mem _ hq)) h.2.2 fun f hf => hd f (List.mem_cons_of_mem _ hf))
        rw [eqbF]
        simpa using out
end
end DW

/-! DW25: == and != of any data, as expressions. -/
namespace DW
open PySem PySem.Spec L2 PyProof.Rows
section
variable {X : Cx} {T : List (Addr × Str)} {p : Option Addr} {cc : Addr} {B : List Addr} {m : Nat} {lev : Lev}
theorem inrK_keys {ws : List (Str × V)} {gs : List (Str × D)} {K : PySem.W.Frag} {H : Hp} : ∀ {ws : List (Str × V)} {gs : List (Str × D)} {vb : List (Key × Value)}, RepF p K H ws gs → KV (inrK ws) vb → vb.map (·.1) = gs.map fun g => (Sum.inr g.1 : Key)
  | _, _, _, .nil, k => by cases k; rfl
  | _, _, _, .cons (f := f) h r, k => by
    unfold inrK at k
    rw [List.map_cons] at k
    cases k with
    | cons a b =>
      rw [List.map_cons, List.map_cons, inrK_keys (ws := ws) (gs := gs) r b, ← a.1]
theorem plF_len : ∀ {fs gs : List (Str × D)}, plF fs gs = true → fs.length = gs.length := by
  intro fs
  induction fs with
  | nil => intro gs h; cases gs <;> simp_all [plF]
  | cons f fs ih =>
    intro gs h
    cases gs with
    | nil => simp [plF] at h
    | cons g gs =>
      rw [plF, Bool.and_eq_true, Bool.and_eq_true] at h
      simp [ih h.2.2]
theorem two_dcts {A : Around} {pins : List (Addr × Obj)} {s : Shared} {σ : L2.St} {H : Hp} {a : Addr} {y : V} {v : Value} {fs gs : List (Str × D)} (ok : cmpOk lev (.dct fs) (.dct gs) = true) (hun : A.in1.units + 64 < cLine) (I : Inv X pins σ H s) (rv : RelV y v) (rd : Rep p X.K (cut B H) (.ref a) (.dct fs)) (re : Rep p X.K (cut B H) y (.dct gs)) :
    ∃ (b : Addr) (va vb : List (Key × Value)), v = .ref b ∧ (a == sysModules) = false ∧ (b == sysModules) = false ∧ s.heap.DictOf (mixKind X.prog X.w) a va ∧ s.heap.DictOf (mixKind X.prog X.w) b vb ∧ PySem.W.KeqHits A.in1 s vb va (eqbF fs gs) ∧ va.length = vb.length := by
  rw [cmpOk, Bool.and_eq_true, Bool.and_eq_true, List.all_eq_true] at ok
  obtain ⟨o1, o2, o3⟩ := ok
  have nd := of_decide_eq_true o2
  cases rd with
  | dct h1 d1 =>
    cases re with
    | dct h2 d2 =>
      rename_i xs b ys
      cases rv
      obtain ⟨_, na, va, ka, da⟩ := (show ObjOk X.prog X.w H s.heap a (.dK (inrK xs)) from I.hok a _ (cut_some h1).2)
      obtain ⟨_, nb, vb, kb, db⟩ := (show ObjOk X.prog X.w H s.heap b (.dK (inrK ys)) from I.hok b _ (cut_some h2).2)
      have keys := inrK_keys (ws := ys) (gs := gs) d2 kb
      have nd2 : (vb.map (·.1)).Nodup := by
        rw [keys]
        have : (gs.map fun g => (Sum.inr g.1 : Key)) = (gs.map (·.1)).map Sum.inr := by rw [List.map_map]; rfl
        rw [this]
        exact List.pairwise_map.mpr (List.Pairwise.imp (fun h z => h (Sum.inr.inj z)) nd)
      refine ⟨b, va, vb, rfl, na, nb, da, db, hitsF (n := 0) hun I (KV.at_ nd2) d1 d2 ka kb (fun q hq => hq) o1 fun f hf => of_decide_eq_true (o3 f hf), ?_⟩
      have l1 := ka.length
      have l2 := kb.length
      unfold inrK at l1 l2
      rw [List.length_map] at l1 l2
      rw [← l1, ← l2, d1.len, d2.len]
      exact plF_len o1
theorem rcDct {n : Nat} {fs gs : List (Str × D)} (ok : cmpOk lev (.dct fs) (.dct gs) = true) : RcRun X T p cc B m n (.dct fs) (.dct gs) := by
  intro A pins s σ H a y v sb I cx rv rd re
  have hun : A.in1.units + 64 < cLine := by
    have := sb.room.un
    show A.units + 1 + 64 < _
    omega
  obtain ⟨b, va, vb, rfl, na, nb, da, db, hit, le⟩ := two_dcts ok hun I rv rd re
  refine PySem.W.keq_eq (knd := mixKind X.prog X.w) na nb da db sb.room.units0 (fun _ => hit) ⟨?_, H, I, fun _ _ _ z => z, cx.am⟩
  rw [le, D.eqb]
  simp
/-- the classes that are compared, their __eq__ -/
structure EqE (P : Program) (w : World) (K : PySem.W.Frag) (T : List (Addr × Str)) (mg : Str → Option Value) (base : Heap) (lev : Lev) (n : Nat) : Prop where
  eq : ∀ C, 0 < lev C → lev C ≤ n → EqC P w K T mg base lev C
  ins : ∀ C, 0 < lev C → InsT K C
theorem EqE.mono {P : Program} {w : World} {K : PySem.W.Frag} {mg : Str → Option Value} {base : Heap} {n k : Nat} (E : EqE P w K T mg base lev n) (h : k ≤ n) : EqE P w K T mg base lev k := ⟨fun C h1 h2 => E.eq C h1 (Nat.le_trans h2 h), E.ins⟩
mutual
theorem eq_run {N : Nat} (E : EqE X.prog X.w X.K T X.mg X.base lev N) : ∀ {d e : D} {n : Nat}, cmpOk lev d e = true → d.need lev ≤ n → n ≤ N → EqRun X T p cc B m n d e
  | .non, e, n, h, hn, hN => eqPl (by simp [D.pl]) (by cases e <;> simp_all [cmpOk, D.pl]) (by simp [D.dep])
  | .bl _, e, n, h, hn, hN => eqPl (by simp [D.pl]) (by cases e <;> simp_all [cmpOk, D.pl]) (by simp [D.dep])
  | .int _, e, n, h, hn, hN => eqPl (by simp [D.pl]) (by cases e <;> simp_all [cmpOk, D.pl]) (by simp [D.dep])
  | .str _, e, n, h, hn, hN => eqPl (by cases e <;> simp_all [cmpOk, D.pl]) (by cases e <;> simp_all [cmpOk, D.pl]) (by simp [D.dep])
  | .lst ds, e, n, h, hn, hN => by
    cases e with
    | lst es =>
      rw [D.need] at hn
      have h' := h
      rw [cmpOk] at h'
      obtain ⟨k, rfl⟩ : ∃ k, n = k + 1 := ⟨n - 1, by omega⟩
      intro A pins s σ H x y u v sb I cx ru rv rd re
      cases rd with
      | lst h1 d1 =>
        cases ru
        exact RcRun.eq (lev := lev) (rcLst fun i d e hd he => eq_runA E h' (by omega) (by omega) i d e hd he) h sb I cx rv (.lst h1 d1) re
    | non => exact eqPl (by simp_all [cmpOk, D.pl]) (by simp_all [cmpOk, D.pl]) (by rw [← need_dep (lev := lev) (by simp_all [cmpOk, D.pl])]; exact hn)
    | bl _ => exact eqPl (by simp_all [cmpOk, D.pl]) (by simp_all [cmpOk, D.pl]) (by rw [← need_dep (lev := lev) (by simp_all [cmpOk, D.pl])]; exact hn)
    | int _ => exact eqPl (by simp_all [cmpOk, D.pl]) (by simp_all [cmpOk, D.pl]) (by rw [← need_dep (lev := lev) (by simp_all [cmpOk, D.pl])]; exact hn)
    | str _ => exact eqPl (by simp_all [cmpOk, D.pl]) (by simp_all [cmpOk, D.pl]) (by rw [← need_dep (lev := lev) (by simp_all [cmpOk, D.pl])]; exact hn)
    | tup _ => exact eqPl (by simp_all [cmpOk, D.pl]) (by simp_all [cmpOk, D.pl]) (by rw [← need_dep (lev := lev) (by simp_all [cmpOk, D.pl])]; exact hn)
    | obj _ _ => simp [cmpOk, D.pl] at h
    | exc _ _ => simp [cmpOk, D.pl] at h
    | dct _ => simp [cmpOk, D.pl] at h
    | pen => simp [cmpOk, D.pl] at h
    | opq => simp [cmpOk, D.pl] at h
    | gf _ => simp [cmpOk, D.pl] at h
  | .tup ds, e, n, h, hn, hN => by
    cases e with
    | tup es =>
      rw [D.need] at hn
      have h' := h
      rw [cmpOk] at h'
      obtain ⟨k, rfl⟩ : ∃ k, n = k + 1 := ⟨n - 1, by omega⟩
      intro A pins s σ H x y u v sb I cx ru rv rd re
      cases rd with
      | tup h1 d1 =>
        cases ru
        exact RcRun.eq (lev := lev) (rcTup fun i d e hd he => eq_runA E h' (by omega) (by omega) i d e hd he) h sb I cx rv (.tup h1 d1) re
    | non => exact eqPl (by simp_all [cmpOk, D.pl]) (by simp_all [cmpOk, D.pl]) (by rw [← need_dep (lev := lev) (by simp_all [cmpOk, D.pl])]; exact hn)
    | bl _ => exact eqPl (by simp_all [cmpOk, D.pl]) (by simp_all [cmpOk, D.pl]) (by rw [← need_dep (lev := lev) (by simp_all [cmpOk, D.pl])]; exact hn)
    | int _ => exact eqPl (by simp_all [cmpOk, D.pl]) (by simp_all [cmpOk, D.pl]) (by rw [← need_dep (lev := lev) (by simp_all [cmpOk, D.pl])]; exact hn)
    | str _ => exact eqPl (by simp_all [cmpOk, D.pl]) (by simp_all [cmpOk, D.pl]) (by rw [← need_dep (lev := lev) (by simp_all [cmpOk, D.pl])]; exact hn)
    | lst _ => exact eqPl (by simp_all [cmpOk, D.pl]) (by simp_all [cmpOk, D.pl]) (by rw [← need_dep (lev := lev) (by simp_all [cmpOk, D.pl])]; exact hn)
    | obj _ _ => simp [cmpOk, D.pl] at h
    | exc _ _ => simp [cmpOk, D.pl] at h
    | dct _ => simp [cmpOk, D.pl] at h
    | pen => simp [cmpOk, D.pl] at h
    | opq => simp [cmpOk, D.pl] at h
    | gf _ => simp [cmpOk, D.pl] at h
  | .obj C fs, e, n, h, hn, hN => by
    rw [D.need] at hn
    have pos : 0 < lev C := by
      cases e <;> (first | (rw [cmpOk, Bool.and_eq_true, Bool.and_eq_true] at h; exact of_decide_eq_true h.1.1) | (rw [cmpOk] at h; exact of_decide_eq_true h) | (simp [cmpOk, D.pl] at h))
    intro A pins s σ H x y u v sb I cx ru rv rd re
    cases rd with
    | obj h1 d1 =>
      cases ru
      exact RcRun.eq (lev := lev) (rcObj (E.eq C pos (by omega)) h E.ins hn) h sb I cx rv (.obj h1 d1) re
  | .dct fs, e, n, h, hn, hN => by
    cases e with
    | dct gs =>
      intro A pins s σ H x y u v sb I cx ru rv rd re
      cases rd with
      | dct h1 d1 =>
        cases ru
        exact RcRun.eq (lev := lev) (rcDct h) h sb I cx rv (.dct h1 d1) re
    | _ => simp [cmpOk, D.pl] at h
  | .exc _ _, e, n, h, hn, hN => by rw [cmp_excL] at h; cases h
  | .pen, e, n, h, hn, hN => by rw [cmp_penL] at h; cases h
  | .opq, e, n, h, hn, hN => by rw [cmp_opqL] at h; cases h
  | .gf _, e, n, h, hn, hN => by rw [cmp_gfL] at h; cases h
theorem eq_runA {N : Nat} (E : EqE X.prog X.w X.K T X.mg X.base lev N) : ∀ {ds es : List D} {n : Nat}, cmpA lev ds es = true → needA lev ds ≤ n → n ≤ N → ∀ (i : Nat) d e, ds[i]? = some d → es[i]? = some e → EqRun X T p cc B m n d e
  | [], es, n, h, hn, hN, i, d, e, hd, he => by simp at hd
  | d0 :: ds, [], n, h, hn, hN, i, d, e, hd, he => by simp at he
  | d0 :: ds, e0 :: es, n, h, hn, hN, i, d, e, hd, he => by
    rw [cmpA, Bool.and_eq_true] at h
    rw [needA] at hn
    cases i with
    | zero =>
      simp at hd he
      subst hd
      subst he
      exact eq_run E h.1 (by omega) hN
    | succ i => exact eq_runA E h.2 (by omega) hN i d e (by simpa using hd) (by simpa using he)
end
end
end DW

/-! DW26: != of instances with an own __eq__ (and no own __ne__). -/
namespace DW
open PySem PySem.Spec PySem.W
section
variable {prog : Program} {w : World} {A : Around} {E : Value → Shared → Prop} {s : Shared} {K : PySem.W.Frag} {x C L f : Addr} {h0 : Heap} {m : Str → Option Value} {ox : Obj} {od : Option Obj} {b tb : Value}
theorem neSlot : Slot "object" "__ne__" "object.__ne__" := Slot.of (owner := "object") (n := "__ne__") (by rw [typeLookup_type, builtinLookup_eq_fast]; kernel_rfl) (by decide +kernel) (by decide +kernel) (by decide +kernel) (.inl (by decide +kernel)) (by rw [isSubtype_type]; kernel_rfl)
theorem ifBound_B {M : Model} {name : Str} {i : String} {args : List Value} {Q : Option Value → Shared → Prop} (X : K.In s.heap) (I : InstAt s.heap x ox C od) (hs : findIn K (.ref C) name = some (some (.builtin i))) (hb : ∀ self, bindSpecial (.builtin i) self = pure (.builtin i, [self]))
    (h : wpAny M A (call (.builtin i) (.ref x :: args)) (fun v => Q (some v)) E s) : wpAny M A (callSpecialIfBound? (.ref x) name args) Q E s := by
  have last : wpAny M A (call (.builtin i) ([.ref x] ++ args) >>= fun v => pure (some v)) Q E s := wpAny_bind (wpAny_mono h (fun v s' q => wpAny_pure q) fun _ _ q => q)
  simp only [callSpecialIfBound?, bindSpecialIfBound?, hb]
  refine wpAny_holding (wpAny_bind (wpAny_bind (wpAny_bind ?_)))
  refine I.type.here ((looks_findIn X hs).here (wpAny_bind (wpAny_askSetting (wpAny_ite ?_))))
  split
  · refine wpAny_bind ?_
    rw [hb]
    exact wpAny_pure (wpAny_pure last)
  · refine wpAny_tryCatch (wpAny_bind ?_)
    rw [hb]
    exact wpAny_pure (wpAny_pure last)
/-- x != b, by x's own __eq__ -/
theorem rcNe_own {Q : Value → Shared → Prop} (hu : A.units + 2 < cLine) (X : K.In s.heap) (I : InstAt s.heap x ox C od) (hb : Looks (model prog w) s.heap (typeOf b) tb) (hn : notFirst K C tb = true) (hne : findIn K (.ref C) "__ne__" = some (some (.builtin "object.__ne__")))
    (hm : mroIn K C (.type "object") = some true) (hs : findIn K (.ref C) "__eq__" = some (some (.ref f))) (hf : isFn K (.ref f) = true)
    (h : wpAny (model prog w) A.in1 (call (.ref f) [.ref x, b]) (fun v s' => ∃ r, v = .bool r ∧ Q (.bool (!r)) s') E s) : wpAny (model prog w) A (richCompare .NotEq (.ref x) b) Q E s := by
  have self : Looks (model prog w) s.heap (isInstance (.ref x) (.type "object")) true := I.type.andThen (looks_mroIn X hm)
  have back : wpAny (model prog w) A (tryCompare (.ref x) "__ne__" b) (fun r s' => ∃ v, r = some v ∧ Q v s') E s := by
    unfold tryCompare
    refine wpAny_bind (ifBound_B X I hne neSlot.bind (wpAny_call (codeAny_call_builtin neSlot.plain F.cmpEntry_ne (check_slot F.cmpKind_ne F.cmpSplit_ne self (F.cmpArgs_ne _ _) ?_))))
    unfold Builtin.«object.__ne__»
    have hu2 : A.in1.units < cLine := by
      show A.units + 1 < _
      omega
    have eq1 : wpAny (model prog w) A.in1 (callSpecialIfBound? (.ref x) "__eq__" [b]) (fun r s' => ∃ k, r = some (.bool k) ∧ Q (.bool (!k)) s') E s := ifBound_K X I hs hf (wpAny_mono h (fun v s' ⟨r, e, q⟩ => ⟨r, by rw [e], q⟩) fun _ _ z => z)
    repeat (first | with_reducible refine wpAny_cRoomFor hu2 ?_ | (with_reducible refine wpAny_mono eq1 ?_ ?_) | wp_step)
    · rintro r s2 ⟨k, rfl, q⟩
      refine wpAny_bind (wpAny_truthy_bool ?_)
      exact wpAny_pure (wpAny_pure ⟨_, rfl, q⟩)
    · intro e s2 q
      exact q
  unfold richCompare
  simp only [oneThing_ref]
  refine wpAny_holding (wpAny_bind (wpAny_cRoomFor (by omega) ?_))
  refine wpAny_bind (I.type.here (wpAny_bind (hb.here ?_)))
  have done : wpAny (model prog w) A (tryCompare (.ref x) "__ne__" b) (fun r s' => ∃ v, r = some v ∧ Q v s') E s := back
  split
  · rename_i q
    have e : subIn K tb (.ref C) = some false := by
      rcases Bool.or_eq_true_iff.mp hn with z | z
      · rw [beq_iff_eq.mp z] at q
        simp at q
      · exact beq_iff_eq.mp z
    refine wpAny_bind ((looks_subIn X e).here ?_)
    simp only [Bool.false_eq_true, if_false]
    refine wpAny_bind (wpAny_mono done (fun r s' z => ?_) fun _ _ e => e)
    obtain ⟨v, rfl, q⟩ := z
    exact wpAny_pure q
  · refine wpAny_bind (wpAny_pure ?_)
    simp only [Bool.false_eq_true, if_false]
    refine wpAny_bind (wpAny_mono done (fun r s' z => ?_) fun _ _ e => e)
    obtain ⟨v, rfl, q⟩ := z
    exact wpAny_pure q
end
section
open L2 PyProof.Rows
variable {X : Cx} {T : List (Addr × Str)} {lev : Lev} {n : Nat}
/-- what is read of == and != -/
def rEqX (f : Bool → Bool) (K : PySem.W.Frag) (T : List (Addr × Str)) (lev : Lev) (n : Nat) : R2 := fun x y H Q => ∃ (p : Option Addr) (cc : Addr) (B : List Addr) (m : Nat) (d e : D), Ctx T p cc B m H ∧ Rep p K (cut B H) x d ∧ Rep p K (cut B H) y e ∧ cmpOk lev d e = true ∧ d.need lev ≤ n ∧
  ∀ H', KeepT T p H H' → Amb T p cc m H' → Q (.bl (f (d.eqb e))) H'
theorem rc_any {p : Option Addr} {cc : Addr} {B : List Addr} {m N : Nat} (E : EqE X.prog X.w X.K T X.mg X.base lev N) {d e : D} {n : Nat} (h : cmpOk lev d e = true) (hn : d.need lev ≤ n) (hN : n ≤ N) (np : (d.pl && e.pl) = false) : RcRun X T p cc B m n d e := by
  cases d with
  | lst ds =>
    cases e with
    | lst es =>
      rw [D.need] at hn
      rw [cmpOk] at h
      obtain ⟨k, rfl⟩ : ∃ k, n = k + 1 := ⟨n - 1, by omega⟩
      exact rcLst fun i d e hd he => eq_runA E h (by omega) (by omega) i d e hd he
    | _ => simp_all [cmpOk, D.pl]
  | tup ds =>
    cases e with
    | tup es =>
      rw [D.need] at hn
      rw [cmpOk] at h
      obtain ⟨k, rfl⟩ : ∃ k, n = k + 1 := ⟨n - 1, by omega⟩
      exact rcTup fun i d e hd he => eq_runA E h (by omega) (by omega) i d e hd he
    | _ => simp_all [cmpOk, D.pl]
  | obj C fs =>
    have pos : 0 < lev C := by
      cases e <;> (first | (rw [cmpOk, Bool.and_eq_true, Bool.and_eq_true] at h; exact of_decide_eq_true h.1.1) | (rw [cmpOk] at h; exact of_decide_eq_true h) | (simp [cmpOk, D.pl] at h))
    rw [D.need] at hn
    exact rcObj (E.eq C pos (by omega)) h E.ins hn
  | dct fs =>
    cases e with
    | dct gs => exact rcDct h
    | _ => simp_all [cmpOk, D.pl]
  | exc _ _ => rw [cmp_excL] at h; cases h
  | pen => rw [cmp_penL] at h; cases h
  | opq => rw [cmp_opqL] at h; cases h
  | gf _ => rw [cmp_gfL] at h; cases h
  | _ => cases e <;> simp_all [cmpOk, D.pl]
theorem room_dep {k n : Nat} {A : Around} (hr : Room k A) (h : n ≤ k) {a b : Nat} (ha : a ≤ n) : A.units + min a b < cLine := by
  have := hr.un
  have : min a b ≤ a := Nat.min_le_left _ _
  omega
theorem op_eqX (E : EqE X.prog X.w X.K T X.mg X.base lev n) (hr : Room n X.A) : OpR X (compareOp .Eq) (rEqX id X.K T lev n) := by
  intro pins s σ H x y v u Q I rx ry ⟨p, cc, B, m, d, e, cx, rd, re, ok, hn, q⟩
  by_cases np : (d.pl && e.pl) = true
  · rw [Bool.and_eq_true] at np
    obtain ⟨a, a1, a2, a3⟩ := pl_py np.1
    obtain ⟨b, b1, b2, b3⟩ := pl_py np.2
    obtain ⟨as, ra⟩ := Dp.reads I a x v (rd.dp a1) rx
    obtain ⟨bs, rb⟩ := Dp.reads I b y u (re.dp b1) ry
    refine SeqAt.compareEq_reads ra rb a2 b2 (room_dep hr (Nat.le_refl _) (by rw [a3, ← need_dep (lev := lev) np.1]; exact hn)) ⟨.bl _, H, I, rfl, ?_⟩
    rw [eqv_eqb a1 b1]
    exact q H (fun _ _ _ z => z) cx.am
  · have np : (d.pl && e.pl) = false := by simpa using np
    have run := rc_any (p := p) (cc := cc) (B := B) (m := m) E ok hn (Nat.le_refl n) np
    obtain ⟨a, rfl⟩ : ∃ a, x = .ref a := by
      cases rd with
      | lst _ _ => exact ⟨_, rfl⟩
      | tup _ _ => exact ⟨_, rfl⟩
      | obj _ _ => exact ⟨_, rfl⟩
      | dct _ _ => exact ⟨_, rfl⟩
      | exc _ _ _ => exact ⟨_, rfl⟩
      | exc0 _ => exact ⟨_, rfl⟩
      | pen _ => exact ⟨_, rfl⟩
      | opq _ => exact ⟨_, rfl⟩
      | gf => exact ⟨_, rfl⟩
      | non => cases e <;> simp_all [cmpOk, D.pl]
      | bl _ => cases e <;> simp_all [cmpOk, D.pl]
      | int _ => cases e <;> simp_all [cmpOk, D.pl]
      | str _ => cases e <;> simp_all [cmpOk, D.pl]
    cases rx
    show wpAny (model X.prog X.w) X.A (richCompare .Eq (.ref a) u) (EP X pins σ Q) X.xe s
    refine wpAny_mono (run X.A pins s σ H a y u ⟨hr, rfl⟩ I cx ry rd re) (fun r s' z => ?_) fun _ _ z => z
    obtain ⟨rfl, H', I', k, am⟩ := z
    exact ⟨.bl _, H', I', rfl, q H' k am⟩
/-- own classes have no __ne__ -/
def NeE (K : PySem.W.Frag) (lev : Lev) : Prop := ∀ C, 0 < lev C → PySem.W.findIn K (.ref C) "__ne__" = some (some (.builtin "object.__ne__"))
theorem op_neX (E : EqE X.prog X.w X.K T X.mg X.base lev n) (N : NeE X.K lev) (hr : Room (n + 1) X.A) : OpR X (compareOp .NotEq) (rEqX not X.K T lev n) := by
  intro pins s σ H x y v u Q I rx ry ⟨p, cc, B, m, d, e, cx, rd, re, ok, hn, q⟩
  have hr0 : Room n X.A := hr.mono (Nat.le_succ n)
  by_cases np : (d.pl && e.pl) = true
  · rw [Bool.and_eq_true] at np
    obtain ⟨a, a1, a2, a3⟩ := pl_py np.1
    obtain ⟨b, b1, b2, b3⟩ := pl_py np.2
    obtain ⟨as, ra⟩ := Dp.reads I a x v (rd.dp a1) rx
    obtain ⟨bs, rb⟩ := Dp.reads I b y u (re.dp b1) ry
    refine SeqAt.compareNe_reads ra rb a2 b2 (room_dep hr0 (Nat.le_refl _) (by rw [a3, ← need_dep (lev := lev) np.1]; exact hn)) ⟨.bl _, H, I, rfl, ?_⟩
    rw [eqv_eqb a1 b1]
    exact q H (fun _ _ _ z => z) cx.am
  have np : (d.pl && e.pl) = false := by simpa using np
  cases d with
  | tup ds =>
    cases e with
    | tup es =>
      rw [D.need] at hn
      rw [cmpOk] at ok
      obtain ⟨k, rfl⟩ : ∃ k, n = k + 1 := ⟨n - 1, by omega⟩
      cases rd with
      | tup h1 d1 =>
        cases re with
        | tup h2 d2 =>
          cases rx
          cases ry
          obtain ⟨its, r1, t1, _⟩ := I.tuple (SqT.uncut h1)
          obtain ⟨its2, r2, t2, _⟩ := I.tuple (SqT.uncut h2)
          refine rc_tupNeB (e := pairB ds es) hr0.units0 (fun _ s' => LoopE X T p cc m pins σ H s') t1 t2 (fun i h1 h2 s' z => turnE (fun i d e hd he => eq_runA E ok (show needA lev ds ≤ k by omega) (by omega) i d e hd he) ⟨hr0, rfl⟩ cx r1 r2 d1 d2 i h1 h2 s' z) (fun i s' z => ?_) ⟨H, I, fun _ _ _ z => z, cx.am⟩
          obtain ⟨H', I', kp, am⟩ := z
          refine ⟨.bl (!D.eqb (.tup ds) (.tup es)), H', I', ?_, q H' kp am⟩
          rw [List.size_toArray, List.size_toArray, ← r1.length, ← r2.length, d1.length, d2.length, pairB_all, D.eqb]
          rfl
    | _ => simp_all [cmpOk, D.pl]
  | obj C fs =>
    have pos : 0 < lev C := by
      cases e <;> (first | (rw [cmpOk, Bool.and_eq_true, Bool.and_eq_true] at ok; exact of_decide_eq_true ok.1.1) | (rw [cmpOk] at ok; exact of_decide_eq_true ok) | (simp [cmpOk, D.pl] at ok))
    rw [D.need] at hn
    have EC := E.eq C pos (by omega)
    obtain ⟨f, fd, ps, hs, hf, F, hb⟩ := EC.ex
    have ty : ∃ t, TyD X.K e t ∧ PySem.W.notFirst X.K C t = true := by
      cases e with
      | non => exact ⟨_, .base rfl, EC.nf _ (by decide)⟩
      | bl _ => exact ⟨_, .base rfl, EC.nf _ (by decide)⟩
      | int _ => exact ⟨_, .base rfl, EC.nf _ (by decide)⟩
      | str _ => exact ⟨_, .base rfl, EC.nf _ (by decide)⟩
      | lst _ => exact ⟨_, .base rfl, EC.nf _ (by decide)⟩
      | tup _ => exact ⟨_, .base rfl, EC.nf _ (by decide)⟩
      | obj C' gs =>
        have z := ok
        rw [cmpOk, Bool.and_eq_true, Bool.and_eq_true] at z
        have z2 := of_decide_eq_true z.1.2
        exact ⟨_, .obj (E.ins C' z2), EC.nfo C' z2⟩
      | dct _ => exact ⟨_, .dct, EC.nf _ (by decide)⟩
      | exc _ _ => rw [cmp_excR] at ok; cases ok
      | pen => rw [cmp_penR] at ok; cases ok
      | opq => rw [cmp_opqR] at ok; cases ok
      | gf _ => rw [cmp_gfR] at ok; cases ok
    obtain ⟨t, tyd, nf⟩ := ty
    obtain ⟨P1, Z, pz, _⟩ := kit_of I ry (re.tyX tyd)
    cases rd with
    | obj h1 d1 =>
      rename_i a dx gs
      cases rx
      obtain ⟨mA, O, _⟩ := ins_get I.hok (cut_some h1).2
      obtain ⟨od, J, _⟩ := O.look
      have hun := hr.un
      refine rcNe_own (by omega) I.kIn J (Z.ty _ _ I.kIn pz) nf (N C pos) EC.ins.hm hs hf ?_
      have hsp : spD X.K T (fwEq lev C) [.ref a, y] H (fun z H' => z = .bl (D.eqb (.obj C fs) e) ∧ KeepT T p H H' ∧ Amb T p cc m H') E0 :=
        ⟨p, cc, B, [.obj C fs, e], m, fun d m' => d = .bl (D.eqb (.obj C fs) e) ∧ m' = m, .cons (.obj h1 d1) (.cons re .nil), cx, ⟨fs, e, rfl, ok, rfl, rfl⟩, fun z d m' H' kp am rz ⟨e1, e2⟩ => by
          subst e1
          subst e2
          cases rz
          exact ⟨rfl, kp, am⟩⟩
      have e0 : Env0 X.prog X.w X.K X.mg X.base X.A.in1 X.stack s H := by
        have z := I.env0
        exact ⟨z.frames, z.mod, z.bs, z.bsz, z.funs, z.frf, z.hok, z.bare⟩
      have hl := F.len _ _ _ _ hsp
      have vals : Vals [V.ref a, y] [Value.ref a, u] := .cons rfl (.cons ry .nil)
      refine wpAny_call (codeAny_mono (F.run X.A.in1 X.stack s H ⟨[.ref a, u], []⟩ [.ref a, u] [.ref a, y] _ E0 (hr.in1.mono hn) e0 (by
        have z := hb s [.ref a, u] I.kIn (by simpa using hl)
        simpa using z) vals hsp) fun r s' hq => ?_)
      match r, hq with
      | .error er, hq => exact (pass0 (X := X) pins σ H s er s' I hq)
      | .ok (.ret w), hq =>
        obtain ⟨z, H', I', rz, ez, kp, am⟩ := I.after hq
        subst ez
        cases rz
        exact ⟨_, rfl, .bl _, H', I', rfl, q H' kp am⟩
  | dct fs =>
    cases e with
    | dct gs =>
      obtain ⟨a, rfl⟩ : ∃ a, x = .ref a := by
        cases rd
        exact ⟨_, rfl⟩
      cases rx
      have hun := hr.un
      obtain ⟨b, va, vb, rfl, na, nb, da, db, hit, le⟩ := two_dcts (A := X.A) ok (by show X.A.units + 1 + 64 < _; omega) I ry rd re
      refine PySem.W.keq_ne (knd := mixKind X.prog X.w) na nb da db hr0.units0 (fun _ => hit) ?_
      rw [le]
      refine ⟨.bl (!D.eqb (.dct fs) (.dct gs)), H, I, ?_, q H (fun _ _ _ z => z) cx.am⟩
      rw [D.eqb]
      rw [beq_self_eq_true, Bool.true_and]
      rfl
    | _ => simp_all [cmpOk, D.pl]
  | lst ds =>
    cases e with
    | lst es =>
      rw [D.need] at hn
      rw [cmpOk] at ok
      obtain ⟨k, rfl⟩ : ∃ k, n = k + 1 := ⟨n - 1, by omega⟩
      cases rd with
      | lst h1 d1 =>
        cases re with
        | lst h2 d2 =>
          rename_i a xs b ys
          cases rx
          cases ry
          have n1 : a ∉ B := (cut_some h1).1
          have n2 : b ∉ B := (cut_some h2).1
          by_cases hl : ds.length = es.length
          · refine rc_lstNe (N := ds.length) (e := pairB ds es) hr0.units0 (fun _ s' => LoopE X T p cc m pins σ H s') (fun i s' z => ?_) (fun i s' z => ?_) ⟨H, I, fun _ _ _ z => z, cx.am⟩
            · obtain ⟨H1, I1, k1, am1⟩ := id z
              have g := cx.grow k1
              obtain ⟨_, its, c1, r1, e1⟩ := I1.hok a _ (g a _ n1 (cut_some h1).2)
              obtain ⟨_, its2, c2, r2, e2⟩ := I1.hok b _ (g b _ n2 (cut_some h2).2)
              exact ⟨its.toArray, its2.toArray, c1, c2, e1, e2, by rw [List.size_toArray, ← r1.length, d1.length], by rw [List.size_toArray, ← r2.length, d2.length, hl], fun l1 l2 => turnE (fun i d e hd he => eq_runA E ok (show needA lev ds ≤ k by omega) (by omega) i d e hd he) ⟨hr0, rfl⟩ cx r1 r2 d1 d2 i l1 l2 s' z⟩
            · obtain ⟨H', I', kp, am⟩ := z
              refine ⟨.bl (!D.eqb (.lst ds) (.lst es)), H', I', ?_, q H' kp am⟩
              have := pairB_all ds es
              rw [← hl] at this
              rw [this, D.eqb]
              rfl
          · obtain ⟨its, r1, t1, _⟩ := I.list (SqL.of (cut_some h1).2)
            obtain ⟨its2, r2, t2, _⟩ := I.list (SqL.of (cut_some h2).2)
            have eb : eqbA ds es = false := by
              rw [← pairB_all]
              unfold pairsB
              have : (ds.length == es.length) = false := by simpa using hl
              rw [this, Bool.and_false]
            refine SeqAt.RcNeAt.lists_lengths t1.isList t2.isList ?_ hr0.units0 X.prog X.w X.xe _ ⟨.bl (!D.eqb (.lst ds) (.lst es)), H, I, ?_, q H (fun _ _ _ z => z) cx.am⟩
            · rw [List.size_toArray, List.size_toArray, ← r1.length, ← r2.length, d1.length, d2.length]
              simpa using hl
            · rw [D.eqb, eb]
              rfl
    | _ => simp_all [cmpOk, D.pl]
  | exc _ _ => rw [cmp_excL] at ok; cases ok
  | pen => rw [cmp_penL] at ok; cases ok
  | opq => rw [cmp_opqL] at ok; cases ok
  | gf _ => rw [cmp_gfL] at ok; cases ok
  | _ => cases e <;> simp_all [cmpOk, D.pl]
end
end DW

/-! DW27: ==, isinstance, chains, in, all over data; lists of one's own lent; items stored. -/
namespace DW
open PySem PySem.Spec L2 PyProof.Rows
section
variable {X : Cx} {c : C0} {e a b d : Expr} {es : List Expr} {wa wb wc we : WE} {wt : WT} {pos p : Pos} {lev : Lev} {n : Nat}
/-! ### == -/
def eqXD (f : Bool → Bool) (lev : Lev) (n : Nat) : D → D → (D → Prop) → Prop := fun d e Q => cmpOk lev d e = true ∧ d.need lev ≤ n ∧ Q (.bl (f (d.eqb e)))
theorem rd_eqX {K : PySem.W.Frag} {f : Bool → Bool} : RdOp K c (rEqX f K c.T lev n) (eqXD f lev n) := fun A ρ m σ H G x y d e rx ry Q Qv ⟨h1, h2, h3⟩ k =>
  ⟨c.p, c.cc, A, m, d, e, G.ctx, rx, ry, h1, h2, fun H' kp am => k _ _ H' (G.step kp am) kp (.bl _) h3⟩
def de_eqX (E : EqE X.prog X.w X.K c.T X.mg X.base lev n) {j : Nat} (hr : Room j X.A) (hj : n ≤ j) (ha : DE X c a wa) (hb : DE X c b wb) : DE X c (.Compare a [.Eq] [b] pos) (wOp (eqXD id lev n) wa wb) := de_cmp (op_eqX E (hr.mono hj)) rd_eqX ha hb (nomark _)
def de_neX (E : EqE X.prog X.w X.K c.T X.mg X.base lev n) (N : NeE X.K lev) {j : Nat} (hr : Room j X.A) (hj : n + 1 ≤ j) (ha : DE X c a wa) (hb : DE X c b wb) : DE X c (.Compare a [.NotEq] [b] pos) (wOp (eqXD not lev n) wa wb) := de_cmp (op_neX E N (hr.mono hj)) rd_eqX ha hb (nomark _)
def dt_eqX (E : EqE X.prog X.w X.K c.T X.mg X.base lev n) {j : Nat} (hr : Room j X.A) (hj : n ≤ j) (ha : DE X c a wa) (hb : DE X c b wb) : DT X c (.Compare a [.Eq] [b] pos) (wTest (wOp (eqXD id lev n) wa wb)) := dt_cmp (op_eqX E (hr.mono hj)) rd_eqX ha hb (nomark _)
def dt_neX (E : EqE X.prog X.w X.K c.T X.mg X.base lev n) (N : NeE X.K lev) {j : Nat} (hr : Room j X.A) (hj : n + 1 ≤ j) (ha : DE X c a wa) (hb : DE X c b wb) : DT X c (.Compare a [.NotEq] [b] pos) (wTest (wOp (eqXD not lev n) wa wb)) := dt_cmp (op_neX E N (hr.mono hj)) rd_eqX ha hb (nomark _)

/-! ### isinstance -/
def wIsi (K : PySem.W.Frag) (u : Value) (wa : WE) : WE := fun ρ m Q => wa ρ m fun d m1 => ∃ t k, TyD K d t ∧ PySem.W.kitOne K t u = some k ∧ Q (.bl k) m1
def wIsiN (K : PySem.W.Frag) (us : List Value) (wa : WE) : WE := fun ρ m Q => wa ρ m fun d m1 => ∃ t k, TyD K d t ∧ PySem.W.kitAny K t us = some k ∧ Q (.bl k) m1
/-- a built-in class -/
def de_isB {K : PySem.W.Frag} {T : String} {p' : Pos} {x : Str} (hK : X.K = K) (hg : Gl X "isinstance") (hm : X.mg "isinstance" = none) (hgT : Gl X x) (hmT : X.mg x = none) (hvT : bootBuiltins x = some (.type T)) (ha : DE X c a wa) (hn : x ≠ "__name__" := by decide) (hdb : (x == ("__debug__" : Str)) = false := by decide)
    (he : starEach [a, .Name x p'] X.env = (false, eval a X.env) :: starEach [.Name x p'] X.env := by rfl) (he2 : starEach [.Name x p'] X.env = (false, eval (.Name x p') X.env) :: starEach [] X.env := by rfl) (hpl : (backTo pos (starEach [.Name x p'] X.env)).any (·.1) = false := by rfl) :
    DE X c (.Call (.Name "isinstance" p) [a, .Name x p'] [] pos) (wIsi K (.type T) wa) :=
  ⟨_, pe_callB call_isi hg hm (by decide +kernel) (pa_cons ha.pe (pa_cons (pe_bltn (v := .ty T) hgT hmT hvT rfl hn hdb) pa_nil he2) he) (he := he) (hpl := hpl), fun A ρ m σ H G Q Qv hw k => ha.rd A ρ m σ H G _ _ hw fun v d m1 H1 G1 k1 r1 ⟨t, kk, e1, e2, q⟩ => by
    subst hK
    exact ⟨v, .ty T, t, .type T, kk, rfl, .ty T, r1.tyX e1, e2, k _ _ m1 H1 G1 k1 (.bl _) q⟩⟩
/-- an own class -/
def de_isO {K : PySem.W.Frag} {C : Addr} {y : Str} {p' : Pos} (hK : X.K = K) (hg : Gl X "isinstance") (hm : X.mg "isinstance" = none) (hgC : Gl X y) (hmC : X.mg y = some (.ref C)) (ha : DE X c a wa) (hdb : (y == ("__debug__" : Str)) = false := by decide)
    (he : starEach [a, .Name y p'] X.env = (false, eval a X.env) :: starEach [.Name y p'] X.env := by rfl) (he2 : starEach [.Name y p'] X.env = (false, eval (.Name y p') X.env) :: starEach [] X.env := by rfl) (hpl : (backTo pos (starEach [.Name y p'] X.env)).any (·.1) = false := by rfl) :
    DE X c (.Call (.Name "isinstance" p) [a, .Name y p'] [] pos) (wIsi K (.ref C) wa) :=
  ⟨_, pe_callB call_isi hg hm (by decide +kernel) (pa_cons ha.pe (pa_cons (pe_glob (v := .ref C) hgC hmC rfl hdb) pa_nil he2) he) (he := he) (hpl := hpl), fun A ρ m σ H G Q Qv hw k => ha.rd A ρ m σ H G _ _ hw fun v d m1 H1 G1 k1 r1 ⟨t, kk, e1, e2, q⟩ => by
    subst hK
    exact ⟨v, .ref C, t, .ref C, kk, rfl, .own C, r1.tyX e1, e2, k _ _ m1 H1 G1 k1 (.bl _) q⟩⟩
/-- one of two built-in classes -/
def de_is2 {K : PySem.W.Frag} {S T : String} {p1 p2 p3 : Pos} {x y : Str} {j : Nat} (hK : X.K = K) (hg : Gl X "isinstance") (hm : X.mg "isinstance" = none) (hgS : Gl X x) (hmS : X.mg x = none) (hvS : bootBuiltins x = some (.type S)) (hgT : Gl X y) (hmT : X.mg y = none) (hvT : bootBuiltins y = some (.type T)) (ha : DE X c a wa)
    (hn : x ≠ "__name__" := by decide) (hn2 : y ≠ "__name__" := by decide) (hdb : (x == ("__debug__" : Str)) = false := by decide) (hdb2 : (y == ("__debug__" : Str)) = false := by decide)
    (he : starEach [a, .Tuple [.Name x p1, .Name y p2] j p3] X.env = (false, eval a X.env) :: starEach [.Tuple [.Name x p1, .Name y p2] j p3] X.env := by rfl) (he2 : starEach [.Tuple [.Name x p1, .Name y p2] j p3] X.env = (false, eval (.Tuple [.Name x p1, .Name y p2] j p3) X.env) :: starEach [] X.env := by rfl)
    (he3 : starEach [.Name x p1, .Name y p2] X.env = (false, eval (.Name x p1) X.env) :: starEach [.Name y p2] X.env := by rfl) (he4 : starEach [.Name y p2] X.env = (false, eval (.Name y p2) X.env) :: starEach [] X.env := by rfl) (hpl : (backTo pos (starEach [.Tuple [.Name x p1, .Name y p2] j p3] X.env)).any (·.1) = false := by rfl) :
    DE X c (.Call (.Name "isinstance" p) [a, .Tuple [.Name x p1, .Name y p2] j p3] [] pos) (wIsiN K [.type S, .type T] wa) :=
  ⟨_, pe_callB call_isiT hg hm (by decide +kernel) (pa_cons ha.pe (pa_cons (pe_tup (pa_cons (pe_bltn (v := .ty S) hgS hmS hvS rfl hn hdb) (pa_cons (pe_bltn (v := .ty T) hgT hmT hvT rfl hn2 hdb2) pa_nil he4) he3)) pa_nil he2) he) (he := he) (hpl := hpl), fun A ρ m σ H G Q Qv hw k => ha.rd A ρ m σ H G _ _ hw fun v d m1 H1 G1 k1 r1 ⟨t, kk, e1, e2, q⟩ => by
    subst hK
    refine ⟨by show 2 ≤ sizeLine; decide, fun tp hp => ?_⟩
    have r2 := r1.ext (fresh_ext (A := A) (o := .tup [V.ty S, V.ty T]) hp)
    exact ⟨v, tp, [.ty S, .ty T], t, [.type S, .type T], kk, rfl, upd_same, .cons (.ty S) (.cons (.ty T) .nil), r2.tyX e1, e2, k _ _ m1 _ (G1.fresh hp) (k1.trans (Keep.new hp)) (.bl _) q⟩⟩

/-! ### a op b op c -/
def wChain (f g : D → D → (D → Prop) → Prop) (wa wb wc : WE) : WE := fun ρ m Q => wa ρ m fun x m1 => wb ρ m1 fun y m2 => f x y fun z => match z with
  | .bl k => if k = true then wc ρ m2 fun w m3 => g y w fun r => Q r m3 else Q (.bl false) m2
  | _ => False
theorem rd_chain {K : PySem.W.Frag} {ta tb tc : TE} {r r' : R2} {f g : D → D → (D → Prop) → Prop} (ra : RdE K c ta wa) (rb : RdE K c tb wb) (rc : RdE K c tc wc) (hr : RdOp K c r f) (hr' : RdOp K c r' g) : RdE K c (tChain r r' ta tb tc) (wChain f g wa wb wc) := fun A ρ m σ H G Q Qv hw k => by
  refine ra A ρ m σ H G _ _ hw fun x dx m1 H1 G1 k1 r1 q1 => ?_
  refine rb A ρ m1 σ H1 G1 _ _ q1 fun y dy m2 H2 G2 k2 r2 q2 => ?_
  refine hr A ρ m2 σ H2 G2 x y dx dy (r1.ext (k2.grow G1.toBase).cut) r2 _ _ q2 fun z dz H3 G3 k3 r3 q3 => ?_
  cases dz <;> first | (exact False.elim q3) | skip
  cases r3
  rename_i kk
  refine ⟨_, rfl, ?_⟩
  change (if kk = true then wc ρ m2 (fun w m3 => g dy w fun r => Q r m3) else Q (D.bl false) m2) at q3
  by_cases hk : kk = true
  · rw [if_pos hk] at q3 ⊢
    refine rc A ρ m2 σ H3 G3 _ _ q3 fun w dw m4 H4 G4 k4 r4 q4 => ?_
    refine hr' A ρ m4 σ H4 G4 y w dy dw (r2.ext ((k3.trans k4).grow G2.toBase).cut) r4 _ _ q4 fun v dv H5 G5 k5 r5 q5 => ?_
    exact k v dv m4 H5 G5 (k1.trans (k2.trans (k3.trans (k4.trans k5)))) r5 q5
  · rw [if_neg hk] at q3 ⊢
    exact k _ _ m2 H3 G3 (k1.trans (k2.trans k3)) (.bl false) q3
def de_lele (ha : DE X c a wa) (hb : DE X c b wb) (hd : DE X c d wc) (hm : lastMarks [.LtE, .Lt] [b, d] = false := by with_unfolding_all rfl) : DE X c (.Compare a [.LtE, .Lt] [b, d] pos) (wChain leD ltD wa wb wc) := ⟨_, pe_chain op_le op_lt ha.pe hb.pe hd.pe hm, rd_chain ha.rd hb.rd hd.rd rd_cmp rd_cmp⟩

/-! ### x in a tuple or list of flat items -/
def D.flat : D → Bool
  | .non => true
  | .bl _ => true
  | .int _ => true
  | .str _ => true
  | _ => false
theorem rep_flat {p : Option Addr} {K : PySem.W.Frag} {H : Hp} {v : V} {d : D} (r : Rep p K H v d) (h : d.flat = true) : flatV v = true := by cases r <;> first | rfl | simp [D.flat] at h
theorem rep_eqV {p : Option Addr} {K : PySem.W.Frag} {H : Hp} {v u : V} {d e : D} (r : Rep p K H v d) (q : Rep p K H u e) (h : d.flat = true) (g : e.flat = true) : eqV v u = d.eqb e := by
  cases r <;> cases q <;> simp_all [D.flat, eqV, D.eqb]
theorem repA_flat {p : Option Addr} {K : PySem.W.Frag} {H : Hp} : ∀ {vs : List V} {ds : List D}, RepA p K H vs ds → ds.all D.flat = true → vs.all flatV = true
  | _, _, .nil, _ => rfl
  | _, _, .cons h r, g => by
    rw [List.all_cons, Bool.and_eq_true] at g ⊢
    exact ⟨rep_flat h g.1, repA_flat r g.2⟩
theorem repA_in {p : Option Addr} {K : PySem.W.Frag} {H : Hp} {u : V} {e : D} (q : Rep p K H u e) (g : e.flat = true) : ∀ {vs : List V} {ds : List D}, RepA p K H vs ds → ds.all D.flat = true → inV u vs = ds.any fun y => y.eqb e
  | _, _, .nil, _ => rfl
  | _, _, .cons h r, f => by
    rw [List.all_cons, Bool.and_eq_true] at f
    unfold inV
    rw [List.any_cons, List.any_cons, rep_eqV h q f.1 g]
    congr 1
    exact repA_in q g r f.2
def inD : D → D → (D → Prop) → Prop
  | x, .lst ds, Q => x.flat = true ∧ ds.all D.flat = true ∧ Q (.bl (ds.any fun y => y.eqb x))
  | x, .tup ds, Q => x.flat = true ∧ ds.all D.flat = true ∧ Q (.bl (ds.any fun y => y.eqb x))
  | _, _, _ => False
theorem rd_in {K : PySem.W.Frag} : RdOp K c (rIn K false) inD := fun A ρ m σ H G x y d e rx ry Q Qv h k => by
  unfold inD at h
  split at h
  · obtain ⟨h1, h2, h3⟩ := h
    cases ry with
    | lst e1 r1 => exact ⟨_, _, rfl, .inl (SqL.of (cut_some e1).2), rep_flat rx h1, repA_flat r1 h2, k _ _ H G Keep.refl (.bl _) (by rw [if_neg (by decide), repA_in rx h1 r1 h2]; exact h3)⟩
  · obtain ⟨h1, h2, h3⟩ := h
    cases ry with
    | tup e1 r1 => exact ⟨_, _, rfl, .inr (SqT.uncut e1), rep_flat rx h1, repA_flat r1 h2, k _ _ H G Keep.refl (.bl _) (by rw [if_neg (by decide), repA_in rx h1 r1 h2]; exact h3)⟩
  · cases h
def de_in (ha : DE X c a wa) (hb : DE X c b wb) (hm : behindInMarks .In b = false := by rfl) : DE X c (.Compare a [.In] [b] pos) (wOp inD wa wb) := de_cmp op_in_seq rd_in ha hb hm
def dt_in (ha : DE X c a wa) (hb : DE X c b wb) (hm : behindInMarks .In b = false := by rfl) : DT X c (.Compare a [.In] [b] pos) (wTest (wOp inD wa wb)) := dt_cmp op_in_seq rd_in ha hb hm

/-! ### all, any of a list of truths -/
def allD : List D → (D → Prop) → Prop
  | [.lst ds], Q => ∃ bs : List Bool, ds = bs.map D.bl ∧ Q (.bl (bs.all id))
  | _, _ => False
def anyD : List D → (D → Prop) → Prop
  | [.lst ds], Q => ∃ bs : List Bool, ds = bs.map D.bl ∧ Q (.bl (bs.any id))
  | _, _ => False
theorem repA_bls {p : Option Addr} {K : PySem.W.Frag} {H : Hp} : ∀ {vs : List V} {bs : List Bool}, RepA p K H vs (bs.map D.bl) → vs = bs.map V.bl
  | _, [], .nil => rfl
  | _, b :: bs, .cons h r => by
    cases h
    rw [repA_bls r]
    rfl
theorem rd_all {K : PySem.W.Frag} : RdC K c (rAll K) allD := fun A ρ m σ H G vs ds r Q Qv h k => by
  unfold allD at h
  split at h
  · obtain ⟨bs, rfl, q⟩ := h
    obtain ⟨v, rfl, rv⟩ := repA1 r
    cases rv with
    | lst e1 r1 =>
      have e2 := (cut_some e1).2
      rw [repA_bls r1] at e2
      exact ⟨_, bs, rfl, SqL.of e2, k _ _ H G Keep.refl (.bl _) q⟩
  · cases h
theorem rd_any {K : PySem.W.Frag} : RdC K c (rAny K) anyD := fun A ρ m σ H G vs ds r Q Qv h k => by
  unfold anyD at h
  split at h
  · obtain ⟨bs, rfl, q⟩ := h
    obtain ⟨v, rfl, rv⟩ := repA1 r
    cases rv with
    | lst e1 r1 =>
      have e2 := (cut_some e1).2
      rw [repA_bls r1] at e2
      exact ⟨_, bs, rfl, SqL.of e2, k _ _ H G Keep.refl (.bl _) q⟩
  · cases h

/-! ### {}, {0: e} of which nothing is asked -/
def wOpq : WE := fun _ m Q => Q .opq m
def de_dct0 : DE X c (.Dict [] [] pos) wOpq := ⟨_, pe_dnewK, fun A ρ m σ H G Q Qv hw k => fun q hq => k (.ref q) .opq m _ (G.fresh hq) (Keep.new hq) (.opq (G.freshN hq)) hw⟩
def wDctI (we : WE) : WE := fun ρ m Q => we ρ m fun _ m1 => Q .opq m1
def de_dctI {i : Int} {j p1} (h : DE X c e we) : DE X c (.Dict [some (.Constant (.int i) j p1)] [e] pos) (wDctI we) :=
  ⟨tDisp [(tC (.int i), h.t)], pe_disp (pps_cons pe_int h.pe pps_nil) rfl rfl (fun z => nomatch z) (by show 1 ≤ 15; decide), fun A ρ m σ H G Q Qv hw k => fun q hq => by
    have na := G.notin hq
    have G1 : Good X.K c (q :: A) ρ m σ (upd H q (.dK [])) := G.take hq
    refine h.rd (q :: A) ρ m σ _ G1 _ _ hw fun v d m2 H2 G2 k2 r2 q2 => ?_
    have pA : ¬ c.Vol q := fun z => na (G.sub _ (G.vin z))
    have e2 := k2 q _ pA upd_same
    have un : ∀ (i : Nat) (o : Own), ρ[i]? = some (Cell.own o) → σ[i]? ≠ some (some (V.ref q)) := own_ne G na
    refine ⟨e2, [(Sum.inl i, v)], rfl, by show 1 ≤ 15; decide, ?_⟩
    have G3 : Good X.K c (q :: A) ρ m2 σ (upd H2 q (.dK (mergeK [] [(Sum.inl i, v)]))) := G2.mut (List.mem_cons_self ..) (fun z => na (G.sub q z)) e2 (fun _ z => nomatch z) un
    refine k (.ref q) _ m2 _ (G3.drop G.sub un) (fun b o nb hb => ?_) (.opq (cut_of na upd_same)) q2
    have bq : b ≠ q := ne_of_none hb hq
    rw [upd_ne bq]
    exact k2 b o nb (by rw [upd_ne bq]; exact hb)⟩
end
end DW

/-! DW28: __init__ that may raise; a list lent to a call; items stored; written tuples. -/
namespace DW
open PySem PySem.Spec L2 PyProof.Rows
abbrev FIX := List D → Nat → (List (Str × D) → Nat → Prop) → (Addr → List (Str × D) → Nat → Prop) → Prop
def spIX (K : PySem.W.Frag) (T : List (Addr × Str)) (C : Addr) (fi : FIX) : Sp := fun vs H Q E => ∃ (x dx : Addr) (H0 : Hp) (us : List V) (p : Option Addr) (cc : Addr) (A : List Addr) (ds : List D) (m : Nat) (R : List (Str × D) → Nat → Prop) (RX : Addr → List (Str × D) → Nat → Prop), vs = .ref x :: us ∧ H0 x = none ∧ H0 dx = none ∧ dx ≠ x ∧ H = upd (upd H0 dx (.own x)) x (.ins C dx []) ∧
  RepA p K (cut A H0) us ds ∧ Ctx T p cc A m H0 ∧ fi ds m R RX ∧
  (∀ gs fs dx' m' H', KeepT T p H0 H' → Amb T p cc m' H' → H' x = some (.ins C dx' gs) → RepF p K (cut A H') gs fs → R fs m' → Q .non H') ∧
  (∀ cls d C' fs m' H', KeepT T p H0 H' → Amb T p cc m' H' → ExcR p K (cut A H') cls d C' fs → RX C' fs m' → E cls d H')
theorem init_dataX {P : Program} {w : World} {K : PySem.W.Frag} {T : List (Addr × Str)} {mg : Str → Option Value} {base : Heap} {qual : Str} {st : Stmt} {f : Addr} {fd : FuncData} {N : List Str} {s0 : Str} {ps : List Str} {C : Addr} {k : Nat} {fi : FIX} {wb : WD → WS} (F : Fun K "__init__" qual st f fd) (S : FnScope N (s0 :: ps) (defScope st)) (hlen : ∀ ds m Q QX, fi ds m Q QX → ds.length = ps.length)
    (hbody : ∀ (cdv : Value) (A : Around) (outer : List PySem.Env) (s : Shared) (H : Hp) (E : XK) (p : Option Addr) (cc : Addr) (B : List Addr) (H0 : Hp) (W : WX) (wx : WD), Room k (A.deeper (PyProof.Rows.envOfC qual (defScope st) s.heap.objs.size f cdv)) → Takes (cxOf (L2.CX P w) P w K mg base N qual (defScope st) f cdv A outer s H E) W → RelW K (c00 T p cc B H0) W wx → fd.code = cdv →
      DSs (cxOf (L2.CX P w) P w K mg base N qual (defScope st) f cdv A outer s H E) (c00 T p cc B H0) (defBody st) (wb wx))
    (h : ∀ x ds m Q QX, fi ds m Q QX → wb (fun C' fs _ m => QX C' fs m) { nx := fun ρ m => ∃ fs, ρ[0]? = some (.own (.ins x C fs)) ∧ Q fs m, rt := fun _ _ => False } (iniE N.length x C ds) m) :
    FnOk P w K mg base (L2.CX P w) (k + 1) f fd (s0 :: ps) (spIX K T C fi) := by
  refine FnG.ok (fnG_of (g := false) F S (fun vs H Q E h => ?_) fun cdv A outer s H vs Q E hr _ hcd hs => ?_)
  · obtain ⟨x, dx, H0, us, p, cc, A, ds, m, R, RX, rfl, _, _, _, _, r, _, hf, _⟩ := h
    rw [List.length_cons, r.length, hlen _ _ _ _ hf]
    rfl
  · obtain ⟨x, dx, H0, us, p, cc, B, ds, m, R, RX, rfl, nx, ndx, nd, rfl, r, cx, hf, kq, kx⟩ := hs
    have hW : RelW K (c00 T p cc B H0) (fun cls d _ H => E cls d H) (fun C' fs _ m => RX C' fs m) := fun A' ρ' m' σ' H' G cls d C' fs xr z => kx cls d C' fs m' H' G.ex G.am (xr.sub G.sub) z
    have d := hbody cdv A outer s (upd (upd H0 dx (.own x)) x (.ins C dx [])) E p cc B H0 _ _ hr (takes_of rfl rfl rfl rfl) hW hcd
    refine ⟨_, d.pe, ?_⟩
    have nxB : x ∉ B := fun z => by
      obtain ⟨o, e⟩ := cx.thr x z
      rw [nx] at e
      cases e
    have ex : Ext H0 (upd (upd H0 dx (.own x)) x (.ins C dx [])) := fun b o e => by
      rw [upd_ne (ne_of_none e nx), upd_ne (ne_of_none e ndx)]
      exact e
    have exB : Ext (cut B H0) (cut (x :: B) (upd (upd H0 dx (.own x)) x (.ins C dx []))) := fun b o e => by
      obtain ⟨n, z⟩ := cut_some e
      exact cut_of (fun q => (List.mem_cons.mp q).elim (ne_of_none z nx) n) (ex b o z)
    have hl := r.length
    have es : L2.start N (V.ref x :: us) = some (.ref x) :: (us.map some ++ List.replicate (N.length - (us.length + 1)) none) := rfl
    have G : Good K (c00 T p cc B H0) (x :: B) (iniE N.length x C ds) m (L2.start N (V.ref x :: us)) (upd (upd H0 dx (.own x)) x (.ins C dx [])) := by
      refine ⟨⟨fun b o _ e => ex b o e, fun b o _ e => ex b o e, cx.am.keep ex, cx.pin, cx.tin, fun a h => List.mem_cons_of_mem _ h, fun a h => ?_, fun a h => ?_⟩, ?_, fun i k e => ?_⟩
      · rcases List.mem_cons.mp h with z | z
        · rw [z]
          exact .inr ⟨nx, nx⟩
        · exact .inl z
      · rcases List.mem_cons.mp h with z | z
        · rw [z]
          exact ⟨_, upd_same⟩
        · obtain ⟨o, e⟩ := cx.thr a z
          exact ⟨o, ex a o e⟩
      · rw [es]
        unfold iniE
        simp [hl]
      · rw [es]
        unfold iniE at e ⊢
        cases i with
        | zero =>
          cases e
          refine ⟨x, _, rfl, List.mem_cons_self .., nxB, upd_same, .ins .nil, fun j o n e2 => ?_⟩
          cases j with
          | zero => exact absurd rfl n
          | succ j =>
            rw [List.getElem?_cons_succ] at e2
            by_cases hj : j < ds.length
            · rw [List.getElem?_append_left (by simpa using hj), List.getElem?_map, List.getElem?_eq_getElem hj] at e2
              cases e2
            · rw [List.getElem?_append_right (by simpa using hj), List.getElem?_replicate] at e2
              split at e2 <;> cases e2
        | succ i =>
          rw [List.getElem?_cons_succ] at e
          by_cases hi : i < ds.length
          · rw [List.getElem?_append_left (by simpa using hi), List.getElem?_map, List.getElem?_eq_getElem hi] at e
            have e' : Cell.dat ds[i] = k := by simpa using e
            subst e'
            obtain ⟨v, h1, h2⟩ := r.get (List.getElem?_eq_getElem hi)
            refine ⟨v, ?_, h2.ext exB⟩
            rw [List.getElem?_cons_succ, List.getElem?_append_left (by rw [List.length_map, hl]; exact hi), List.getElem?_map, h1]
            rfl
          · rw [List.getElem?_append_right (by simpa using hi), List.getElem?_replicate] at e
            split at e
            · cases e
              trivial
            · cases e
    refine d.rd (x :: B) _ m _ _ G { nx := fun ρ m => ∃ fs, ρ[0]? = some (.own (.ins x C fs)) ∧ R fs m, rt := fun _ _ => False } _ (h x ds m R RX hf) (fun A' ρ' m' σ' H' G' _ ⟨fs, e0, q⟩ => ?_) (fun _ _ _ _ _ _ _ z => z.elim) (fun _ _ _ _ _ _ _ z => z.elim) (fun _ _ _ _ _ _ _ z => z.elim)
    obtain ⟨l, u, h1, h2, h3, h4, h5, h6⟩ := G'.cell 0 _ e0
    cases h5 with | ins r5 =>
    exact kq _ fs _ m' H' G'.ex G'.am h4 (r5.ext (cut_sub G'.sub)) q
structure MkIX (P : Program) (w : World) (K : PySem.W.Frag) (T : List (Addr × Str)) (mg : Str → Option Value) (base : Heap) (k : Nat) (x : Str) (C : Addr) (fi : FIX) : Prop where
  ex : ∃ (fI : Addr) (fd : FuncData) (ps : List Str), Mk K C fI ∧ FnOk P w K mg base (L2.CX P w) k fI fd ps (spIX K T C fi) ∧ Binds K fd ps []
  mg : mg x = some (.ref C)
def wMkIX (wx : WD) (C : Addr) (fi : FIX) (wr : WA) : WE := fun ρ m Q => wr ρ m fun ds m1 => fi ds m1 (fun fs m2 => Q (.obj C fs) m2) fun C' fs m2 => wx C' fs ρ m2
section
variable {X : Cx} {c : C0} {e a b : Expr} {es : List Expr} {wa wb we : WE} {x : Str} {p pos : Pos}
theorem rd_mkIX {wr : WA} {t : TA} {C : Addr} {fi : FIX} {wx : WD} {E : XK} (hW : RelW X.K c (fun cls d _ H => E cls d H) wx) (rr : RdA X.K c t wr) : RdE X.K c (tMake C (spIX X.K c.T C fi) [] E t) (wMkIX wx C fi wr) := fun A ρ m σ H G Q Qv hw k => rr A ρ m σ H G _ _ hw fun vs ds m1 H1 G1 k1 r1 q1 => by
  intro x dx nx ndx nd
  rw [List.append_nil]
  refine ⟨x, dx, H1, vs, c.p, c.cc, A, ds, m1, fun fs m2 => Q (.obj C fs) m2, fun C' fs m2 => wx C' fs ρ m2, rfl, nx, ndx, nd, rfl, r1, G1.ctx, q1, fun gs fs dx' m' H' kp pn ea rf q => ⟨rfl, ?_⟩, fun cls d C' fs m' H' kp pn xr q => ?_⟩
  · exact k _ _ m' H' (G1.step kp pn) (k1.trans kp) (.obj (cut_of (G1.notin nx) ea) rf) q
  · exact hW A ρ m' σ H' (G1.step kp pn) cls d C' fs xr q
def de_mkIX {wr : WA} {j k : Nat} {C : Addr} {fi : FIX} {wx : WD} {E : XK} (M : MkIX X.prog X.w X.K c.T X.mg X.base k x C fi) (tk : Takes X (fun cls d _ H => E cls d H)) (hW : RelW X.K c (fun cls d _ H => E cls d H) wx) (hr : Room j X.A) (hj : k + 1 ≤ j) (hg : Gl X x) (ha : DA X c (e :: es) wr)
    (hdb : (x == ("__debug__" : Str)) = false := by decide) (he : starEach (e :: es) X.env = (false, eval e X.env) :: starEach es X.env := by rfl) (hpl : (backTo pos (starEach es X.env)).any (·.1) = false := by rfl) : DE X c (.Call (.Name x p) (e :: es) [] pos) (wMkIX wx C fi wr) :=
  ⟨tMake C (spIX X.K c.T C fi) [] E ha.t, by
    obtain ⟨fI, fd, ps, h1, h2, h3⟩ := M.ex
    exact pe_make h1 h2 (hr.mono hj) hg M.mg h3 .nil (passes_call tk fun _ _ _ _ z => z) ha.pe hdb he hpl, rd_mkIX hW ha.rd⟩
/-- made where nothing may be raised -/
def wMkI0 (C : Addr) (fi : FIX) (wr : WA) : WE := fun ρ m Q => wr ρ m fun ds m1 => fi ds m1 (fun fs m2 => Q (.obj C fs) m2) fun _ _ _ => False
/-- such a call's exceptions, where none is wished -/
theorem passX {X : Cx} (tk : Takes X (fun _ _ _ _ => False)) : Passes (L2.CX X.prog X.w) X (fun _ _ _ => False) := passes_call tk fun _ _ _ _ z => z
def de_mkI0 {wr : WA} {j k : Nat} {C : Addr} {fi : FIX} (M : MkIX X.prog X.w X.K c.T X.mg X.base k x C fi) (hr : Room j X.A) (hj : k + 1 ≤ j) (hg : Gl X x) (ha : DA X c (e :: es) wr)
    (hdb : (x == ("__debug__" : Str)) = false := by decide) (he : starEach (e :: es) X.env = (false, eval e X.env) :: starEach es X.env := by rfl) (hpl : (backTo pos (starEach es X.env)).any (·.1) = false := by rfl) : DE X c (.Call (.Name x p) (e :: es) [] pos) (wMkI0 C fi wr) :=
  ⟨tMake C (spIX X.K c.T C fi) [] (fun _ _ _ => False) ha.t, by
    obtain ⟨fI, fd, ps, h1, h2, h3⟩ := M.ex
    exact pe_make h1 h2 (hr.mono hj) hg M.mg h3 .nil (passX LamX.takes0) ha.pe hdb he hpl, rd_mkIX (wx := fun _ _ _ _ => False) (E := fun _ _ _ => False) (fun _ _ _ _ _ _ _ _ _ _ _ z => z.elim) ha.rd⟩
/-- a call of a def that may raise, where nothing may be raised -/
def wCall0 (fw : FWX) (wr : WA) : WE := fun ρ m Q => wr ρ m fun ds m1 => fw ds m1 Q fun _ _ _ => False
def de_callX0 {j k : Nat} {fw : FWX} {wr : WA} (F : DFnX X.prog X.w X.K c.T X.mg X.base k x fw) (hr : Room j X.A) (hk : k ≤ j) (hg : Gl X x) (ha : DA X c (e :: es) wr)
    (hdb : (x == ("__debug__" : Str)) = false := by decide) (he : starEach (e :: es) X.env = (false, eval e X.env) :: starEach es X.env := by rfl) (hpl : (backTo pos (starEach es X.env)).any (·.1) = false := by rfl) : DE X c (.Call (.Name x p) (e :: es) [] pos) (wCall0 fw wr) :=
  ⟨tCallS (spDX X.K c.T fw) (L2.WE fun _ _ _ _ => False) ha.t, by
    obtain ⟨f, fd, ps, h1, h2, h3, h4⟩ := F.ex
    exact pe_callS h1 (hr.mono hk) hg h2 h3 h4 (fun σ => passAt LamX.takes0 σ) ha.pe hdb he hpl, rd_callX (wx := fun _ _ _ _ => False) (W := fun _ _ _ _ => False) (fun _ _ _ _ _ _ _ _ _ _ _ z => z.elim) ha.rd⟩

/-! ### a list of one's own lent to an expression whose value has no list -/
mutual
def D.nolst : D → Bool
  | .lst _ => false
  | .tup ds => nolstA ds
  | .obj _ fs => nolstF fs
  | .non => true
  | .bl _ => true
  | .int _ => true
  | .str _ => true
  | _ => false
def nolstA : List D → Bool
  | [] => true
  | d :: ds => d.nolst && nolstA ds
def nolstF : List (Str × D) → Bool
  | [] => true
  | (_, d) :: ds => d.nolst && nolstF ds
end
section
variable {pp : Option Addr} {K : PySem.W.Frag} {A : List Addr} {l : Addr} {H : Hp} {ys : List V}
theorem cut_back (hl : H l = some (.lst ys)) {b : Addr} {o : HO} (ho : ∀ zs, o ≠ .lst zs) (h : cut (A.filter (· ≠ l)) H b = some o) : cut A H b = some o := by
  obtain ⟨n, e⟩ := cut_some h
  refine cut_of (fun z => n (List.mem_filter.mpr ⟨z, ?_⟩)) e
  simp only [ne_eq, decide_eq_true_eq]
  intro q
  rw [q, hl] at e
  exact ho _ (Option.some.inj e).symm
mutual
theorem rep_recut (hl : H l = some (.lst ys)) : ∀ {d : D} {v : V}, Rep pp K (cut (A.filter (· ≠ l)) H) v d → d.nolst = true → Rep pp K (cut A H) v d
  | .non, _, .non, _ => .non
  | .bl _, _, .bl b, _ => .bl b
  | .int _, _, .int i, _ => .int i
  | .str _, _, .str x, _ => .str x
  | .lst _, _, r, h => by simp [D.nolst] at h
  | .tup ds, _, .tup h1 r, h => by
    rw [D.nolst] at h
    refine .tup ?_ (repA_recut hl r h)
    rcases h1 with (z | ⟨o, z⟩) | z
    · exact .inl (.inl (cut_back hl (fun _ q => nomatch q) z))
    · exact .inl (.inr ⟨o, cut_back hl (fun _ q => nomatch q) z⟩)
    · exact .inr z
  | .obj _ fs, _, .obj h1 r, h => by
    rw [D.nolst] at h
    exact .obj (cut_back hl (fun _ q => nomatch q) h1) (repF_recut hl r h)
  | .exc _ _, _, r, h => by simp [D.nolst] at h
  | .dct _, _, r, h => by simp [D.nolst] at h
  | .pen, _, r, h => by simp [D.nolst] at h
  | .opq, _, r, h => by simp [D.nolst] at h
  | .gf _, _, r, h => by simp [D.nolst] at h
theorem repA_recut (hl : H l = some (.lst ys)) : ∀ {ds : List D} {vs : List V}, RepA pp K (cut (A.filter (· ≠ l)) H) vs ds → nolstA ds = true → RepA pp K (cut A H) vs ds
  | [], _, .nil, _ => .nil
  | _ :: _, _, .cons h r, g => by
    rw [nolstA, Bool.and_eq_true] at g
    exact .cons (rep_recut hl h g.1) (repA_recut hl r g.2)
theorem repF_recut (hl : H l = some (.lst ys)) : ∀ {ds : List (Str × D)} {vs : List (Str × V)}, RepF pp K (cut (A.filter (· ≠ l)) H) vs ds → nolstF ds = true → RepF pp K (cut A H) vs ds
  | [], _, .nil, _ => .nil
  | (_, _) :: _, _, .cons h r, g => by
    rw [nolstF, Bool.and_eq_true] at g
    exact .cons (rep_recut hl h g.1) (repF_recut hl r g.2)
end
end
theorem Good.freezeL {K : PySem.W.Frag} {A : List Addr} {ρ : DW.Env} {m : Nat} {σ : L2.St} {H : Hp} (G : Good K c A ρ m σ H) {i : Nat} {ds : List D} (e : ρ[i]? = some (.own (.lst ds))) : ∃ l ys, l ∈ A ∧ l ∉ c.A0 ∧ H l = some (.lst ys) ∧ Good K c (A.filter (· ≠ l)) (ρ.set i (.dat (.lst ds))) m σ H := by
  obtain ⟨l, xs, h1, h2, h3, h4, h5, h6⟩ := G.cell i _ e
  cases h5 with | lst h5 =>
  rename_i ys
  refine ⟨l, ys, h2, h3, h4, ?_⟩
  have sub : ∀ b ∈ A.filter (· ≠ l), b ∈ A := fun b h => (List.mem_filter.mp h).1
  have s : Ext (cut A H) (cut (A.filter (· ≠ l)) H) := cut_sub sub
  refine ⟨⟨G.ex, G.ex0, G.am, G.pin, G.tin, fun b h => List.mem_filter.mpr ⟨G.sub b h, by simpa using fun z => h3 (by rw [← z]; exact h)⟩, fun b h => G.new b (sub b h), fun b h => G.thr b (sub b h)⟩, by rw [List.length_set]; exact G.len, fun j k e' => ?_⟩
  by_cases hj : i = j
  · subst hj
    have hl : i < ρ.length := (List.getElem?_eq_some_iff.mp e).1
    rw [List.getElem?_set_self hl] at e'
    cases e'
    exact ⟨.ref l, h1, .lst (cut_of (fun z => by simpa using (List.mem_filter.mp z).2) h4) (h5.ext s)⟩
  · rw [List.getElem?_set_ne hj] at e'
    have q := G.cell j k e'
    cases k with
    | un => trivial
    | raw v => exact q
    | dat d =>
      obtain ⟨v, q1, q2⟩ := q
      exact ⟨v, q1, q2.ext s⟩
    | cau _ _ =>
      obtain ⟨xa, xd, xe, q1, q2⟩ := q
      exact ⟨xa, xd, xe, q1, q2.ext s⟩
    | own es =>
      obtain ⟨l', zs, q1, q2, q3, q4, q5, q6⟩ := q
      refine ⟨l', zs, q1, List.mem_filter.mpr ⟨q2, ?_⟩, q3, q4, q5.ext s, fun j' fs n' e2 => ?_⟩
      · have := h6 j es (Ne.symm hj) e'
        rw [q1] at this
        simpa using fun z => this (by rw [z])
      · by_cases hj' : i = j'
        · subst hj'
          have hl : i < ρ.length := (List.getElem?_eq_some_iff.mp e).1
          rw [List.getElem?_set_self hl] at e2
          cases e2
        · rw [List.getElem?_set_ne hj'] at e2
          exact q6 j' fs n' e2
def wLend (i j : Nat) (we : WE) : WS := fun P ρ m => match ρ[i]? with
  | some (.own (.lst ds)) => we (ρ.set i (.dat (.lst ds))) m fun d m1 => d.nolst = true ∧ P.nx (ρ.set j (.dat d)) m1
  | _ => False
def ds_lend (i : Nat) {j : Nat} {x : Str} {pos' : Pos} (hN : X.N.Nodup) (hi : X.N[j]? = some x) (hx : Loc X.env.scope x) (h : DE X c e we) (hs : swapsWith e (some (.Name x pos')) pos.line X.env = pure false := by rfl) (hf : X.fn x = true ∨ X.env.scope.names.lookup x = some .local := by first | exact .inl rfl | exact .inr rfl | assumption) :
    DS X c (.Assign [.Name x pos'] e pos) (wLend i j we) :=
  ⟨_, ps_set (i := j) hN hi hx h.pe hs hf, fun A ρ m σ H G P F hw n rt b ct => by
    unfold wLend at hw
    split at hw
    · rename_i ds e1
      obtain ⟨l, ys, hl, hl0, el, G2⟩ := G.freezeL e1
      refine h.rd _ _ m σ H G2 _ _ hw fun v d m1 H1 G3 k3 r3 ⟨q1, q2⟩ => ?_
      have G4 : Good X.K c A ρ m1 σ H1 := G.step k3 G3.am
      have el1 : H1 l = some (.lst ys) := k3 l _ (fun z => hl0 (G.vin z)) el
      exact n A _ m1 _ H1 (G4.set (rep_recut el1 r3 q1) j) (k3.step G.toBase) q2
    · cases hw⟩

/-! ### xs[i] = e, xs one's own -/
def wSetIx (s : Nat) (wi we : WE) : WS := fun P ρ m => match ρ[s]? with
  | some (.own (.lst ds)) => we ρ m fun d m1 => wi ρ m1 fun k m2 => ∃ kk j, k = .int kk ∧ ixN ds.length kk = some j ∧ P.nx (ρ.set s (.own (.lst (ds.set j d)))) m2
  | _ => False
def ds_setIx {s : Nat} {x : Str} {p1 p2 : Pos} (hN : X.N[s]? = some x) (hv : Vis X.env.scope x) (hi : DE X c b wb) (h : DE X c e we) (hd : (x == ("__debug__" : Str)) = false := by decide) (hcd : (x == ("__classdict__" : Str)) = false := by decide)
    (hs : swapsWithSole [.Subscript (.Name x p1) b p2] e pos.line X.env = pure false := by rfl) (hw : swappedStores [.Subscript (.Name x p1) b p2] e X.env = pure none := by rfl)
    (h1 : (assignEach [.Subscript (.Name x p1) b p2] X.env).map (·.2) = [assign (.Subscript (.Name x p1) b p2) X.env] := by rfl)
    (ha : ∀ v, assign (.Subscript (.Name x p1) b p2) X.env v = (do
      let ov ← holding [v] (eval (.Name x p1) X.env)
      let iv ← holding [v, ov] (eval b X.env)
      standAt p2
      holding [v, ov, iv] (setItem ov iv v)
      release [v, ov, iv] []) := by intro _; rfl) : DS X c (.Assign [.Subscript (.Name x p1) b p2] e pos) (wSetIx s wb we) :=
  ⟨_, ps_asg h.pe (pg_sub (pe_var hN hv hd hcd) hi.pe set_list ha) hs hw h1, fun A ρ m σ H G P F hw n rt bk ct => by
    unfold wSetIx at hw
    split at hw
    · rename_i ds e1
      refine h.rd A ρ m σ H G _ _ hw fun v d m1 H1 G1 k1 r1 q1 => ?_
      obtain ⟨l, u, h1, h2, h3, h4, h5, h6⟩ := G1.cell s _ e1
      refine ⟨.ref l, h1, hi.rd A ρ m1 σ H1 G1 _ _ q1 fun v2 d2 m2 H2 G2 k2 r2 q2 => ?_⟩
      obtain ⟨kk, j, rfl, hj, q3⟩ := q2
      cases r2
      obtain ⟨l', ys, g1, g2, g3, g4, g5, g6⟩ := G2.cell s _ e1
      rw [h1] at g1
      cases g1
      cases g5 with | lst g5 =>
      refine ⟨l, _, kk, j, rfl, rfl, g4, by rw [g5.length]; exact hj, ?_⟩
      have r3 := r1.ext (k2.grow G1.toBase).cut
      exact n A _ m2 σ _ (G2.chg e1 h1 (.lst (g5.set r3 j))) ⟨fun b o nb e => by
        have nl : b ≠ l := fun z => nb (by rw [z]; exact h2)
        rw [upd_ne nl]
        exact k2.grow G1.toBase b o nb (k1.grow G.toBase b o nb e), fun a h => .inl h⟩ q3
    · cases hw⟩

/-! ### a tuple of texts that is written at the module's head -/
def strsB (K : PySem.W.Frag) (a : Addr) (ss : List Str) : Bool := match K.lookup a with
  | some ⟨.type "tuple", _, .seq its _, _⟩ => decide (its.size ≤ sizeLine) && (its.toList.map fun v => match v with | .str x _ => some x | _ => none) == ss.map some
  | _ => false
theorem strs_vals : ∀ {its : List Value} {ss : List Str}, ((its.map fun v => match v with | .str x _ => some x | _ => none) == ss.map some) = true → Vals (ss.map V.str) its
  | [], [], _ => .nil
  | [], _ :: _, h => by simp at h
  | _ :: _, [], h => by simp at h
  | v :: its, s :: ss, h => by
    rw [List.map_cons, List.map_cons, List.cons_beq_cons, Bool.and_eq_true] at h
    refine .cons ?_ (strs_vals h.2)
    cases v <;> simp at h
    exact ⟨_, by rw [h.1]⟩
theorem repA_strs {pp : Option Addr} {K : PySem.W.Frag} {H : Hp} : ∀ ss : List Str, RepA pp K H (ss.map V.str) (ss.map D.str)
  | [] => .nil
  | s :: ss => .cons (.str s) (repA_strs ss)
theorem strs_rep {K : PySem.W.Frag} {a : Addr} {ss : List Str} (h : strsB K a ss = true) {pp : Option Addr} (H : Hp) : Rep pp K H (.ref a) (.tup (ss.map D.str)) := by
  unfold strsB at h
  split at h
  · rename_i x d its n sl e
    rw [Bool.and_eq_true] at h
    exact .tup (.inr ⟨_, its, n, e, rfl, rfl, of_decide_eq_true h.1, strs_vals h.2⟩) (repA_strs ss)
  · cases h
/-! ### what a def was given is called -/
def de_act {K : PySem.W.Frag} {Z : Cx} {g : Org} {x : Str} {f : Addr} {be : BE} {tact : WX → TE} {W : WX} {pn : List (Addr × Obj)} {xe : Value → Shared → Prop} {H0 : Hp} {wx : WD} {p1 p2 : Pos} (hK : Z.K = K)
    (hpe : ∀ (W : WX) (pn : List (Addr × Obj)) (xe : Value → Shared → Prop) (p1 p2 : Pos), Takes (Z.tr pn xe) W → PE (Z.tr pn xe) (.Call (.Name x p1) [] [] p2) (tact W))
    (hrd : ∀ (W : WX) (H0 : Hp) (wx : WD), RelW K ⟨g, H0, none⟩ W wx → RdE K ⟨g, H0, none⟩ (tact W) (wAct f be wx)) (tk : Takes (Z.tr pn xe) W) (hW : RelW Z.K ⟨g, H0, none⟩ W wx) : DE (Z.tr pn xe) ⟨g, H0, none⟩ (.Call (.Name x p1) [] [] p2) (wAct f be wx) :=
  ⟨tact W, hpe W pn xe p1 p2 tk, by subst hK; exact hrd W H0 wx hW⟩
end
end DW

/-! DW29: what isinstance tells of data. -/
namespace DW
open PySem PySem.Spec L2 PyProof.Rows
/-- the built-in classes that are asked for -/
def btNs : List String := ["int", "bool", "str", "list", "tuple"]
def D.tyn : D → String
  | .non => "NoneType"
  | .bl _ => "bool"
  | .int _ => "int"
  | .str _ => "str"
  | .lst _ => "list"
  | .tup _ => "tuple"
  | .dct _ => "dict"
  | .opq => "dict"
  | _ => ""
def isTyN (T n : String) : Bool := decide (n = T) || (decide (T = "int") && decide (n = "bool"))
abbrev D.isTy (T : String) (d : D) : Bool := isTyN T d.tyn
theorem kitTyN : ∀ n ∈ tyNs, ∀ T ∈ btNs, kitB n T = some (isTyN T n) := by decide +kernel
theorem objTyN : ∀ T ∈ btNs, isTyN T "" = false := by decide +kernel
def D.isObj (C : Addr) : D → Bool
  | .obj C' _ => decide (C' = C)
  | _ => false
def D.isRow : D → Bool
  | .lst _ => true
  | .tup _ => true
  | _ => false
def D.isWhole : D → Bool
  | .int _ => true
  | _ => false
/-- data of built-in types, and instances of these classes -/
def D.known (cs : List Addr) : D → Bool
  | .obj C _ => decide (C ∈ cs)
  | .exc _ _ => false
  | .gf _ => false
  | .pen => false
  | _ => true
structure Kinds (K : PySem.W.Frag) (cs : List Addr) : Prop where
  ins : ∀ C ∈ cs, InsT K C
  bt : ∀ C ∈ cs, ∀ T ∈ btNs, PySem.W.kitOne K (.ref C) (.type T) = some false
  tb : ∀ C ∈ cs, ∀ t ∈ tyNs, PySem.W.kitOne K (.type t) (.ref C) = some false
  cc : ∀ C ∈ cs, ∀ C' ∈ cs, PySem.W.kitOne K (.ref C) (.ref C') = some (decide (C = C'))
def kindsB (K : PySem.W.Frag) (cs : List Addr) : Bool := (cs.all fun C => decide (PySem.W.findIn K (.ref C) "__class__" = some (some (.builtin "object.__class__"))) && decide (PySem.W.specialIn K (.builtin "object.__class__") "__get__" = some (some (.builtin "getset_descriptor.__get__"))) && decide (PySem.W.takesIn K (.builtin "object.__class__") = some true) && decide (PySem.W.mroIn K C (.type "object") = some true) &&
    PySem.W.plainGet K C Str.empty && PySem.W.hasDictIn K C && PySem.W.plainOver K C && decide (PySem.W.findIn K (.ref C) "__setattr__" = some (some (.builtin "object.__setattr__")))) &&
  (cs.all fun C => btNs.all fun T => decide (PySem.W.kitOne K (.ref C) (.type T) = some false)) && (cs.all fun C => tyNs.all fun t => decide (PySem.W.kitOne K (.type t) (.ref C) = some false)) && cs.all fun C => cs.all fun C' => decide (PySem.W.kitOne K (.ref C) (.ref C') = some (decide (C = C')))
theorem kindsK {K : PySem.W.Frag} {cs : List Addr} (b : kindsB K cs = true) : Kinds K cs := by
  unfold kindsB at b
  simp only [Bool.and_eq_true, List.all_eq_true, decide_eq_true_eq] at b
  obtain ⟨⟨⟨b1, b2⟩, b3⟩, b4⟩ := b
  refine ⟨fun C hC => ?_, b2, b3, b4⟩
  obtain ⟨⟨⟨⟨⟨⟨⟨c1, c2⟩, c3⟩, c4⟩, c5⟩, c6⟩, c7⟩, c8⟩ := b1 C hC
  exact ⟨⟨c5, c6, c7, c8⟩, c1, c2, c3, c4⟩
section
variable {K : PySem.W.Frag} {cs : List Addr}
theorem Kinds.isB (k : Kinds K cs) {d : D} (h : d.known cs = true) {T : String} (hT : T ∈ btNs) : ∃ t, TyD K d t ∧ PySem.W.kitOne K t (.type T) = some (d.isTy T) := by
  cases d with
  | obj C fs =>
    have hC : C ∈ cs := of_decide_eq_true h
    refine ⟨_, .obj (k.ins C hC), ?_⟩
    rw [k.bt C hC T hT]
    exact congrArg some (objTyN T hT).symm
  | exc _ _ => cases h
  | pen => cases h
  | non => exact ⟨_, .base rfl, kit_ty (kitTyN _ (by decide) T hT)⟩
  | bl _ => exact ⟨_, .base rfl, kit_ty (kitTyN _ (by decide) T hT)⟩
  | int _ => exact ⟨_, .base rfl, kit_ty (kitTyN _ (by decide) T hT)⟩
  | str _ => exact ⟨_, .base rfl, kit_ty (kitTyN _ (by decide) T hT)⟩
  | lst _ => exact ⟨_, .base rfl, kit_ty (kitTyN _ (by decide) T hT)⟩
  | tup _ => exact ⟨_, .base rfl, kit_ty (kitTyN _ (by decide) T hT)⟩
  | dct _ => exact ⟨_, .dct, kit_ty (kitTyN _ (by decide) T hT)⟩
  | opq => exact ⟨_, .opq, kit_ty (kitTyN _ (by decide) T hT)⟩
  | gf _ => cases h
theorem Kinds.isO (k : Kinds K cs) {d : D} (h : d.known cs = true) {C : Addr} (hC : C ∈ cs) : ∃ t, TyD K d t ∧ PySem.W.kitOne K t (.ref C) = some (d.isObj C) := by
  cases d with
  | obj C' fs =>
    have hC' : C' ∈ cs := of_decide_eq_true h
    exact ⟨_, .obj (k.ins C' hC'), k.cc C' hC' C hC⟩
  | exc _ _ => cases h
  | pen => cases h
  | non => exact ⟨_, .base rfl, k.tb C hC _ (by decide)⟩
  | bl _ => exact ⟨_, .base rfl, k.tb C hC _ (by decide)⟩
  | int _ => exact ⟨_, .base rfl, k.tb C hC _ (by decide)⟩
  | str _ => exact ⟨_, .base rfl, k.tb C hC _ (by decide)⟩
  | lst _ => exact ⟨_, .base rfl, k.tb C hC _ (by decide)⟩
  | tup _ => exact ⟨_, .base rfl, k.tb C hC _ (by decide)⟩
  | dct _ => exact ⟨_, .dct, k.tb C hC _ (by decide)⟩
  | opq => exact ⟨_, .opq, k.tb C hC _ (by decide)⟩
  | gf _ => cases h
theorem Kinds.isRow (k : Kinds K cs) {d : D} (h : d.known cs = true) : ∃ t, TyD K d t ∧ PySem.W.kitAny K t [.type "list", .type "tuple"] = some d.isRow := by
  obtain ⟨t, h1, h2⟩ := k.isB h (T := "list") (by decide)
  obtain ⟨t2, k1, k2⟩ := k.isB h (T := "tuple") (by decide)
  have e : t2 = t := by
    cases h1 <;> cases k1 <;> simp_all [D.tyv]
  subst e
  have l : ∀ d : D, d.isRow = (d.isTy "list" || d.isTy "tuple") := fun d => by cases d <;> rfl
  rw [l]
  refine ⟨_, h1, kitAny_cons h2 (fun e => ?_) fun e => by rw [e]; rfl⟩
  rw [e, Bool.false_or]
  refine kitAny_cons k2 (fun e2 => by rw [e2]; rfl) fun e2 => by rw [e2]
end
end DW

/-! DW30: enumerate of a tuple. -/
namespace DW
open PySem PySem.Spec L2 PyProof.Rows
set_option maxHeartbeats 1000000 in
theorem made_enumT {a : Addr} {vals : Array Value} :
    Meets (Builtin.«enumerate.__new__» ⟨[.type "enumerate", .ref a], []⟩) (fun _ R s => s.heap.IsTuple a vals ∧
      R (.ok (.ret (.ref (s.heap.objs.size + 1)))) { s with heap := (s.heap.push { cls := .type "tuple_iterator", data := .fields #[.ref a, .int 0 0] }).push { cls := .type "enumerate", data := .fields #[.none, .bool false, .ref s.heap.objs.size, rawInt 0, .none, .none] } }) :=
  .of_wp fun prog w A R s h => by
    obtain ⟨hp, gg, dd, tt, oo⟩ := s; obtain ⟨ht, h⟩ := h
    have isSub := sub_enumerate
    have begin' : ∀ {A' : Around} {E : Value → Shared → Prop} {Q : Value → Shared → Prop}, Q (.ref hp.objs.size) ⟨hp.push { cls := .type "tuple_iterator", data := .fields #[.ref a, .int 0 0] }, gg, dd, tt, oo⟩ → wpAny (model prog w) A' (pyIter (.ref a)) Q E ⟨hp, gg, dd, tt, oo⟩ :=
      fun q => wpAny_pyIter_tuple (s := ⟨hp, gg, dd, tt, oo⟩) ht q
    have hz : (hp.push { cls := .type "tuple_iterator", data := .fields #[.ref a, .int 0 0] }).objs.size = hp.objs.size + 1 := Heap.size_push ..
    rw [← hz] at h
    wp_walk using begin'
    refine wpAny_stack_any fun st => wpAny_pure ?_
    split
    · rename_i c1 _ _ _ _ _
      cases (c1 == Value.type "enumerate") <;> (wp_walk using begin'; exact ⟨_, rfl, h⟩)
    · wp_walk using begin'
      exact ⟨_, rfl, h⟩
section
variable {prog : Program} {w : World} {A : Around} {E : Value → Shared → Prop} {s : Shared}
theorem call_enumT {a : Addr} {vals : Array Value} {Q : Value → Shared → Prop} (ht : s.heap.IsTuple a vals)
    (h : ∀ h', IsEnum h' (s.heap.objs.size + 1) s.heap.objs.size 0 .none → h'.IsTupleIter s.heap.objs.size a 0 → (∀ b o, s.heap.get? b = some o → h'.get? b = some o) → Q (.ref (s.heap.objs.size + 1)) { s with heap := h' }) :
    wpAny (model prog w) A (call (.type "enumerate") [.ref a]) Q E s := by
  refine callType_new F.called_enumerate (by decide) (F.typeCall_enumerate_1 _) (F.newCall_enumerate_1 _) (fun obj => F.args_object_init_2 obj _) F.entry_enumerate_new (made_enumT (a := a) (vals := vals)) ⟨ht, ?_⟩
  have zz : (s.heap.push { cls := .type "tuple_iterator", data := .fields #[.ref a, .int 0 0] }).objs.size = s.heap.objs.size + 1 := Heap.size_push ..
  have en : IsEnum ((s.heap.push { cls := .type "tuple_iterator", data := .fields #[.ref a, .int 0 0] }).push
      { cls := .type "enumerate", data := .fields #[.none, .bool false, .ref s.heap.objs.size, rawInt 0, .none, .none] }) (s.heap.objs.size + 1) s.heap.objs.size 0 .none := by
    have z2 := Heap.get?_push_size (s.heap.push { cls := .type "tuple_iterator", data := .fields #[.ref a, .int 0 0] })
      (o := { cls := .type "enumerate", data := .fields #[.none, .bool false, .ref s.heap.objs.size, rawInt 0, .none, .none] }) rfl
    rw [zz] at z2; exact z2
  exact ⟨⟨_, en, rfl⟩, h _ en ⟨_, Heap.get?_push_of_some _ (Heap.get?_push_size _ rfl), rfl, rfl⟩ fun b o y => Heap.get?_push_of_some _ (Heap.get?_push_of_some _ y)⟩
end
/-- the tuple at a, each item in a new pair -/
def Itn (K : PySem.W.Frag) (a : Addr) : It :=
  ⟨fun i H => ∃ (xs : List V) (x : V), SqT K H a xs ∧ xs[i]? = some x, fun i H v H' => ∃ T x, v = .ref T ∧ H T = none ∧ H' = upd H T (.tup [.int (i : Nat), x]) ∧ ∀ xs, SqT K H a xs → xs[i]? = some x, fun i H => ∃ xs : List V, SqT K H a xs ∧ xs.length ≤ i⟩
theorem turn_enumT {P : Program} {w : World} {K : PySem.W.Frag} {elts : List Expr} {kk : Nat} {tpos : Pos} (a e it : Addr) :
    Turn P w K (.Tuple elts kk tpos) (Itn K a) [e, it] e (fun i h => (∃ old, IsEnum h e it ((i : Nat) : Int) old) ∧ h.IsTupleIter it a i ∧ e ≠ it ∧ a ≠ it ∧ e ≠ a) where
  mem := List.mem_cons_self ..
  obj := fun i h st b hb => by
    obtain ⟨⟨old, he⟩, ⟨o, ho, hc, hd⟩, _⟩ := st
    rcases (show b = e ∨ b = it by simpa using hb) with rfl | rfl
    · exact ⟨_, he, fun v q => nomatch q⟩
    · exact ⟨o, ho, fun v q => by rw [hd] at q; cases q⟩
  keep := fun i h h' st k => by
    obtain ⟨⟨old, he⟩, hi, n1, n2, n3⟩ := st
    exact ⟨⟨old, k e (List.mem_cons_self ..) _ he⟩, hi.at fun o q => k it (by simp) o q, n1, n2, n3⟩
  item := by
    intro X hP hw hK hc i pins s σ H E I hf st hg
    subst hP hw hK
    obtain ⟨⟨old, he⟩, hit, n1, n2, n3⟩ := st
    obtain ⟨xs, x, hq, hx⟩ := hg
    obtain ⟨its, rv, p, hz⟩ := I.tuple hq
    obtain ⟨u, hu, ru⟩ := rv.get hx
    have hel : e < s.heap.objs.size := Heap.lt_size he
    have hil : it < s.heap.objs.size := by obtain ⟨_, q, _⟩ := hit; exact Heap.lt_size q
    have hlt : i < its.toArray.size := by simpa using (List.getElem?_eq_some_iff.mp hu).1
    have pt : s.heap.IsTuple a its.toArray := p
    refine wpAny_pyNext_enum_itemD (Draws.tuple (A := X.A.in1) (show X.A.in1.handled = none from I.ok.hd hc) it a n2 its.toArray) he ⟨hit, pt⟩ hlt n1 (by simp [n1, n3]) fun v h' tk hv ho hs' hT hsz hk => ?_
    have ev : v = u := by
      have : its.toArray[i]? = some u := by simpa using hu
      rw [this] at hv
      exact (Option.some.inj hv).symm
    subst ev
    refine ⟨_, rfl, wpAny_letOwnedTupleGo_enum (s := { s with heap := h', toks := tk + 1 }) ho fun h'' he' sb => ?_⟩
    have hT2 : h''.get? s.heap.objs.size = some { cls := .type "tuple", data := .seq #[.int i tk, v] } := (sb.2 _ (Nat.ne_of_gt hel)).trans hT
    have new : ObjOk X.prog X.w (upd H s.heap.objs.size (.tup [.int (i : Nat), x])) h'' s.heap.objs.size (.tup [.int (i : Nat), x]) :=
      ⟨by show 2 ≤ sizeLine; decide, [.int i tk, v], .cons ⟨_, rfl⟩ (.cons ru .nil), ⟨_, hT2, rfl, _, rfl⟩⟩
    have I1 : Inv X pins σ (upd H s.heap.objs.size (.tup [.int (i : Nat), x])) { s with heap := h'', toks := tk + 1 } :=
      I.turnedNew (ch := [e, it]) (fun b ob hb q => (sb.2 b (fun z => hb (by simp [z]))).trans (hk b ob (fun z => hb (by simp [z])) (fun z => hb (by simp [z])) q)) hf (Nat.le_refl _) new
    refine ⟨.ref s.heap.objs.size, _, I1, rfl, ⟨_, x, rfl, I.hok.fresh (Nat.le_refl _), rfl, fun ys hy => by rw [I.tuple_inj hy hq]; exact hx⟩, ⟨⟨v, ?_⟩, hs'.1.at fun o q => (sb.2 it (Ne.symm n1)).trans q, n1, n2, n3⟩, fun b hb => ?_⟩
    · have e1 : ((i + 1 : Nat) : Int) = (i : Int) + 1 := by omega
      rw [e1]; exact he'
    · have hb' : b < s.heap.objs.size := by
        rcases (show b = e ∨ b = it by simpa using hb) with rfl | rfl
        · exact hel
        · exact hil
      rw [upd_ne (Nat.ne_of_lt hb')]
      exact (hf b hb).1
  done := by
    intro X hP hw hK hc i pins s σ H E I hf st hg
    subst hP hw hK
    obtain ⟨⟨old, he⟩, hit, n1, n2, n3⟩ := st
    obtain ⟨xs, hq, hx⟩ := hg
    obtain ⟨its, rv, p, hz⟩ := I.tuple hq
    obtain ⟨f0, f1, f2, f3, f4, f5⟩ := hf it (by simp)
    have hl := rv.length
    have pt : s.heap.IsTuple a its.toArray := p
    have D : Draws X.prog X.w X.A.in1 it [it, a] i (fun j v => its.toArray[j]? = some v) (fun j h => j = i ∧ h.IsTupleIter it a j ∧ h.IsTuple a its.toArray) := {
      live := fun _ _ st => let ⟨o, ho, _⟩ := st.2.1; ⟨o, ho⟩
      frame := fun _ _ _ st hk => ⟨st.1, st.2.1.at fun o e => hk it (by simp) o e, st.2.2.at fun o e => hk a (by simp) o e⟩
      item := fun j s Q E hj st hQ => absurd st.1 (Nat.ne_of_lt hj)
      done := fun s Q E st hE => wpAny_nextOf_tuple_end (show X.A.in1.handled = none from I.ok.hd hc) st.2.1 st.2.2 (by simp; omega) hE }
    exact wpAny_pyNext_enum_endD D he ⟨rfl, hit, pt⟩ fun h' eb => ⟨rfl, I.turned (t' := s.toks) (fun b o hb q => eb b o hb q) f0 f1 f3 f4 f5⟩
  self := fun A i s Q E st h => by
    obtain ⟨⟨_, he⟩, _⟩ := st
    exact wpAny_pyIter_enum he h
def iEnu (K : PySem.W.Frag) (ta : TA) : TI := fun σ H R => ta σ H fun vs H1 => ∃ a xs, vs = [.ref a] ∧ ((SqL K H1 a xs ∧ R (Ite K a) H1) ∨ (SqT K H1 a xs ∧ R (Itn K a) H1))
theorem pi_enu {X : Cx} {e : Expr} {ta : TA} {p pos tpos : Pos} {elts : List Expr} {kk : Nat} (hg : Gl X "enumerate") (hm : X.mg "enumerate" = none) (ha : PA X [e] ta) (hs : starEach [e] X.env = [(false, eval e X.env)] := by rfl) :
    PI X (.Tuple elts kk tpos) (.Call (.Name "enumerate" p) [e] [] pos) (iEnu X.K ta) := by
  refine ⟨fun pins s σ H R I h => ?_⟩
  refine Call_ (ld_blt I hg hm boot_enumerate (PyProof.Rows.callWith_type1 (thn (ha.run pos pins s σ H _ I h) fun us s1 ⟨vs, H1, I1, r1, q1⟩ => ?_) hs rfl))
  obtain ⟨a, xs, rfl, q⟩ := q1
  cases r1 with
  | cons r rr =>
    cases rr
    cases r
    have out : ∀ b ∈ [s1.heap.objs.size + 1, s1.heap.objs.size], FpOk X pins H1 b := fun b hb => by
      have hle : s1.heap.objs.size ≤ b := by
        rcases (show b = s1.heap.objs.size + 1 ∨ b = s1.heap.objs.size by simpa using hb) with rfl | rfl
        · exact Nat.le_add_right _ _
        · exact Nat.le_refl _
      exact I1.fpOk hle (I1.hok.fresh hle)
    rcases q with ⟨hq, q⟩ | ⟨hq, q⟩
    · obtain ⟨its, rv, p', hz⟩ := I1.list hq
      exact call_enumerate_list p'.isList fun h' he hit hsz hk => wpAny_pyIter_enum he ⟨_, _, _, _, H1, rfl, I1.kept (t' := s1.toks) hk, turn_enum a (s1.heap.objs.size + 1) s1.heap.objs.size, ⟨⟨.none, he⟩, hit, Nat.succ_ne_self _⟩, out, q⟩
    · obtain ⟨its, rv, p', hz⟩ := I1.tuple hq
      have pt : s1.heap.IsTuple a its.toArray := p'
      have al : a < s1.heap.objs.size := by obtain ⟨o, ho, _⟩ := id pt; exact Heap.lt_size ho
      exact call_enumT pt fun h' he hit hk => wpAny_pyIter_enum he ⟨_, _, _, _, H1, rfl, I1.kept (t' := s1.toks) hk, turn_enumT a (s1.heap.objs.size + 1) s1.heap.objs.size, ⟨⟨.none, he⟩, hit, Nat.succ_ne_self _, Nat.ne_of_lt al, Ne.symm (Nat.ne_of_lt (Nat.lt_succ_of_lt al))⟩, out, q⟩
theorem iters_enumT {p : Option Addr} {K : PySem.W.Frag} {A : List Addr} {H : Hp} {a : Addr} {xs : List V} {ds : List D} (h : SqT K (cut A H) a xs) (r : RepA p K (cut A H) xs ds) : Iters p K A (enumD ds) (Itn K a) H := fun A' H' s thr => by
  have e := s.cut
  have h' : SqT K H' a xs := by
    rcases h with (z | ⟨o, z⟩) | z
    · exact .inl (.inl (cut_some (e _ _ z)).2)
    · exact .inl (.inr ⟨o, (cut_some (e _ _ z)).2⟩)
    · exact .inr z
  refine ⟨fun i d hd => ?_, ⟨xs, h', by unfold enumD; rw [List.length_mapIdx]; exact Nat.le_of_eq r.length⟩⟩
  unfold enumD at hd
  rw [List.getElem?_mapIdx] at hd
  cases q : ds[i]? with
  | none =>
    rw [q] at hd
    cases hd
  | some d0 =>
    rw [q] at hd
    have e0 : D.tup [.int (i : Int), d0] = d := by simpa using hd
    subst e0
    obtain ⟨v, hv, rv⟩ := r.get q
    refine ⟨⟨xs, v, h', hv⟩, fun x H2 y => ?_⟩
    obtain ⟨T, x0, rfl, nT, rfl, y⟩ := y
    have := y xs h'
    rw [hv] at this
    cases this
    have ex : Ext H' (upd H' T (.tup [.int (i : Nat), v])) := fun b u hb => by
      rw [upd_ne (ne_of_none hb nT)]
      exact hb
    have nA : T ∉ A' := fun z => by
      obtain ⟨o, ho⟩ := thr T z
      rw [nT] at ho
      cases ho
    have ec : Ext (cut A' H') (cut A' (upd H' T (.tup [.int (i : Nat), v]))) := fun b u hb => by
      obtain ⟨n, z⟩ := cut_some hb
      exact cut_of n (ex b u z)
    exact ⟨ex, .tup (SqT.of (cut_of nA upd_same)) (.cons (.int _) (.one (rv.ext (fun b u z => ec b u (e b u z)))))⟩
theorem sqT_uncut {K : PySem.W.Frag} {A : List Addr} {H : Hp} {a : Addr} {xs : List V} (h : SqT K (cut A H) a xs) : SqT K H a xs := by
  rcases h with (z | ⟨o, z⟩) | z
  · exact .inl (.inl (cut_some z).2)
  · exact .inl (.inr ⟨o, (cut_some z).2⟩)
  · exact .inr z
def wEnu (wr : WA) : WA := fun ρ m Q => wr ρ m fun ds m1 => match ds with
  | [.lst es] => Q (enumD es) m1
  | [.tup es] => Q (enumD es) m1
  | _ => False
section
variable {X : Cx} {c : C0} {a : Expr}
def di_enu {p pos tpos : Pos} {elts : List Expr} {kk : Nat} {wr : WA} (hg : Gl X "enumerate") (hm : X.mg "enumerate" = none) (h : DA X c [a] wr) (hs : starEach [a] X.env = [(false, eval a X.env)] := by rfl) : DI X c (.Tuple elts kk tpos) (.Call (.Name "enumerate" p) [a] [] pos) (wEnu wr) :=
  ⟨_, pi_enu hg hm h.pe hs, fun A ρ m σ H G Q R hw k => h.rd A ρ m σ H G _ _ hw fun vs ds m1 H1 G1 k1 r1 q1 => by
    split at q1
    · obtain ⟨v, rfl, rv⟩ := repA1 r1
      cases rv with
      | lst h1 r2 => exact ⟨_, _, rfl, .inl ⟨SqL.of (cut_some h1).2, k _ _ m1 H1 G1 k1 (iters_enum h1 r2) q1⟩⟩
    · obtain ⟨v, rfl, rv⟩ := repA1 r1
      cases rv with
      | tup h1 r2 => exact ⟨_, _, rfl, .inr ⟨sqT_uncut h1, k _ _ m1 H1 G1 k1 (iters_enumT h1 r2) q1⟩⟩
    · cases q1⟩
end
end DW

/-! DW31: a, b = [..], e, the first a list of one's own, where the pair is made. -/
namespace DW
open PySem PySem.Spec L2 PyProof.Rows
section
variable {X : Cx} {c : C0} {e b : Expr} {we : WE} {wl : WA} {pos : Pos}
def wAsgO (i j : Nat) (wl : WA) (we : WE) : WS := fun P ρ m => wl ρ m fun ds m1 => we ρ m1 fun d m2 => P.nx ((ρ.set i (.own (.lst ds))).set j (.dat d)) m2
def ds_asgO {i j : Nat} {x y : Str} {px py p1 p2 : Pos} {k k2 : Nat} (hc : X.calm = true) (hN : X.N.Nodup) (hi : X.N[i]? = some x) (hx : Loc X.env.scope x) (hj : X.N[j]? = some y) (hy : Loc X.env.scope y) (h : DL X c e wl) (h2 : DE X c b we)
    (hf : X.fn x = true ∨ X.env.scope.names.lookup x = some .local := by first | exact .inl rfl | exact .inr rfl | assumption) (hf2 : X.fn y = true ∨ X.env.scope.names.lookup y = some .local := by first | exact .inl rfl | exact .inr rfl | assumption)
    (hn : (assignEach [.Name x px, .Name y py] X.env).length = 2 := by rfl) (hst : (assignEach [.Name x px, .Name y py] X.env).findIdx? (·.1) = none := by rfl)
    (a1 : (assignEach [.Name x px, .Name y py] X.env).map (·.2) = assign (.Name x px) X.env :: (assignEach [.Name y py] X.env).map (·.2) := by rfl) (a2 : (assignEach [.Name y py] X.env).map (·.2) = assign (.Name y py) X.env :: (assignEach [] X.env).map (·.2) := by rfl)
    (s1 : starEach [e, b] X.env = (false, eval e X.env) :: starEach [b] X.env := by rfl) (s2 : starEach [b] X.env = (false, eval b X.env) :: starEach [] X.env := by rfl)
    (hs : swapsWithSole [.Tuple [.Name x px, .Name y py] k p1] (.Tuple [e, b] k2 p2) pos.line X.env = pure false := by rfl) (hw : swappedStores [.Tuple [.Name x px, .Name y py] k p1] (.Tuple [e, b] k2 p2) X.env = pure none := by rfl)
    (h1 : (assignEach [.Tuple [.Name x px, .Name y py] k p1] X.env).map (·.2) = [assign (.Tuple [.Name x px, .Name y py] k p1) X.env] := by rfl) :
    DS X c (.Assign [.Tuple [.Name x px, .Name y py] k p1] (.Tuple [e, b] k2 p2) pos) (wAsgO i j wl we) :=
  ⟨_, ps_asg (pe_tup (pa_cons h.pe (pa_cons h2.pe pa_nil s2) s1)) (pg_tup hc (pgs_cons (pg_name hN hi hx hf) (pgs_cons (pg_name hN hj hy hf2) pgs_nil a2) a1) hn hst) hs hw h1, fun A ρ m σ H G P F hw n rt bb ct => by
    refine h.rd A ρ m σ H G _ _ hw fun a xs ds m1 H1 G1 na ha k1 ea r1 q1 => ?_
    refine h2.rd (a :: A) ρ m1 σ H1 G1 _ _ q1 fun v d m2 H2 G2 k2 r2 q2 => ?_
    refine ⟨(show 2 ≤ sizeLine by decide), fun p hp => ⟨p, _, rfl, SqT.of upd_same, rfl, .ref a, [v], rfl, v, [], rfl, rfl, ?_⟩⟩
    have k3 : Keep c H1 (upd H2 p (.tup [.ref a, v])) := k2.trans (Keep.new hp)
    have g3 := G2.fresh (o := .tup [.ref a, v]) hp
    have a0 : a ∉ c.A0 := fun z => na (G.sub a z)
    have ea3 : upd H2 p (.tup [.ref a, v]) a = some (.lst xs) := k3 a _ (fun z => a0 (G1.vin z)) ea
    have g4 := g3.setOwn a0 (own_ne G na) ea3 (.lst (r1.ext (k3.grow G1.toBase).cut)) i
    have g5 := g4.set (r2.ext (fresh_ext hp)) j
    refine n (a :: A) _ m2 _ _ g5 ⟨(k1.trans k3).grow G.toBase, fun b hb => ?_⟩ q2
    rcases List.mem_cons.mp hb with z | z
    · exact .inr (by rw [z]; exact ha)
    · exact .inl z⟩
end
theorem Good.setOwnM {c : C0} {K : PySem.W.Frag} {A : List Addr} {ρ : DW.Env} {m : Nat} {σ : L2.St} {H : Hp} {a : Addr} {u : HO} {o : Own} (G : Good K c A ρ m σ H) (hm : a ∈ A) (h0 : a ∉ c.A0) (ho : ∀ (j : Nat) (es : Own), ρ[j]? = some (Cell.own es) → σ[j]? ≠ some (some (V.ref a)))
    (ea : H a = some u) (r : OwnO c.p K (cut A H) a u o) (i : Nat) : Good K c A (ρ.set i (.own o)) m (σ.set i (some (.ref a))) H := by
  refine ⟨G.toBase, by rw [List.length_set, List.length_set]; exact G.len, fun j k e => ?_⟩
  by_cases hj : i = j
  · subst hj
    have hl : i < ρ.length := by
      have := (List.getElem?_eq_some_iff.mp e).1
      rwa [List.length_set] at this
    rw [List.getElem?_set_self hl] at e
    cases e
    refine ⟨a, u, by rw [List.getElem?_set_self (by rw [← G.len]; exact hl)], hm, h0, ea, r, fun j es n' e' => ?_⟩
    rw [List.getElem?_set_ne (Ne.symm n')] at e' ⊢
    exact ho j es e'
  · rw [List.getElem?_set_ne hj] at e
    have q := G.cell j k e
    cases k with
    | un => trivial
    | raw v' => exact (List.getElem?_set_ne hj).trans q
    | dat d' =>
      obtain ⟨v', h1, h2⟩ := q
      exact ⟨v', by rw [List.getElem?_set_ne hj]; exact h1, h2⟩
    | cau _ _ =>
      obtain ⟨xa, xd, xe, h1, h2⟩ := q
      exact ⟨xa, xd, xe, by rw [List.getElem?_set_ne hj]; exact h1, h2⟩
    | own es' =>
      obtain ⟨l, ys, h1, h2, h3, h4, h5, h6⟩ := q
      refine ⟨l, ys, by rw [List.getElem?_set_ne hj]; exact h1, h2, h3, h4, h5, fun j' es n' e' => ?_⟩
      by_cases hj' : i = j'
      · subst hj'
        by_cases hl : i < σ.length
        · rw [List.getElem?_set_self hl]
          intro z
          cases z
          exact ho j es' e h1
        · rw [List.getElem?_eq_none (by rw [List.length_set]; omega)]
          exact fun z => nomatch z
      · rw [List.getElem?_set_ne hj'] at e' ⊢
        exact h6 j' es n' e'
def wParOO (i j : Nat) (w1 w2 : WA) : WS := fun P ρ m => w1 ρ m fun ds m1 => w2 ρ m1 fun es m2 => P.nx ((ρ.set i (.own (.lst ds))).set j (.own (.lst es))) m2
def ds_parOO {X : Cx} {c : C0} {e b : Expr} {st : Stmt} {i j : Nat} {w1 w2 : WA} (hp : ∀ ta, PA X [e, b] ta → PS X st (tPar i j ta)) (h1 : DL X c e w1) (h2 : DL X c b w2)
    (s1 : starEach [e, b] X.env = (false, eval e X.env) :: starEach [b] X.env := by rfl) (s2 : starEach [b] X.env = (false, eval b X.env) :: starEach [] X.env := by rfl) : DS X c st (wParOO i j w1 w2) :=
  ⟨_, hp _ (pa_cons h1.pe (pa_cons h2.pe pa_nil s2) s1), fun A ρ m σ H G P F hw n rt bb ct => by
    refine h1.rd A ρ m σ H G _ _ hw fun a xs ds m1 H1 G1 na ha k1 ea r1 q1 => ?_
    refine h2.rd (a :: A) ρ m1 σ H1 G1 _ _ q1 fun a2 ys es m2 H2 G2 na2 ha2 k2 ea2 r2 q2 => ?_
    refine ⟨.ref a, .ref a2, rfl, ?_⟩
    have a0 : a ∉ c.A0 := fun z => na (G.sub a z)
    have a20 : a2 ∉ c.A0 := fun z => na2 (G1.sub a2 z)
    have ea3 : H2 a = some (.lst xs) := k2 a _ (fun z => a0 (G1.vin z)) ea
    have o1 : ∀ (j : Nat) (es : Own), ρ[j]? = some (Cell.own es) → σ[j]? ≠ some (some (V.ref a)) := own_ne G na
    have ex : Ext (cut (a :: A) H1) (cut (a2 :: a :: A) H2) := fun b o e => by
      obtain ⟨n1, e1⟩ := cut_some e
      obtain ⟨n2, e2⟩ := cut_some ((k2.grow G1.toBase).cut b o e)
      refine cut_of (fun z => (List.mem_cons.mp z).elim (fun z => ?_) n2) e2
      rw [z, ha2] at e1
      cases e1
    have g4 := G2.setOwnM (List.mem_cons_of_mem _ (List.mem_cons_self ..)) a0 o1 ea3 (.lst (r1.ext ex)) i
    have g5 := g4.setOwnM (List.mem_cons_self ..) a20 (fun j' es' e' => ?_) ea2 (.lst r2) j
    · refine n (a2 :: a :: A) _ m2 _ _ g5 ⟨(k1.trans k2).grow G.toBase, fun b hb => ?_⟩ q2
      rcases List.mem_cons.mp hb with z | z
      · exact .inr (by rw [z]; exact none_back G1 k1 ha2)
      · rcases List.mem_cons.mp z with z | z
        · exact .inr (by rw [z]; exact ha)
        · exact .inl z
    · by_cases hj : i = j'
      · subst hj
        by_cases hl : i < σ.length
        · rw [List.getElem?_set_self hl]
          intro z
          cases z
          exact na2 (List.mem_cons_self ..)
        · rw [List.getElem?_eq_none (by rw [List.length_set]; omega)]
          exact fun z => nomatch z
      · rw [List.getElem?_set_ne hj] at e' ⊢
        exact own_ne G1 na2 j' es' e'⟩
end DW

/-! DW32: places, cuts, comprehensions over data. -/
namespace DW
open PySem PySem.Spec L2
theorem cutG_from {α : Type} (xs : List α) (k : Nat) : cutG xs (some (k : Int)) none = xs.drop k := by
  unfold cutG
  rw [HT.sIx_nat, HT.sIx_none]
  by_cases h : k ≤ xs.length
  · rw [Nat.min_eq_left h]
    exact List.take_of_length_le (by rw [List.length_drop]; exact Nat.le_refl _)
  · rw [Nat.min_eq_right (by omega), Nat.sub_self, List.take_zero, List.drop_of_length_le (by omega)]
theorem cutG_to {α : Type} (xs : List α) (k : Nat) : cutG xs none (some (k : Int)) = xs.take k := by
  unfold cutG
  rw [HT.sIx_nat, HT.sIx_none, List.drop_zero, Nat.sub_zero]
  by_cases h : k ≤ xs.length
  · rw [Nat.min_eq_left h]
  · rw [Nat.min_eq_right (by omega), List.take_length, List.take_of_length_le (by omega)]
theorem atI_nat {α : Type} (xs : List α) (k : Nat) : atI xs (k : Int) = xs[k]? := by
  unfold atI ixN
  rw [if_pos (Int.natCast_nonneg k)]
  by_cases h : k < xs.length
  · rw [if_pos (by omega)]
    rfl
  · rw [if_neg (by omega)]
    exact (List.getElem?_eq_none (by omega)).symm
theorem atI_pos {α : Type} {xs : List α} {i : Int} {x : α} (h0 : 0 ≤ i) (h : xs[i.toNat]? = some x) : atI xs i = some x := by
  have e : i = ((i.toNat : Nat) : Int) := by omega
  rw [e, atI_nat]
  exact h
theorem atI_lt {α : Type} {xs : List α} {i : Int} (h0 : 0 ≤ i) (h1 : i < xs.length) : ∃ x, atI xs i = some x ∧ x ∈ xs := by
  have h : i.toNat < xs.length := by omega
  exact ⟨xs[i.toNat], atI_pos h0 (by simp [h]), List.getElem_mem h⟩
abbrev IMap (ds : List D) (f : D → D) (m : Nat) : Nat → List D → Nat → Prop := fun i acc m' => acc = (ds.take i).map f ∧ m' = m
theorem IMap.next {ds : List D} {f : D → D} {m i m' : Nat} {d y : D} {acc : List D} (h : ds[i]? = some d) (hI : IMap ds f m i acc m') (hy : y = f d) : IMap ds f m (i + 1) (acc ++ [y]) m' := by
  obtain ⟨rfl, rfl⟩ := hI
  refine ⟨?_, rfl⟩
  rw [List.take_add_one, h, List.map_append, hy]
  rfl
theorem IMap.fin {ds : List D} {f : D → D} {m m' : Nat} {acc : List D} (hI : IMap ds f m ds.length acc m') : acc = ds.map f ∧ m' = m := by
  obtain ⟨rfl, rfl⟩ := hI
  rw [List.take_length]
  exact ⟨rfl, rfl⟩
theorem nog {P : Prop} : false = true → P := fun z => nomatch z
theorem all_bl (ds : List D) (f : D → Bool) : ds.map (fun x => D.bl (f x)) = (ds.map f).map D.bl ∧ (ds.map f).all id = ds.all f := by
  refine ⟨by rw [List.map_map]; rfl, by rw [List.all_map]; rfl⟩
theorem enumD_at {es : List D} {i : Nat} {x : D} (h : (enumD es)[i]? = some x) : ∃ y, es[i]? = some y ∧ x = .tup [.int (i : Int), y] := by
  unfold enumD at h
  rw [List.getElem?_mapIdx] at h
  cases q : es[i]? with
  | none =>
    rw [q] at h
    cases h
  | some y =>
    rw [q] at h
    exact ⟨y, rfl, (Option.some.inj h).symm⟩
theorem enumD_len (es : List D) : (enumD es).length = es.length := by unfold enumD; rw [List.length_mapIdx]
theorem take_all {es : List D} {i : Nat} {y : D} {f : D → Bool} (h : es[i]? = some y) (a : (es.take i).all f = true) (b : f y = true) : (es.take (i + 1)).all f = true := by
  rw [List.take_add_one, h, List.all_append, a]
  show (true && (f y && true)) = true
  rw [b]
  rfl
theorem rngD_len (n : Nat) : (rngD 0 (n : Int)).length = n := by simp [rngD]
theorem rngD_lenI (j : Int) : (rngD 0 j).length = j.toNat := by simp [rngD]
theorem rngD_atI {j : Int} {i : Nat} {d : D} (h : (rngD 0 j)[i]? = some d) : (i : Int) < j ∧ d = .int (i : Int) := by
  have hl : i < j.toNat := by
    have := (List.getElem?_eq_some_iff.mp h).1
    rwa [rngD_lenI] at this
  refine ⟨by omega, ?_⟩
  unfold rngD at h
  rw [List.getElem?_map, List.getElem?_range (by omega)] at h
  have h : D.int (0 + (i : Int)) = d := Option.some.inj h
  rw [← h, Int.zero_add]
theorem rngD_at {n i : Nat} {d : D} (h : (rngD 0 (n : Int))[i]? = some d) : i < n ∧ d = .int (i : Int) := by
  have hl : i < n := by
    have := (List.getElem?_eq_some_iff.mp h).1
    rwa [rngD_len] at this
  refine ⟨hl, ?_⟩
  unfold rngD at h
  rw [List.getElem?_map, List.getElem?_range (by omega)] at h
  have h : D.int (0 + (i : Int)) = d := Option.some.inj h
  rw [← h, Int.zero_add]
/-- what a comprehension has gathered, the draws it may have taken -/
abbrev IAll (P : D → Prop) (m c : Nat) : Nat → List D → Nat → Prop := fun i acc m' => acc.length = i ∧ (∀ x ∈ acc, P x) ∧ m' ≤ m + c * i
theorem IAll.zero {P : D → Prop} {m c : Nat} : IAll P m c 0 [] m := ⟨rfl, ⟨fun _ h => (by cases h), Nat.le_add_right ..⟩⟩
theorem IAll.next {P : D → Prop} {m c i m1 m2 : Nat} {acc : List D} {y : D} (h : IAll P m c i acc m1) (hy : P y) (hm : m2 ≤ m1 + c) : IAll P m c (i + 1) (acc ++ [y]) m2 := by
  obtain ⟨h1, h2, h3⟩ := h
  refine ⟨by rw [List.length_append, h1]; rfl, fun x hx => ?_, ?_⟩
  · rcases List.mem_append.mp hx with q | q
    · exact h2 x q
    · rw [List.mem_singleton.mp q]
      exact hy
  · rw [Nat.mul_add]
    omega
theorem cutS {G : Prop} {k : DW.Env → Nat → Prop} (Φ : DW.Env → Nat → Prop) (h2 : ∀ ρ1 m1, Φ ρ1 m1 → k ρ1 m1) (h1 : (∀ ρ1 m1, Φ ρ1 m1 → k ρ1 m1) → G) : G := h1 h2
theorem wVar_at {i : Nat} {ρ : DW.Env} {m : Nat} {Q : D → Nat → Prop} {d : D} (h : ρ[i]? = some (.dat d)) (q : Q d m) : wVar i ρ m Q := by
  unfold wVar
  rw [h]
  exact q
theorem notT {b : Bool} (h : (!b) = true) : b = false := by
  cases b with
  | true => cases h
  | false => rfl
theorem notF {b : Bool} (h : (!b) = false) : b = true := by
  cases b with
  | true => rfl
  | false => cases h
end DW

/-! DW33: small facts. -/
namespace DW
open PySem PySem.Spec L2
theorem sz {n : Nat} (h : n ≤ 1000) : n ≤ sizeLine := Nat.le_trans h (by decide)
theorem szl {n : Nat} (h : n ≤ 1000) : n < sizeLine := Nat.lt_of_le_of_lt h (by decide)
theorem mem_snoc {α : Type} {x y : α} {xs : List α} (h : x ∈ xs ++ [y]) : x ∈ xs ∨ x = y := by
  rcases List.mem_append.mp h with q | q
  · exact .inl q
  · exact .inr (List.mem_singleton.mp q)
end DW

/-! DW34: x(lambda: body), what is known of the maker told apart. -/
namespace DW
open PySem PySem.Spec L2 PyProof.Rows LamX
section
variable {X : Cx} {c : C0} {x : Str} {p pos lpos : Pos}
def de_lam2 {fwT : FT} {wl : WD → WE} {params : Arguments} {body : Expr} {scope : Scope} {cq P : Addr} {kc j : Nat} (kb : Nat) (q : Str) (T' : List (Addr × Str)) (cv : Value) (F : LFn X.prog X.w X.K c.T X.mg X.base kc x fwT) (TB : TabB X.base X.mg cq P) (hcode : cv = .ref cq) (hmT : (P, q ++ "<lambda>") ∈ T')
    (hu : ∀ r ∈ T', r.1 = P → r.2 = q ++ "<lambda>") (hq : X.env.qual = q) (hT : c.T = T') (hcv : X.env.code = cv) (L : LamS X.env.scope scope) (hr : Room j X.A) (hj : kc + 1 ≤ j) (hj2 : kb + 2 ≤ j) (hk : kb + 1 ≤ kc) (hg : Gl X x)
    (d : ∀ (A : Around) (outer : List PySem.Env) (s : Shared) (H : Hp) (E : XK) (f c' : Addr) (B : List Addr) (G : Hp) (wx : WD), Room kb (A.deeper (lamEnv X scope s.heap.objs.size f c')) → Takes (lamCx X A outer s H E scope f c') (fun cls d _ H => E cls d H) → RelW X.K (c00 c.T c.p c.cc B G) (fun cls d _ H => E cls d H) wx →
      DE (lamCx X A outer s H E scope f c') (c00 c.T c.p c.cc B G) body (wl wx))
    (u : ∀ (A : Around) (outer : List PySem.Env) (s : Shared) (H : Hp) (E : XK) (f c' : Addr) (B : List Addr) (G : Hp) (wx : WD) h1 h2 h3 (g1 : Room kb (X.A.deeper (lamEnv X scope X.s_0.heap.objs.size 0 0))), (d A outer s H E f c' B G wx h1 h2 h3).t = (d X.A [] X.s_0 X.H_0 E 0 0 [] (fun _ => none) (fun _ _ _ _ => False) g1 (takes_of rfl rfl rfl rfl) rel0).t := by intros; rfl)
    (hdef : defaultsOf params X.env = ([], []) := by rfl) (hbind : ∀ (q : Str) (cl : List (Str × Addr)) (pm cv ctv : Value), bindArgs (PySem.W.kla_fn "<lambda>" q params body scope cl pm cv ctv) ⟨[], []⟩ = pure [] := by intros; rfl)
    (hdb : (x == ("__debug__" : Str)) = false := by decide) : DE X c (.Call (.Name x p) [.Lambda params body scope lpos] [] pos) (wLam fwT wl) :=
  de_lam F TB (by rw [hcv]; exact hcode) (by rw [hq, hT]; exact hmT) (by rw [hq, hT]; exact hu) L hr hj hj2 hk hg d u hdef hbind hdb
end
end DW

/-! DW35: a law's end where a def of the module makes lambdas; facts of the part. -/
namespace DW
open PySem PySem.Spec PyProof.Rows L2 LamX
/-- the code object of a def of the part, its table -/
def tabAt (K : PySem.W.Frag) (v : Value) : Addr × Addr := match v with
  | .ref c => match List.lookup c K with
    | some ⟨_, _, .fields vs, _⟩ => match (vs[11]? : Option Value) with
      | some (Value.ref q) => (c, q)
      | _ => (c, 0)
    | _ => (c, 0)
  | _ => (0, 0)
def valB (f : Value → Bool) (o : Option Value) : Bool := match o with
  | some v => f v
  | none => false
def isRefB (q : Addr) : Value → Bool
  | .ref a => decide (a = q)
  | _ => false
def isStrB : Value → Bool
  | .str _ _ => true
  | _ => false
def isIntB : Value → Bool
  | .int _ _ => true
  | _ => false
def isBoolB : Value → Bool
  | .bool _ => true
  | _ => false
def codeB (K : PySem.W.Frag) (v : Value) (c q : Addr) : Bool := isRefB c v && (decide (c ≠ q) && ((List.lookup q K).isNone && match List.lookup c K with
  | some ⟨.type "code", _, .fields vs, _⟩ => valB (isRefB q) vs[11]? && (isStrB (vs.getD 18 .none) && (isIntB (vs.getD 7 .none) && (isBoolB (vs.getD 9 .none) && isIntB (vs.getD 10 .none))))
  | _ => false))
theorem isRef_at {q : Addr} {v : Value} (h : isRefB q v = true) : v = .ref q := by
  cases v <;> first | (cases h; done) | skip
  rw [of_decide_eq_true h]
theorem codeK {K : PySem.W.Frag} {v : Value} {c q : Addr} {h : Heap} (b : codeB K v c q = true) (X : K.In h) : v = .ref c ∧ List.lookup q K = none ∧ PySem.W.CodeHd h c q ∧ ∃ (e : Value) (dd : Option Addr) (vs : Array Value) (sl : Array (Option Value)), List.lookup c K = some ⟨e, dd, .fields vs, sl⟩ ∧ vs[11]? = some (.ref q) := by
  unfold codeB at b
  rw [Bool.and_eq_true, Bool.and_eq_true, Bool.and_eq_true] at b
  obtain ⟨b1, b2, b3, b4⟩ := b
  have ne : c ≠ q := of_decide_eq_true b2
  split at b4
  · rename_i dd vs sl e
    rw [Bool.and_eq_true, Bool.and_eq_true, Bool.and_eq_true, Bool.and_eq_true] at b4
    obtain ⟨p1, p2, p3, p4, p5⟩ := b4
    have v11 : vs[11]? = some (.ref q) := by
      cases z : vs[11]? with
      | none => rw [z] at p1; cases p1
      | some u => rw [z] at p1; rw [isRef_at p1]
    have v18 : ∃ x t, vs.getD 18 .none = .str x t := by
      cases z : vs.getD 18 .none <;> rw [z] at p2 <;> first | exact ⟨_, _, rfl⟩ | cases p2
    have v7 : ∃ x t, vs.getD 7 .none = .int x t := by
      cases z : vs.getD 7 .none <;> rw [z] at p3 <;> first | exact ⟨_, _, rfl⟩ | cases p3
    have v9 : ∃ x, vs.getD 9 .none = .bool x := by
      cases z : vs.getD 9 .none <;> rw [z] at p4 <;> first | exact ⟨_, rfl⟩ | cases p4
    have v10 : ∃ x t, vs.getD 10 .none = .int x t := by
      cases z : vs.getD 10 .none <;> rw [z] at p5 <;> first | exact ⟨_, _, rfl⟩ | cases p5
    obtain ⟨x1, t1, a18⟩ := v18
    obtain ⟨x2, t2, a7⟩ := v7
    obtain ⟨x3, a9⟩ := v9
    obtain ⟨x4, t4, a10⟩ := v10
    have g11 : vs.getD 11 .none = .ref q := by
      rw [Array.getD_eq_getD_getElem?, v11]
      rfl
    refine ⟨isRef_at b1, Option.isNone_iff_eq_none.mp b3, ⟨_, vs, x1, t1, x2, t2, x3, x4, t4, X c _ e, rfl, rfl, v11, g11, a18, a7, a9, a10, ne⟩, _, _, vs, _, e, v11⟩
  · cases b4
/-- as the library's end for tables; what is told of each recorded def's own table -/
theorem walk_tabs {l : PySem.W.OpenLaw} {n k : Nat} {q : Program} {loose : List Str} {XP : (Str → Option Value) → Heap → Prop} {YP : World → Heap → Prop} {d : DefRec} {K : Params → PySem.W.Frag} {CX : World → CXT} {x : Str} (nm : Str)
    (most : l.most = some n) (small : n ≤ sizeLine) (plain : d.params.defaults = []) (room : Room k callerA) (rec' : ((recsOf q).any fun r => r.name == nm) = true) (part : ∀ (w : World) (h : Heap), YP w h → (K w.params).In h)
    (named : ∀ w : World, PySem.W.nsIn (K w.params) mainGlobals nm = some (some (.ref (adr (K w.params) nm))))
    (F : ∀ (w : World) (mg : Str → Option Value) (fa : Addr) (h : Heap), YP w h → (K w.params).In h → h.Ns mainGlobals mg → mg d.name = some (.ref fa) → OwnTab (K w.params) (adr (K w.params) nm) h → LawAtS l w (K w.params) (CX w) k n x mg fa h)
    (none' : ∀ (w : World) (H : Hp) (s : Shared) (e : Value) (s' : Shared), CX w [] H s (fun _ _ _ => False) e s' → False) :
    PySem.W.WalkO q loose XP YP l.row.toRowW d [] (fun f vs => PySem.call f vs) := by
  refine Att.attach_callB most plain fun w s0 s1 mg mb fa o pm cd doc a vs ns G Y ho hd hcd hmg hobj hints hlen hbits hg => ?_
  have KX := part w _ Y
  have tabs : OwnTab (K w.params) (adr (K w.params) nm) s1.heap := by
    intro c P o1 fd1 e dd vs1 sl k1 k2 k3 k4 k5
    obtain ⟨r, hr, hn⟩ := List.any_eq_true.mp rec'
    obtain ⟨a', o', fd', c', P', h1, h2, h3, h4, h5, ⟨oc, vc, e1, _, e3, e4⟩, emp⟩ := G.T.tab r hr
    rw [show r.name = nm from beq_iff_eq.mp hn, PySem.W.mg_of KX G.T.g (named w)] at h1
    cases h1
    cases (KX _ _ k1).symm.trans h2
    cases k2.symm.trans h3
    cases k3.symm.trans h4
    cases (KX _ _ k4).symm.trans e1
    cases e3
    cases k5.symm.trans e4
    exact emp
  obtain ⟨fd, cs, sp, hT, nT, C, hb, hsp, hF⟩ := F w mg fa _ Y KX G.T.g hmg tabs
  exact law_callTs KX G.T.g G.T.b G.T.builtins G.T.nolimit hg hT nT C G.T.bmain hobj hints (Nat.le_trans hlen small) room hF hb (fun H hH hS => hsp H a ns hlen hbits hH hS) fun H e s' => none' w H s1 e s'
end DW

/-! DW36: a local name that holds one of several defs of the module is called; it may let exceptions out. -/
namespace DW
open PySem PySem.Spec PyProof.Rows L2
structure HeldX (P : Program) (w : World) (K : PySem.W.Frag) (T : List (Addr × Str)) (mg : Str → Option Value) (base : Heap) (k : Nat) (f : Addr) (fw : FWX) : Prop where
  ex : ∃ (fd : FuncData) (ps : List Str), FnOk P w K mg base (L2.CX P w) k f fd ps (spDX K T fw) ∧ PySem.W.keepIn K (.ref f) = true ∧ Binds K fd ps []
def wCallV (wx : WD) (i : Nat) (S : Addr → Option FWX) (wr : WA) : WE := fun ρ m Q => ∃ a fw, ρ[i]? = some (.dat (.gf a)) ∧ S a = some fw ∧ wr ρ m fun ds m1 => fw ds m1 Q fun C fs m2 => wx C fs ρ m2
section
variable {X : Cx} {c : C0} {e : Expr} {es : List Expr} {x : Str} {p pos : Pos}
theorem pe_callVX {T : List (Addr × Str)} {i k j : Nat} {S : Addr → Option FWX} {E : XK} {t : TA} (A : ∀ f fw, S f = some fw → HeldX X.prog X.w X.K T X.mg X.base k f fw) (tk : Takes X (fun cls d _ H => E cls d H)) (hr : Room j X.A) (hk : k ≤ j) (hN : X.N[i]? = some x) (hv : Vis X.env.scope x) (ha : PA X (e :: es) t)
    (hd : (x == ("__debug__" : Str)) = false) (hcd : (x == ("__classdict__" : Str)) = false) (he : starEach (e :: es) X.env = (false, eval e X.env) :: starEach es X.env) (hpl : (backTo pos (starEach es X.env)).any (·.1) = false) :
    PE X (.Call (.Name x p) (e :: es) [] pos) (fun σ H Q => ∃ f fw, σ[i]? = some (some (.ref f)) ∧ S f = some fw ∧ t σ H fun vs H1 => spDX X.K T fw vs H1 Q E) := by
  refine ⟨fun pins s σ H Q I ⟨f, fw, slot, known, wish⟩ => ?_⟩
  obtain ⟨fd, ps, F, keep, bind⟩ := (A f fw known).ex
  have same : (fun (vs : List V) (H1 : Hp) => spDX X.K T fw (vs ++ []) H1 Q E) = fun vs H1 => spDX X.K T fw vs H1 Q E := by
    funext vs H1
    rw [List.append_nil]
  refine (pe_callL (i := i) (f := f) (sp := spDX X.K T fw) (dvs := []) (E := E) F (hr.mono hk) hN hv keep bind .nil (passes_call tk fun _ _ _ _ z => z) ha hd hcd he hpl).run pins s σ H Q I ⟨slot, ?_⟩
  show t σ H (fun vs H1 => spDX X.K T fw (vs ++ []) H1 Q E)
  rw [same]
  exact wish
def de_callV {wr : WA} {i j k : Nat} {S : Addr → Option FWX} {wx : WD} {E : XK} (A : ∀ f fw, S f = some fw → HeldX X.prog X.w X.K c.T X.mg X.base k f fw) (tk : Takes X (fun cls d _ H => E cls d H)) (hW : RelW X.K c (fun cls d _ H => E cls d H) wx) (hr : Room j X.A) (hk : k ≤ j) (hN : X.N[i]? = some x) (hv : Vis X.env.scope x) (ha : DA X c (e :: es) wr)
    (hd : (x == ("__debug__" : Str)) = false := by decide) (hcd : (x == ("__classdict__" : Str)) = false := by decide) (he : starEach (e :: es) X.env = (false, eval e X.env) :: starEach es X.env := by rfl) (hpl : (backTo pos (starEach es X.env)).any (·.1) = false := by rfl) :
    DE X c (.Call (.Name x p) (e :: es) [] pos) (wCallV wx i S wr) :=
  ⟨_, pe_callVX A tk hr hk hN hv ha.pe hd hcd he hpl, fun A1 ρ m σ H G Q Qv ⟨a, fw, h1, h2, hw⟩ kq => by
    obtain ⟨v, hv1, hv2⟩ := G.cell i _ h1
    cases hv2
    refine ⟨a, fw, hv1, h2, ha.rd A1 ρ m σ H G _ _ hw fun vs ds m1 H1 G1 k1 r1 q1 => ?_⟩
    refine ⟨c.p, c.cc, A1, ds, m1, Q, fun C fs m2 => wx C fs ρ m2, r1, G1.ctx, q1, fun v d m' H' kp pn rep q => ?_, fun cls d C fs m' H' kp pn xr q => ?_⟩
    · exact kq v d m' H' (G1.step kp pn) (k1.trans kp) rep q
    · exact hW A1 ρ m' σ H' (G1.step kp pn) cls d C fs xr q⟩
end
end DW

/-! DW37: not e, of any data, as a value. -/
namespace DW
open PySem PySem.Spec L2
def wNotT (wa : WE) : WE := fun ρ m Q => wa ρ m fun d m1 => match truD d with
  | some b => Q (.bl (!b)) m1
  | none => False
def de_notT {X : Cx} {c : C0} {a : Expr} {wa : WE} {pos : Pos} (ha : DE X c a wa) : DE X c (.UnaryOp .Not a pos) (wNotT wa) := by
  obtain ⟨t, pa, ra⟩ := ha
  refine ⟨_, pe_notT pa, fun A ρ m σ H G Q Qv hw k => ra A ρ m σ H G _ _ hw fun v d m1 H1 G1 k1 r1 q1 => ?_⟩
  split at q1
  · rename_i b hb
    exact ⟨b, tru_of r1 hb, k _ _ m1 H1 G1 k1 (.bl _) q1⟩
  · cases q1
end DW

/-! DW38: is of bools; faults told by a table; a law's end with several defs that make lambdas. -/
namespace DW
open PySem PySem.Spec PyProof.Rows L2 LamX
theorem ite_f {b : Bool} {P Q : Prop} (h : b = false) (q : Q) : (if b = true then P else Q) := by rw [h]; exact q
theorem ite_t {b : Bool} {P Q : Prop} (h : b = true) (p : P) : (if b = true then P else Q) := by rw [h]; exact p
def isBD : D → D → (D → Prop) → Prop
  | .bl a, .bl b, Q => Q (.bl (decide (a = b)))
  | _, _, _ => False
section
variable {X : Cx} {c : C0} {a b : Expr} {wa wb : WE} {pos : Pos}
theorem rd_isB {K : PySem.W.Frag} : RdOp K c rIsB isBD := fun A ρ m σ H G x y d e rx ry Q Qv h k => by
  unfold isBD at h
  split at h
  · cases rx
    cases ry
    exact ⟨_, _, rfl, rfl, k _ _ H G Keep.refl (.bl _) h⟩
  · cases h
def de_isBl (ha : DE X c a wa) (hb : DE X c b wb) (hm : behindInMarks .Is b = false := by rfl) : DE X c (.Compare a [.Is] [b] pos) (wOp isBD wa wb) := de_cmp op_isBl rd_isB ha hb hm
def dt_isBl (ha : DE X c a wa) (hb : DE X c b wb) (hm : behindInMarks .Is b = false := by rfl) : DT X c (.Compare a [.Is] [b] pos) (wTest (wOp isBD wa wb)) := dt_cmp op_isBl rd_isB ha hb hm
end
/-! ### faults told by a table: class, word, fields -/
def looks (fs : List (Str × D)) : List Str → Option (List D)
  | [] => some []
  | f :: r => match fs.lookup f, looks fs r with
    | some d, some ds => some (d :: ds)
    | _, _ => none
def faultN (K : PySem.W.Frag) (ad : Str → Addr) (R : D → Nat → Prop) (C : Addr) (fs : List (Str × D)) (m : Nat) : List (Str × Str × List Str) → Prop
  | [] => False
  | e :: r => ∃ b, PySem.W.exmOne K (.ref C) (.ref (ad e.1)) = some b ∧ (b = true → C = ad e.1 ∧ ∃ ds, looks fs e.2.2 = some ds ∧ R (.tup (.str e.2.1 :: ds)) m) ∧ (b = false → faultN K ad R C fs m r)
/-- what a def with these clauses makes of what it is given -/
def fwFaultT (K : PySem.W.Frag) (ad : Str → Addr) (told : D → D) (tbl : List (Str × Str × List Str)) : FT := fun be m R => be m (fun d m' => R (told d) m') fun C fs m' => faultN K ad R C fs m' tbl
theorem faultN_hit {K : PySem.W.Frag} {ad : Str → Addr} {R : D → Nat → Prop} {x w : Str} {fl : List Str} {fs : List (Str × D)} {ds : List D} {m : Nat} (hl : looks fs fl = some ds) (hR : R (.tup (.str w :: ds)) m) : ∀ {tbl : List (Str × Str × List Str)}, (∀ e ∈ tbl, PySem.W.exmOne K (.ref (ad x)) (.ref (ad e.1)) = some (decide (x = e.1))) →
    tbl.find? (fun e => decide (x = e.1)) = some (x, w, fl) → faultN K ad R (ad x) fs m tbl
  | [], _, h => by cases h
  | e :: r, he, h => by
    refine ⟨_, he e (List.mem_cons_self ..), fun z => ?_, fun z => ?_⟩
    · have z := of_decide_eq_true z
      rw [List.find?_cons_of_pos (by exact decide_eq_true z)] at h
      cases h
      exact ⟨rfl, ds, hl, hR⟩
    · rw [List.find?_cons_of_neg (by rw [z]; decide)] at h
      exact faultN_hit hl hR (fun e h => he e (List.mem_cons_of_mem _ h)) h
/-- the clauses of such a def: `got = (word, e.f, ..)` -/
def wCaus (C : Addr) (i : Nat) : List Str → WA
  | [] => wNil
  | f :: r => wCons (wCau C f i) (wCaus C i r)
def fHd (ad : Str → Addr) (i : Nat) (e : Str × Str × List Str) : Value × Nat × WS := (.ref (ad e.1), i, wSet 1 (wTup (wCons (wC (.str e.2.1)) (wCaus (ad e.1) i e.2.2))))
theorem wCaus_iff {C D0 : Addr} {i : Nat} {fs : List (Str × D)} {ρ : DW.Env} {m : Nat} (h : ρ[i]? = some (.cau D0 fs)) : ∀ {fl : List Str} {Q : List D → Nat → Prop}, fl ≠ [] → (wCaus C i fl ρ m Q ↔ C = D0 ∧ ∃ ds, looks fs fl = some ds ∧ Q ds m)
  | [], Q, n => absurd rfl n
  | [f], Q, _ => by
    constructor
    · rintro ⟨fs', v, h1, h2, q⟩
      rw [h] at h1
      cases h1
      exact ⟨rfl, [v], by rw [looks, looks, h2], q⟩
    · rintro ⟨rfl, ds, h1, q⟩
      rw [looks, looks] at h1
      cases h2 : fs.lookup f with
      | none => rw [h2] at h1; cases h1
      | some v =>
        rw [h2] at h1
        cases h1
        exact ⟨fs, v, h, h2, q⟩
  | f :: f2 :: r, Q, _ => by
    constructor
    · rintro ⟨fs', v, h1, h2, q⟩
      rw [h] at h1
      cases h1
      obtain ⟨_, ds, h3, q⟩ := (wCaus_iff h (by simp)).mp q
      exact ⟨rfl, v :: ds, by rw [looks, h2, h3], q⟩
    · rintro ⟨rfl, ds, h1, q⟩
      rw [looks] at h1
      cases h2 : fs.lookup f with
      | none => rw [h2] at h1; cases h1
      | some v =>
        rw [h2] at h1
        cases h3 : looks fs (f2 :: r) with
        | none => rw [h3] at h1; cases h1
        | some es =>
          rw [h3] at h1
          cases h1
          exact ⟨fs, v, h, h2, (wCaus_iff h (by simp)).mpr ⟨rfl, es, h3, q⟩⟩
theorem looks_len {fs : List (Str × D)} : ∀ {fl : List Str} {ds : List D}, looks fs fl = some ds → ds.length = fl.length
  | [], ds, h => by cases h; rfl
  | f :: r, ds, h => by
    rw [looks] at h
    cases h2 : fs.lookup f with
    | none => rw [h2] at h; cases h
    | some v =>
      rw [h2] at h
      cases h3 : looks fs r with
      | none => rw [h3] at h; cases h
      | some es =>
        rw [h3] at h
        cases h
        rw [List.length_cons, List.length_cons, looks_len h3]
theorem faultN_hds {K : PySem.W.Frag} {ad : Str → Addr} {P : Posts} {R : D → Nat → Prop} {C : Addr} {fs : List (Str × D)} {m : Nat} {v : V} {c1 c2 : Cell} (hP : ∀ d m', P.nx [.raw v, .dat d, .un] m' = R d m') : ∀ {tbl : List (Str × Str × List Str)}, (∀ e ∈ tbl, e.2.2 ≠ [] ∧ e.2.2.length ≤ 100) →
    (wHds K (fun _ _ _ _ => False) P (tbl.map (fHd ad 2)) C fs [.raw v, c1, c2] m ↔ faultN K ad R C fs m tbl)
  | [], _ => Iff.rfl
  | e :: r, he => by
    have plain : ∀ d : D, PlainE [.raw v, .dat d, .un] := fun d i k h => by
      match i, h with
      | 0, h => cases h; trivial
      | 1, h => cases h; trivial
      | 2, h => cases h; trivial
    have ih := faultN_hds (K := K) (ad := ad) (C := C) (fs := fs) (m := m) (c1 := c1) (c2 := c2) hP (tbl := r) fun e h => he e (List.mem_cons_of_mem _ h)
    obtain ⟨h1, h2⟩ := he e (List.mem_cons_self ..)
    constructor
    · rintro ⟨b, hb, y, n⟩
      refine ⟨b, hb, fun z => ?_, fun z => ih.mp (n z)⟩
      obtain ⟨e1, ds, hl, _, _, q⟩ := (wCaus_iff (D0 := C) (fs := fs) (ρ := [.raw v, c1, .cau C fs]) rfl h1).mp (y z)
      refine ⟨e1.symm, ds, hl, ?_⟩
      rw [← hP]
      exact q
    · rintro ⟨b, hb, y, n⟩
      refine ⟨b, hb, fun z => ?_, fun z => ih.mpr (n z)⟩
      obtain ⟨e1, ds, hl, q⟩ := y z
      refine (wCaus_iff (D0 := C) (fs := fs) (ρ := [.raw v, c1, .cau C fs]) rfl h1).mpr ⟨e1.symm, ds, hl, ?_, plain _, ?_⟩
      · show ds.length + 1 ≤ sizeLine
        rw [looks_len hl]
        exact Nat.le_trans (show e.2.2.length + 1 ≤ 101 by omega) (by decide)
      · rw [← hP] at q
        exact q
/-- which clause takes which error: the one of its own class -/
def ExmT (K : PySem.W.Frag) (ad : Str → Addr) (tbl : List (Str × Str × List Str)) : Prop := ∀ x ∈ tbl.map (·.1), ∀ e ∈ tbl, PySem.W.exmOne K (.ref (ad x)) (.ref (ad e.1)) = some (decide (x = e.1))
def exmB (K : PySem.W.Frag) (ad : Str → Addr) (tbl : List (Str × Str × List Str)) : Bool := (tbl.map (·.1)).all fun x => tbl.all fun e => decide (PySem.W.exmOne K (.ref (ad x)) (.ref (ad e.1)) = some (decide (x = e.1)))
theorem exmT_of {K : PySem.W.Frag} {ad : Str → Addr} {tbl : List (Str × Str × List Str)} (h : exmB K ad tbl = true) : ExmT K ad tbl := fun x hx e he => of_decide_eq_true (List.all_eq_true.mp (List.all_eq_true.mp h x hx) e he)
theorem fault_at {K : PySem.W.Frag} {ad : Str → Addr} {tbl : List (Str × Str × List Str)} (X : ExmT K ad tbl) {R : D → Nat → Prop} (x : Str) {w : Str} {fl : List Str} {fs : List (Str × D)} {ds : List D} {m : Nat} (hm : tbl.find? (fun e => decide (x = e.1)) = some (x, w, fl)) (hl : looks fs fl = some ds) (hR : R (.tup (.str w :: ds)) m) : faultN K ad R (ad x) fs m tbl :=
  faultN_hit hl hR (X x (List.mem_map_of_mem (f := (·.1)) (List.mem_of_find?_eq_some hm))) hm
/-- as walk_tabs, for several defs that make lambdas -/
theorem walk_tabsN {l : PySem.W.OpenLaw} {n k : Nat} {q : Program} {loose : List Str} {XP : (Str → Option Value) → Heap → Prop} {YP : World → Heap → Prop} {d : DefRec} {K : Params → PySem.W.Frag} {CX : World → CXT} {x : Str} (nms : List Str)
    (most : l.most = some n) (small : n ≤ sizeLine) (plain : d.params.defaults = []) (room : Room k callerA) (rec' : (nms.all fun nm => (recsOf q).any fun r => r.name == nm) = true) (part : ∀ (w : World) (h : Heap), YP w h → (K w.params).In h)
    (named : ∀ w : World, (nms.all fun nm => decide (PySem.W.nsIn (K w.params) mainGlobals nm = some (some (.ref (adr (K w.params) nm))))) = true)
    (F : ∀ (w : World) (mg : Str → Option Value) (fa : Addr) (h : Heap), YP w h → (K w.params).In h → h.Ns mainGlobals mg → mg d.name = some (.ref fa) → (∀ nm ∈ nms, OwnTab (K w.params) (adr (K w.params) nm) h) → LawAtS l w (K w.params) (CX w) k n x mg fa h)
    (none' : ∀ (w : World) (H : Hp) (s : Shared) (e : Value) (s' : Shared), CX w [] H s (fun _ _ _ => False) e s' → False) :
    PySem.W.WalkO q loose XP YP l.row.toRowW d [] (fun f vs => PySem.call f vs) := by
  refine Att.attach_callB most plain fun w s0 s1 mg mb fa o pm cd doc a vs ns G Y ho hd hcd hmg hobj hints hlen hbits hg => ?_
  have KX := part w _ Y
  have tabs : ∀ nm ∈ nms, OwnTab (K w.params) (adr (K w.params) nm) s1.heap := by
    intro nm hnm c P o1 fd1 e dd vs1 sl k1 k2 k3 k4 k5
    obtain ⟨r, hr, hn⟩ := List.any_eq_true.mp (List.all_eq_true.mp rec' nm hnm)
    obtain ⟨a', o', fd', c', P', h1, h2, h3, h4, h5, ⟨oc, vc, e1, _, e3, e4⟩, emp⟩ := G.T.tab r hr
    rw [show r.name = nm from beq_iff_eq.mp hn, PySem.W.mg_of KX G.T.g (of_decide_eq_true (List.all_eq_true.mp (named w) nm hnm))] at h1
    cases h1
    cases (KX _ _ k1).symm.trans h2
    cases k2.symm.trans h3
    cases k3.symm.trans h4
    cases (KX _ _ k4).symm.trans e1
    cases e3
    cases k5.symm.trans e4
    exact emp
  obtain ⟨fd, cs, sp, hT, nT, C, hb, hsp, hF⟩ := F w mg fa _ Y KX G.T.g hmg tabs
  exact law_callTs KX G.T.g G.T.b G.T.builtins G.T.nolimit hg hT nT C G.T.bmain hobj hints (Nat.le_trans hlen small) room hF hb (fun H hH hS => hsp H a ns hlen hbits hH hS) fun H e s' => none' w H s1 e s'
end DW

/-! DW39: list(range(a, b)), list(range(n)) as new lists. -/
namespace DW
open PySem PySem.Spec PyProof.Rows L2
section
variable {X : Cx} {c : C0} {a b : Expr} {wa wb : WE} {pos p p2 p3 : Pos}
theorem repA_rg {pp : Option Addr} {K : PySem.W.Frag} {H : Hp} (lo hi : Int) : RepA pp K H (rgV lo hi) (rngD lo hi) := by
  unfold rgV rngD
  generalize List.range (hi - lo).toNat = l
  induction l with
  | nil => exact .nil
  | cons k r ih => exact .cons (.int _) ih
def wLRg2 (wa wb : WE) : WA := fun ρ m Q => wa ρ m fun x m1 => wb ρ m1 fun y m2 => match x, y with
  | .int i, .int j => RgOk i j ∧ Q (rngD i j) m2
  | _, _ => False
def dl_listRg2 (hc : X.calm = true) (hg : Gl X "list") (hm : X.mg "list" = none) (hg2 : Gl X "range") (hm2 : X.mg "range" = none) (ha : DE X c a wa) (hb : DE X c b wb)
    (na : starEach [a, b] X.env = (false, eval a X.env) :: starEach [b] X.env := by rfl) (nb : starEach [b] X.env = (false, eval b X.env) :: starEach [] X.env := by rfl) (hp : (backTo pos (starEach [b] X.env)).any (·.1) = false := by rfl)
    (ne : starEach [.Call (.Name "range" p2) [a, b] [] pos] X.env = (false, eval (.Call (.Name "range" p2) [a, b] [] pos) X.env) :: starEach [] X.env := by rfl) :
    DL X c (.Call (.Name "list" p) [.Call (.Name "range" p2) [a, b] [] pos] [] p3) (wLRg2 wa wb) := by
  obtain ⟨ta, pa, ra⟩ := ha
  obtain ⟨tb, pb, rb⟩ := hb
  refine ⟨_, pe_listRg hc hg hm (prg_2 hg2 hm2 pa pb na nb hp) ne, fun A ρ m σ H G Q Qv hw k => ?_⟩
  refine ra A ρ m σ H G _ _ hw fun v d m1 H1 G1 k1 r1 q1 => ?_
  refine rb A ρ m1 σ H1 G1 _ _ q1 fun u e m2 H2 G2 k2 r2 q2 => ?_
  split at q2
  · cases r1
    cases r2
    refine ⟨_, _, rfl, rfl, q2.1, fun q hq => ?_⟩
    obtain ⟨g1, g2, g3, g4, g5⟩ := fresh_list G2 hq (repA_rg _ _)
    exact k q _ _ m2 _ g1 g2 (none_back G1 k1 (none_back G2 k2 hq)) (k1.trans (k2.trans g3)) g4 g5 q2.2
  · cases q2
end
end DW

/-! DW40: found.append(left.pop(e)) of two lists of one's own; an item of a list of one's own; a list times an int. -/
namespace DW
open PySem PySem.Spec PyProof.Rows L2
section
variable {X : Cx} {c : C0} {a b e : Expr} {wa wb we : WE} {pos p p2 p3 : Pos}
theorem RepA.erase {pp : Option Addr} {K : PySem.W.Frag} {H : Hp} : ∀ {vs : List V} {ds : List D} (i : Nat), RepA pp K H vs ds → RepA pp K H (vs.eraseIdx i) (ds.eraseIdx i)
  | _, _, _, .nil => .nil
  | _, _, 0, .cons _ r => r
  | _, _, i + 1, .cons h r => .cons h (RepA.erase i r)
theorem seqIx_nat {k n : Nat} (h : k < n) : seqIndex? (k : Int) n = some k := by
  unfold seqIndex?
  have h0 : ¬ ((k : Int) < 0) := by omega
  rw [if_neg h0]
  have h1 : (decide (0 ≤ (k : Int)) && decide ((k : Int) < (n : Int))) = true := by
    rw [decide_eq_true (by omega : (0 : Int) ≤ k), decide_eq_true (by omega : (k : Int) < n)]
    rfl
  simp only [h1]
  rfl
theorem chg_ext {A : List Addr} {H : Hp} {l : Addr} {o : HO} (h : l ∈ A) : Ext (cut A H) (cut A (upd H l o)) := fun b u e => by
  obtain ⟨n, q⟩ := cut_some e
  have nb : b ≠ l := fun z => n (by rw [z]; exact h)
  exact cut_of n (by rw [upd_ne nb]; exact q)
def wAppPop (i j : Nat) (we : WE) : WS := fun P ρ m => match ρ[i]?, ρ[j]? with
  | some (.own (.lst ds)), some (.own (.lst es)) => we ρ m fun d m1 => ∃ (k : Nat) (y : D), d = .int (k : Int) ∧ k < 1000000000000 ∧ es[k]? = some y ∧ ds.length < 10000000 ∧ P.nx ((ρ.set j (.own (.lst (es.eraseIdx k)))).set i (.own (.lst (ds ++ [y])))) m1
  | _, _ => False
def ds_appPop {call : Expr} {i j : Nat} (hij : i ≠ j) (hp : ∀ te, PE X e te → PE X call (tBM X.K "list" rAppend (tVar i) (tCons (tBM X.K "list" rPopAt (tVar j) (tCons te tNil)) tNil))) (h : DE X c e we) (hs : swapsWith call none pos.line X.env = pure false := by rfl) : DS X c (.Expr call pos) (wAppPop i j we) := by
  obtain ⟨t, pe, r⟩ := h
  refine ⟨_, ps_expr (hp t pe) hs, fun A ρ m σ H G P F hw n rt b ct => ?_⟩
  unfold wAppPop at hw
  split at hw
  case h_2 => cases hw
  rename_i ds es e1 e2
  obtain ⟨l, u, h1, h2, h3, h4, h5, h6⟩ := G.cell i _ e1
  obtain ⟨l2, u2, i1, i2, i3, i4, i5, i6⟩ := G.cell j _ e2
  have nl : l ≠ l2 := fun z => h6 j _ (Ne.symm hij) e2 (by rw [z]; exact i1)
  cases h5 with | lst h5 =>
  cases i5 with | lst i5 =>
  refine ⟨_, h1, .inl ⟨rfl, _, SqL.of h4⟩, _, i1, .inl ⟨rfl, _, SqL.of i4⟩, r A ρ m σ H G _ _ hw fun v d m1 H1 G1 k1 r1 q1 => ?_⟩
  obtain ⟨k, y, rfl, hk, hy, hl, q1⟩ := q1
  cases r1
  obtain ⟨l', ys, g1, g2, g3, g4, g5, g6⟩ := G1.cell i _ e1
  rw [h1] at g1
  cases g1
  cases g5 with | lst g5 =>
  obtain ⟨l2', zs, j1, j2, j3, j4, j5, j6⟩ := G1.cell j _ e2
  rw [i1] at j1
  cases j1
  cases j5 with | lst j5 =>
  obtain ⟨vy, hvy, ry⟩ := j5.get hy
  have hk2 : k < es.length := (List.getElem?_eq_some_iff.mp hy).1
  refine ⟨l2, _, (k : Int), k, vy, rfl, rfl, j4, by omega, by omega, by rw [j5.length]; exact seqIx_nat hk2, hvy, ?_⟩
  have G2 := G1.chg e2 i1 (OwnO.lst (j5.erase k))
  have e1' : (ρ.set j (.own (.lst (es.eraseIdx k))))[i]? = some (.own (.lst ds)) := by rw [List.getElem?_set_ne (Ne.symm hij)]; exact e1
  obtain ⟨l'', ys', f1, f2, f3, f4, f5, f6⟩ := G2.cell i _ e1'
  rw [h1] at f1
  cases f1
  cases f5 with | lst f5 =>
  refine ⟨l, _, vy, rfl, rfl, f4, ?_, ?_⟩
  · rw [f5.length]
    exact Nat.lt_of_lt_of_le hl (by decide)
  · exact n A _ m1 σ _ (G2.chg e1' h1 (.lst (f5.append (.one (ry.ext (chg_ext j2)))))) ⟨fun b o nb e => by
      have nb1 : b ≠ l := fun z => nb (by rw [z]; exact h2)
      have nb2 : b ≠ l2 := fun z => nb (by rw [z]; exact i2)
      rw [upd_ne nb1, upd_ne nb2]
      exact k1.grow G.toBase b o nb e, fun a h => .inl h⟩ q1
/-- an item of a list of one's own -/
def wSubOwn (i : Nat) (we : WE) : WE := fun ρ m Q => match ρ[i]? with
  | some (.own (.lst ds)) => we ρ m fun d m1 => ∃ k y, d = .int k ∧ atI ds k = some y ∧ Q y m1
  | _ => False
def de_subOwn (i : Nat) {x : Str} (hN : X.N[i]? = some x) (hv : Vis X.env.scope x) (hb : DE X c b wb) (hs : PlainIx b) (hd : (x == ("__debug__" : Str)) = false := by decide) (hcd : (x == ("__classdict__" : Str)) = false := by decide) : DE X c (.Subscript (.Name x p) b pos) (wSubOwn i wb) := by
  obtain ⟨tb, pb, rb⟩ := hb
  refine ⟨_, pe_ix ix_seq (pe_var hN hv hd hcd) pb hs, fun A ρ m σ H G Q Qv hw k => ?_⟩
  unfold wSubOwn at hw
  split at hw
  case h_2 => cases hw
  rename_i ds e1
  obtain ⟨l, u, h1, h2, h3, h4, h5, h6⟩ := G.cell i _ e1
  refine ⟨_, h1, rb A ρ m σ H G _ _ hw fun v d m1 H1 G1 k1 r1 q1 => ?_⟩
  obtain ⟨kk, y, rfl, hy, q⟩ := q1
  cases r1
  obtain ⟨l', ys, g1, g2, g3, g4, g5, g6⟩ := G1.cell i _ e1
  rw [h1] at g1
  cases g1
  cases g5 with | lst g5 =>
  obtain ⟨vy, h3', r3⟩ := repA_at g5 hy
  exact .inl ⟨_, _, _, vy, rfl, rfl, SqL.of g4, h3', k vy y m1 H1 G1 k1 r3 q⟩
/-- a list times an int -/
theorem RepA.rep {pp : Option Addr} {K : PySem.W.Frag} {H : Hp} {vs : List V} {ds : List D} (r : RepA pp K H vs ds) : ∀ k : Nat, RepA pp K H (List.replicate k vs).flatten (List.replicate k ds).flatten
  | 0 => .nil
  | k + 1 => by
    rw [List.replicate_succ, List.replicate_succ, List.flatten_cons, List.flatten_cons]
    exact r.append (RepA.rep r k)
def wRep (wa wb : WE) : WA := fun ρ m Q => wa ρ m fun x m1 => wb ρ m1 fun y m2 => match x, y with
  | .lst ds, .int k => (-(2 ^ 63) ≤ k ∧ k < 2 ^ 63 ∧ ds.length * k.toNat ≤ sizeLine) ∧ Q (List.replicate k.toNat ds).flatten m2
  | _, _ => False
def dl_rep (ha : DE X c a wa) (hb : DE X c b wb) : DL X c (.BinOp a .Mult b pos) (wRep wa wb) := by
  obtain ⟨ta, pa, ra⟩ := ha
  obtain ⟨tb, pb, rb⟩ := hb
  refine ⟨_, pe_op op_rep pa pb, fun A ρ m σ H G Q Qv hw k => ?_⟩
  refine ra A ρ m σ H G _ _ hw fun v d m1 H1 G1 k1 r1 q1 => ?_
  refine rb A ρ m1 σ H1 G1 _ _ q1 fun u e m2 H2 G2 k2 r2 q2 => ?_
  split at q2
  · cases r2
    cases r1 with
    | lst h1 r1 =>
      have h1' := k2.grow G1.toBase _ _ (cut_some h1).1 (cut_some h1).2
      have rr := r1.ext (k2.grow G1.toBase).cut
      refine ⟨_, _, _, rfl, rfl, h1', q2.1.1, q2.1.2.1, by rw [r1.length]; exact q2.1.2.2, fun q hq => ?_⟩
      obtain ⟨g1, g2, g3, g4, g5⟩ := fresh_list G2 hq (rr.rep _)
      exact k q _ _ m2 _ g1 g2 (none_back G1 k1 (none_back G2 k2 hq)) (k1.trans (k2.trans g3)) g4 g5 q2.2
  · cases q2
def wLRg1 (wa : WE) : WA := fun ρ m Q => wa ρ m fun x m1 => match x with
  | .int j => RgOk 0 j ∧ Q (rngD 0 j) m1
  | _ => False
def dl_listRg1 (hc : X.calm = true) (hg : Gl X "list") (hm : X.mg "list" = none) (hg2 : Gl X "range") (hm2 : X.mg "range" = none) (ha : DE X c a wa)
    (na : starEach [a] X.env = (false, eval a X.env) :: starEach [] X.env := by rfl)
    (ne : starEach [.Call (.Name "range" p2) [a] [] pos] X.env = (false, eval (.Call (.Name "range" p2) [a] [] pos) X.env) :: starEach [] X.env := by rfl) :
    DL X c (.Call (.Name "list" p) [.Call (.Name "range" p2) [a] [] pos] [] p3) (wLRg1 wa) := by
  obtain ⟨ta, pa, ra⟩ := ha
  refine ⟨_, pe_listRg hc hg hm (prg_1 hg2 hm2 pa na) ne, fun A ρ m σ H G Q Qv hw k => ?_⟩
  refine ra A ρ m σ H G _ _ hw fun v d m1 H1 G1 k1 r1 q1 => ?_
  split at q1
  · cases r1
    refine ⟨_, rfl, q1.1, fun q hq => ?_⟩
    obtain ⟨g1, g2, g3, g4, g5⟩ := fresh_list G1 hq (repA_rg _ _)
    exact k q _ _ m1 _ g1 g2 (none_back G1 k1 hq) (k1.trans g3) g4 g5 q1.2
  · cases q1
end
end DW

/-! DW41: len of a list of one's own. -/
namespace DW
open PySem PySem.Spec PyProof.Rows L2
section
variable {X : Cx} {c : C0} {a b e : Expr} {wa wb we : WE} {pos p p2 p3 : Pos}
def wLenOwn (i : Nat) : WE := fun ρ m Q => match ρ[i]? with
  | some (.own (.lst ds)) => Q (.int (ds.length : Int)) m
  | _ => False
def de_lenOwn (i : Nat) {x : Str} (hg : Gl X "len") (hm : X.mg "len" = none) (hv : bootBuiltins "len" = some (.builtin "len")) (hN : X.N[i]? = some x) (hvis : Vis X.env.scope x) (hd : (x == ("__debug__" : Str)) = false := by decide) (hcd : (x == ("__classdict__" : Str)) = false := by decide)
    (he : starEach [.Name x p] X.env = (false, eval (.Name x p) X.env) :: starEach [] X.env := by rfl) : DE X c (.Call (.Name "len" p2) [.Name x p] [] pos) (wLenOwn i) := by
  refine ⟨_, pe_callB call_len hg hm hv (pa_cons (pe_var hN hvis hd hcd) pa_nil) (by decide) (by decide) he rfl, fun A ρ m σ H G Q Qv hw k => ?_⟩
  unfold wLenOwn at hw
  split at hw
  case h_2 => cases hw
  rename_i ds e1
  obtain ⟨l, u, h1, h2, h3, h4, h5, h6⟩ := G.cell i _ e1
  cases h5 with | lst h5 =>
  exact ⟨_, h1, _, _, rfl, .inl ⟨_, SqL.of h4, h5.length.symm⟩, k _ _ m H G Keep.refl (.int _) hw⟩
end
end DW

/-! DW42: methods of own classes; a field of what is being made; self.f, self.g = e; defs whose errors are all the caller's. -/
namespace DW
open PySem PySem.Spec PyProof.Rows L2
/-! ### methods -/
structure DMt (P : Program) (w : World) (K : PySem.W.Frag) (T : List (Addr × Str)) (mg : Str → Option Value) (base : Heap) (k : Nat) (C : Addr) (m : Str) (fw : FWX) : Prop where
  ex : ∃ (f : Addr) (fd : FuncData) (ps : List Str), Cls K C ∧ Meth K C m f ∧ FnOk P w K mg base (L2.CX P w) k f fd ps (spDX K T fw) ∧ Binds K fd ps []
def wMeth (wx : WD) (C : Addr) (m : Str) (fw : FWX) (wa : WE) (wr : WA) : WE := fun ρ n Q => wa ρ n fun d n1 => ∃ fs, d = .obj C fs ∧ fs.lookup m = none ∧ wr ρ n1 fun ds n2 => fw (d :: ds) n2 Q fun C' gs n3 => wx C' gs ρ n3
section
variable {X : Cx} {c : C0} {e o b : Expr} {es : List Expr} {wa wb we : WE} {wr : WA} {m f : Str} {C : Addr} {pos apos p p2 : Pos} {k j : Nat} {fw : FWX}
theorem rd_meth {ta : TE} {t : TA} {E : XK} {wx : WD} (hW : RelW X.K c (fun cls d _ H => E cls d H) wx) (ra : RdE X.K c ta wa) (rr : RdA X.K c t wr) : RdE X.K c (tMeth C m (spDX X.K c.T fw) [] E ta t) (wMeth wx C m fw wa wr) := fun A ρ n σ H G Q Qv hw kq => by
  refine ra A ρ n σ H G _ _ hw fun v d n1 H1 G1 k1 r1 q1 => ?_
  obtain ⟨fs, rfl, hl, q1⟩ := q1
  cases r1 with
  | obj ea rf =>
    refine ⟨_, _, _, rfl, (cut_some ea).2, rf.none hl, ?_⟩
    refine rr A ρ n1 σ H1 G1 _ _ q1 fun vs ds n2 H2 G2 k2 r2 q2 => ?_
    rw [List.append_nil]
    have ea2 := (k2.grow G1.toBase).cut _ _ ea
    have rf2 := rf.ext (k2.grow G1.toBase).cut
    refine ⟨c.p, c.cc, A, _, n2, Q, fun C' gs n3 => wx C' gs ρ n3, .cons (.obj ea2 rf2) r2, G2.ctx, q2, fun v d m' H' kp pn rep q => ?_, fun cls d C fs m' H' kp pn xr q => ?_⟩
    · exact kq v d m' H' (G2.step kp pn) (k1.trans (k2.trans kp)) rep q
    · exact hW A ρ m' σ H' (G2.step kp pn) cls d C fs xr q
def de_meth {pl : Sem Bool} {E : XK} {wx : WD} (M : DMt X.prog X.w X.K c.T X.mg X.base k C m fw) (tk : Takes X (fun cls d _ H => E cls d H)) (hW : RelW X.K c (fun cls d _ H => E cls d H) wx) (hr : Room j X.A) (hk : k ≤ j) (ho : DE X c o wa) (ha : DA X c (e :: es) wr)
    (hst : starEach (e :: es) X.env = (false, eval e X.env) :: starEach es X.env := by rfl) (hpl : (backTo pos (starEach es X.env)).any (·.1) = false := by rfl)
    (ht : eval (.Call (.Attribute o m apos) (e :: es) [] pos) X.env = (do
      let ov ← eval o X.env
      standAt apos.atName
      let (f, first) ← holding [ov] (getMethod ov m pl)
      callWith pos f first (backTo pos (starEach (e :: es) X.env)) (backToKw pos (keywordEach [] X.env))) := by rfl) : DE X c (.Call (.Attribute o m apos) (e :: es) [] pos) (wMeth wx C m fw wa wr) :=
  ⟨tMeth C m (spDX X.K c.T fw) [] E ho.t ha.t, by
    obtain ⟨f, fd, ps, h1, h2, h3, h4⟩ := M.ex
    exact pe_meth ho.pe h1 h2 h3 (hr.mono hk) h4 .nil (passes_call tk fun _ _ _ _ z => z) ha.pe hst hpl ht, rd_meth hW ho.rd ha.rd⟩
def de_meth0 {pl : Sem Bool} {E : XK} {wx : WD} (M : DMt X.prog X.w X.K c.T X.mg X.base k C m fw) (tk : Takes X (fun cls d _ H => E cls d H)) (hW : RelW X.K c (fun cls d _ H => E cls d H) wx) (hr : Room j X.A) (hk : k ≤ j) (ho : DE X c o wa)
    (ht : eval (.Call (.Attribute o m apos) [] [] pos) X.env = (do
      let ov ← eval o X.env
      standAt apos.atName
      let (f, first) ← holding [ov] (getMethod ov m pl)
      callWith pos f first (backTo pos (starEach [] X.env)) (backToKw pos (keywordEach [] X.env))) := by rfl) : DE X c (.Call (.Attribute o m apos) [] [] pos) (wMeth wx C m fw wa wNil) :=
  ⟨tMeth C m (spDX X.K c.T fw) [] E ho.t tNil, by
    obtain ⟨f, fd, ps, h1, h2, h3, h4⟩ := M.ex
    exact pe_meth0 ho.pe h1 h2 h3 (hr.mono hk) h4 .nil (passes_call tk fun _ _ _ _ z => z) ht, rd_meth hW ho.rd (da_nil (X := X) (c := c)).rd⟩
/-- such a call's exceptions, where none is wished -/
theorem relNo {K : PySem.W.Frag} : RelW K c (fun cls d _ H => (fun _ _ _ => False : XK) cls d H) (fun _ _ _ _ => False) := fun _ _ _ _ _ _ _ _ _ _ _ z => z.elim
/-! ### a field of what is being made -/
def wFldOwn (K : PySem.W.Frag) (f : Str) (i : Nat) : WE := fun ρ n Q => match ρ[i]? with
  | some (.own (.ins _ C fs)) => Cls K C ∧ NoAttr K C f ∧ ∃ v, fs.lookup f = some v ∧ Q v n
  | _ => False
def de_fldOwn (i : Nat) {x : Str} {K : PySem.W.Frag} (hK : X.K = K) (hN : X.N[i]? = some x) (hv : Vis X.env.scope x) (hd : (x == ("__debug__" : Str)) = false := by decide) (hcd : (x == ("__classdict__" : Str)) = false := by decide)
    (hb : attributeBase (.Name x p) f X.env (eval (.Name x p) X.env) = eval (.Name x p) X.env := by rfl) : DE X c (.Attribute (.Name x p) f pos) (wFldOwn K f i) := by
  subst hK
  refine ⟨_, pe_fld (pe_var hN hv hd hcd) hb, fun A ρ n σ H G Q Qv hw k => ?_⟩
  unfold wFldOwn at hw
  split at hw
  case h_2 => cases hw
  rename_i x0 C fs e1
  obtain ⟨hC, hf, v, hl, q⟩ := hw
  obtain ⟨l, u, h1, h2, h3, h4, h5, h6⟩ := G.cell i _ e1
  cases h5 with | ins r5 =>
  obtain ⟨y, hy, ry⟩ := r5.look hl
  exact ⟨_, h1, _, C, _, _, y, rfl, h4, hC, hf, hy, k y v n H G Keep.refl ry q⟩
/-! ### self.f, self.g = e -/
def gAttr (K : PySem.W.Frag) (to : TE) (f : Str) : TG := fun v σ H Q => to σ H fun x H2 => ∃ a C dx fs, x = .ref a ∧ H2 a = some (.ins C dx fs) ∧ Cls K C ∧ NoAttr K C f ∧ fs.length < 1000 ∧ Q σ (upd H2 a (.ins C dx (putF f v fs)))
theorem pg_attr {to : TE} (ho : PE X o to) : PG X (.Attribute o f pos) (gAttr X.K to f) := by
  refine ⟨fun pins s σ H v u Q I r h => ?_⟩
  refine PySem.W.kas_attr (thn (ho.run pins s σ H _ I h) fun ov s2 ⟨x, H2, I2, rx, a, C, dx, fs, ex, ea, c, n, l, q2⟩ => ?_)
  subst ex
  obtain rfl : ov = Value.ref a := rx
  exact setattr_ok I2 ea c n l r fun s3 I3 => ⟨σ, _, I3, q2⟩
def wSto2 (K : PySem.W.Frag) (i : Nat) (f g : Str) (we : WE) : WS := fun P ρ n => we ρ n fun d n1 => match ρ[i]?, d with
  | some (.own (.ins x C fs)), .tup [a, b] => Cls K C ∧ NoAttr K C f ∧ NoAttr K C g ∧ fs.length < 999 ∧ P.nx (ρ.set i (.own (.ins x C (putD g b (putD f a fs))))) n1
  | _, _ => False
theorem putD_len {f : Str} {d : D} : ∀ {fs : List (Str × D)}, (putD f d fs).length ≤ fs.length + 1
  | [] => Nat.le_refl _
  | (g, x) :: r => by
    unfold putD
    split
    · show r.length + 1 ≤ _
      rw [List.length_cons]
      omega
    · have := putD_len (f := f) (d := d) (fs := r)
      rw [List.length_cons, List.length_cons]
      omega
theorem upd_twice {H : Hp} {a : Addr} {o u : HO} : upd (upd H a o) a u = upd H a u := upd_upd
def ds_sto2 {g y : Str} {i : Nat} {K : PySem.W.Frag} {kk : Nat} {p1 p2 p3 p4 pt : Pos} (hK : X.K = K) (hc : X.calm = true) (hN : X.N[i]? = some y) (hv : Vis X.env.scope y) (h : DE X c e we) (hd : (y == ("__debug__" : Str)) = false := by decide) (hcd : (y == ("__classdict__" : Str)) = false := by decide)
    (hs : swapsWithSole [.Tuple [.Attribute (.Name y p1) f p2, .Attribute (.Name y p3) g p4] kk pt] e pos.line X.env = pure false := by rfl)
    (hw : swappedStores [.Tuple [.Attribute (.Name y p1) f p2, .Attribute (.Name y p3) g p4] kk pt] e X.env = pure none := by rfl)
    (h1 : (assignEach [.Tuple [.Attribute (.Name y p1) f p2, .Attribute (.Name y p3) g p4] kk pt] X.env).map (·.2) = [assign (.Tuple [.Attribute (.Name y p1) f p2, .Attribute (.Name y p3) g p4] kk pt) X.env] := by rfl)
    (ha : (assignEach [.Attribute (.Name y p1) f p2, .Attribute (.Name y p3) g p4] X.env).map (·.2) = assign (.Attribute (.Name y p1) f p2) X.env :: (assignEach [.Attribute (.Name y p3) g p4] X.env).map (·.2) := by rfl)
    (hb : (assignEach [.Attribute (.Name y p3) g p4] X.env).map (·.2) = assign (.Attribute (.Name y p3) g p4) X.env :: (assignEach [] X.env).map (·.2) := by rfl)
    (hn : (assignEach [.Attribute (.Name y p1) f p2, .Attribute (.Name y p3) g p4] X.env).length = 2 := by rfl) (hst : (assignEach [.Attribute (.Name y p1) f p2, .Attribute (.Name y p3) g p4] X.env).findIdx? (·.1) = none := by rfl) :
    DS X c (.Assign [.Tuple [.Attribute (.Name y p1) f p2, .Attribute (.Name y p3) g p4] kk pt] e pos) (wSto2 K i f g we) := by
  subst hK
  refine ⟨_, ps_asg h.pe (pg_tup hc (pgs_cons (pg_attr (pe_var hN hv hd hcd)) (pgs_cons (pg_attr (pe_var hN hv hd hcd)) pgs_nil hb) ha) hn hst) hs hw h1, fun A ρ n σ H G P F hw n0 rt bk ct => ?_⟩
  refine h.rd A ρ n σ H G _ _ hw fun v d n1 H1 G1 k1 r1 q1 => ?_
  split at q1
  case h_2 => cases q1
  rename_i x C fs a b e1
  obtain ⟨hC, hf, hg, hl, q⟩ := q1
  cases r1 with
  | tup hq rr =>
    cases rr with
    | cons ra rr =>
      cases rr with
      | cons rb rr =>
        cases rr
        obtain ⟨l, u, h1, h2, h3, h4, h5, h6⟩ := G1.cell i _ e1
        cases h5 with | ins r5 =>
        refine ⟨_, _, rfl, SqT.uncut hq, rfl, _, _, rfl, _, h1, _, C, _, _, rfl, h4, hC, hf, by rw [r5.len]; omega, _, _, rfl, _, h1, _, C, _, _, rfl, upd_same, hC, hg, ?_, rfl, ?_⟩
        · have r6 := r5.put (f := f) ra
          rw [r6.len]
          exact Nat.lt_of_le_of_lt putD_len (by omega)
        · rw [upd_upd]
          refine n0 A _ n1 σ _ (G1.chg e1 h1 (.ins ((r5.put ra).put rb))) ⟨fun b o nb e => ?_, fun a h => .inl h⟩ q
          have nl : b ≠ x := fun z => nb (by rw [z]; exact h2)
          rw [upd_ne nl]
          exact k1.grow G.toBase b o nb e
/-! ### x not in row -/
def notinD : D → D → (D → Prop) → Prop := fun d e Q => inD d e fun z => match z with
  | .bl b => Q (.bl (!b))
  | _ => False
end
/-- a def that may let an exception out, all of it to its caller -/
theorem fn_dataXE {P : Program} {w : World} {K : PySem.W.Frag} {T : List (Addr × Str)} {mg : Str → Option Value} {base : Heap} {x qual : Str} {st : Stmt} {f : Addr} {fd : FuncData} {N ps : List Str} {k : Nat} {fw : FWX} {wb : WD → WS} (F : Fun K x qual st f fd) (S : FnScope N ps (defScope st)) (ar : ∀ ds m Q QX, fw ds m Q QX → ds.length = ps.length)
    (hbody : ∀ (cdv : Value) (A : Around) (outer : List PySem.Env) (s : Shared) (H : Hp) (E : XK) (p : Option Addr) (cc : Addr) (B : List Addr) (wx : WD), Room k (A.deeper (PyProof.Rows.envOfC qual (defScope st) s.heap.objs.size f cdv)) → Takes (cxOf (L2.CX P w) P w K mg base N qual (defScope st) f cdv A outer s H E) (fun cls d _ H => E cls d H) → RelW K (c00 T p cc B H) (fun cls d _ H => E cls d H) wx → fd.code = cdv →
      DSs (cxOf (L2.CX P w) P w K mg base N qual (defScope st) f cdv A outer s H E) (c00 T p cc B H) (defBody st) (wb wx))
    (hw : ∀ ds m Q QX, fw ds m Q QX → wb (fun C fs _ m => QX C fs m) { nx := fun _ m => Q .non m, rt := Q } (initE N.length ds) m) : FnOk P w K mg base (L2.CX P w) (k + 1) f fd ps (spDX K T fw) := by
  refine FnG.ok (fnG_of (g := false) F S (fun vs H Q E h => ?_) (fun cdv A outer s H vs Q E hr hg hcd h => ?_))
  · obtain ⟨p, cc, B, ds, m, R, RX, r, _, q, _⟩ := h
    rw [r.length]
    exact ar ds m R RX q
  · obtain ⟨p, cc, B, ds, m, R, RX, r, cx, q, k, kx⟩ := h
    have hW : RelW K (c00 T p cc B H) (fun cls d _ H => E cls d H) (fun C fs _ m => RX C fs m) := fun A' ρ' m' σ' H' G cls d C fs xr z => kx cls d C fs m' H' G.ex G.am (xr.ext (cut_sub G.sub)) z
    have d := hbody cdv A outer s H E p cc B _ hr (takes_of rfl rfl rfl rfl) hW hcd
    refine ⟨d.t, d.pe, ?_⟩
    refine d.rd B _ m _ H (start_good r cx) _ _ (hw ds m R RX q) (fun A' ρ' m' σ' H' G s p => ?_) (fun v d' A' m' H' G rep p => ?_) (fun _ _ _ _ _ _ _ z => z.elim) (fun _ _ _ _ _ _ _ z => z.elim)
    · exact k .non .non m' H' G.ex G.am .non p
    · exact k v d' m' H' G.ex G.am (rep.ext (cut_sub G.sub)) p
end DW

/-! DW43: rows = [[] for x in ..]; for t in ..: rows[key].append(item). -/
namespace DW
open PySem PySem.Spec PyProof.Rows L2
abbrev NoOwn (ρ : DW.Env) : Prop := ∀ (j : Nat) (es : Own), ρ[j]? ≠ some (.own es)
section
variable {K : PySem.W.Frag} {c : C0} {A N : List Addr} {ρ : DW.Env} {m : Nat} {σ : L2.St} {H H1 H2 : Hp}
/-- what is new becomes one's own -/
theorem Good.gain (G : Good K c A ρ m σ H1) (ex : Ext H1 H2) (nw : ∀ a ∈ N, H1 a = none ∧ ∃ o, H2 a = some o) (no : NoOwn ρ) : Good K c (N ++ A) ρ m σ H2 := by
  have G2 := G.ext ex
  have ec : Ext (cut A H1) (cut (N ++ A) H2) := fun b o h => by
    obtain ⟨n, e⟩ := cut_some h
    refine cut_of (fun z => ?_) (ex b o e)
    rcases List.mem_append.mp z with q | q
    · rw [(nw b q).1] at e
      cases e
    · exact n q
  refine ⟨⟨G2.ex, G2.ex0, G2.am, G2.pin, G2.tin, fun a h => List.mem_append_right _ (G.sub a h), fun a h => ?_, fun a h => ?_⟩, G.len, fun i k e => ?_⟩
  · rcases List.mem_append.mp h with q | q
    · exact .inr (G.none0 (nw a q).1)
    · exact G.new a q
  · rcases List.mem_append.mp h with q | q
    · exact (nw a q).2
    · exact G2.thr a q
  · have q := G.cell i k e
    cases k with
    | un => trivial
    | raw v => exact q
    | dat d =>
      obtain ⟨v, h1, h2⟩ := q
      exact ⟨v, h1, h2.ext ec⟩
    | cau _ _ =>
      obtain ⟨xa, xd, xe, h1, h2⟩ := q
      exact ⟨xa, xd, xe, h1, h2.ext ec⟩
    | own es => exact absurd e (no i es)
theorem Good.dropN (no : NoOwn ρ) : ∀ {N : List Addr}, Good K c (N ++ A) ρ m σ H → (∀ a ∈ c.A0, a ∈ A) → Good K c A ρ m σ H
  | [], G, _ => G
  | a :: N, G, h => Good.dropN no (N := N) (G.drop (fun b hb => List.mem_append_right _ (h b hb)) fun i es e => absurd e (no i es)) h
theorem Good.setUn (G : Good K c A ρ m σ H) (no : NoOwn ρ) (i : Nat) (v : Option V) : Good K c A (ρ.set i .un) m (σ.set i v) H := by
  refine ⟨G.toBase, by rw [List.length_set, List.length_set]; exact G.len, fun j k e => ?_⟩
  by_cases hj : i = j
  · subst hj
    have hl : i < ρ.length := by
      have := (List.getElem?_eq_some_iff.mp e).1
      rwa [List.length_set] at this
    rw [List.getElem?_set_self hl] at e
    cases e
    trivial
  · rw [List.getElem?_set_ne hj] at e
    have q := G.cell j k e
    cases k with
    | un => trivial
    | raw v' => exact (List.getElem?_set_ne hj).trans q
    | dat d' =>
      obtain ⟨v', h1, h2⟩ := q
      exact ⟨v', by rw [List.getElem?_set_ne hj]; exact h1, h2⟩
    | cau _ _ =>
      obtain ⟨xa, xd, xe, h1, h2⟩ := q
      exact ⟨xa, xd, xe, by rw [List.getElem?_set_ne hj]; exact h1, h2⟩
    | own ds => exact absurd e (no j ds)
theorem Good.know (G : Good K c A ρ m σ H) (no : NoOwn ρ) {i : Nat} {v : V} {d : D} (hv : σ[i]? = some (some v)) (r : Rep c.p K (cut A H) v d) : Good K c A (ρ.set i (.dat d)) m σ H := by
  refine ⟨G.toBase, by rw [List.length_set]; exact G.len, fun j k e => ?_⟩
  by_cases hj : i = j
  · subst hj
    have hl : i < ρ.length := by
      have := (List.getElem?_eq_some_iff.mp e).1
      rwa [List.length_set] at this
    rw [List.getElem?_set_self hl] at e
    cases e
    exact ⟨v, hv, r⟩
  · rw [List.getElem?_set_ne hj] at e
    have q := G.cell j k e
    cases k with
    | own ds => exact absurd e (no j ds)
    | _ => exact q
theorem NoOwn.set {ρ : DW.Env} (no : NoOwn ρ) (i : Nat) {k : Cell} (hk : ∀ es, k ≠ .own es) : NoOwn (ρ.set i k) := fun j es e => by
  by_cases hj : i = j
  · subst hj
    have hl : i < ρ.length := by
      have := (List.getElem?_eq_some_iff.mp e).1
      rwa [List.length_set] at this
    rw [List.getElem?_set_self hl] at e
    cases e
    exact hk es rfl
  · rw [List.getElem?_set_ne hj] at e
    exact no j es e
structure RowsAt (K : PySem.W.Frag) (p : Option Addr) (B : List Addr) (L : Addr) (as : List Addr) (H : Hp) (rs : List (List D)) : Prop where
  outer : H L = some (.lst (as.map V.ref))
  len : as.length = rs.length
  row : ∀ (k : Nat) (a : Addr) (r : List D), as[k]? = some a → rs[k]? = some r → ∃ vs, H a = some (.lst vs) ∧ RepA p K (cut B H) vs r
end
def wRowsBy (i : Nat) (wn ws : WA) (g : GD) (wk wi : WE) (w : WS) : WS := fun P ρ m => NoOwn ρ ∧ i < ρ.length ∧ wn ρ m fun ns m1 => ns.length ≤ 10000 ∧ ws (ρ.set i .un) m1 fun ds m2 => ∃ I : Nat → List (List D) → DW.Env → Nat → Prop, I 0 (List.replicate ns.length []) (ρ.set i .un) m2 ∧ (∀ j rs ρ' m', I j rs ρ' m' → NoOwn ρ') ∧
  (∀ j d rs ρ' m', ds[j]? = some d → I j rs ρ' m' → g d ρ' fun ρ2 => NoOwn ρ2 ∧ wk ρ2 m' fun k m3 => ∃ (kk : Nat) (r : List D), k = .int (kk : Int) ∧ rs[kk]? = some r ∧ r.length < 10000000 ∧ wi ρ2 m3 fun y m4 => I (j + 1) (rs.set kk (r ++ [y])) ρ2 m4) ∧
  ∀ rs ρ' m', I ds.length rs ρ' m' → w P (ρ'.set i (.dat (.lst (rs.map D.lst)))) m'
section
variable {X : Cx} {c : C0} {tg2 iter iter2 key item call : Expr} {sts : List Stmt} {w : WS}
def dss_rowsBy {i jx : Nat} {y x : Str} {py px spos lp pos cpos fpos : Pos} {scope : Scope} {own : List (Str × Nat)} {wn ws : WA} {g : GD} {sl : List Nat} {wk wi : WE} (hN : X.N.Nodup) (hy : X.N[i]? = some y) (hyl : X.env.scope.names.lookup y = some .local)
    (hsw : swapsWith (.ListComp (.List [] lp) [⟨.Name x px, iter, [], 0⟩] scope pos) (some (.Name y py)) spos.line X.env = pure true) (hc : X.calm = true) (hp : PassesOwn (model X.prog X.w) X.A X.env X.xe) (hi : DI X c (.Name x px) iter wn) (ok : BlkOk X.N X.env.scope scope own)
    (hg : ∀ (s : Shared) (H : Hp) (C : Addr) (cl : List (Str × Addr)) (fp : List Addr), DG (X.blk s H scope (compEnvC scope cl C X.env) fp) c (.Name x px) (gN jx) [jx]) (hjx : jx ∈ own.map (·.2))
    (hi2 : DI X c tg2 iter2 ws) (hg2 : DG X c tg2 g sl) (hil : i ∉ sl) (hk : DE X c key wk) (hit : DE X c item wi)
    (hcall : ∀ tk ti, PE X key tk → PE X item ti → PE X call (tBM X.K "list" rAppend (tOp (rIx X.K) (tVar i) tk) (tCons ti tNil))) (rest : DSs X c sts w)
    (hs1 : swapsWith call none cpos.line X.env = pure false := by rfl)
    (ug : ∀ (s : Shared) (H : Hp) (C : Addr) (cl : List (Str × Addr)) (fp : List Addr), (hg s H C cl fp).t = (hg X.s_0 X.H_0 0 [] []).t := by intros; rfl)
    (hs : ∀ v, foldedSetIterable iter X.env v = pure v := by intro _; rfl) (hs2 : ∀ v, foldedSetIterable iter2 X.env v = pure v := by intro _; rfl) :
    DSs X c (.Assign [.Name y py] (.ListComp (.List [] lp) [⟨.Name x px, iter, [], 0⟩] scope pos) spos :: .For tg2 iter2 [.Expr call cpos] [] fpos :: sts) (wRowsBy i wn ws g wk wi w) := by
  refine ⟨_, pss_cons (ps_setLc (i := i) (g := (hg X.s_0 X.H_0 0 [] []).t) hc hN hy hyl hsw hi.pe ok (fun s H C cl fp => by rw [← ug s H C cl fp]; exact (hg s H C cl fp).pe) (fun s H C cl fp => pts_nil) (fun s H C cl fp => pe_lst pa_nil) hs)
    (pss_cons (ps_for hp hc hi2.pe hg2.pe (pss_one (ps_expr (hcall _ _ hk.pe hit.pe) hs1)) hs2) rest.pe), fun A ρ m σ H G P F hw n rt b ct => ?_⟩
  obtain ⟨no, il, hw⟩ := hw
  refine hi.rd A ρ m σ H G _ _ hw fun J ns m1 H1 G1 k1 it q1 => ?_
  obtain ⟨hz, hw2⟩ := q1
  intro L hL
  refine ⟨fun j mm H' => mm = ns.length - j ∧ j ≤ ns.length ∧ ∃ as : List Addr, as.length = j ∧ (L :: as).Nodup ∧ (∀ a ∈ as, H1 a = none) ∧ Ext H1 H' ∧ H' L = some (.lst (as.map V.ref)) ∧ ∀ a ∈ as, H' a = some (.lst []), ⟨ns.length, by simp, Nat.zero_le _, [], rfl, by simp, fun a h => (by cases h), Ext.new hL, upd_same, fun a h => (by cases h)⟩, ?_⟩
  rintro j mm H2 ⟨rfl, hj, as, e1, nd, fr, ex, eL, ea⟩
  obtain ⟨go, stop⟩ := it A H2 ⟨fun b o _ e => ex b o e, fun a h => .inl h⟩ fun a ha => by
    obtain ⟨o, e⟩ := G1.thr a ha
    exact ⟨o, ex a o e⟩
  by_cases hlt : j < ns.length
  · obtain ⟨g1, y1⟩ := go j _ (List.getElem?_eq_getElem hlt)
    refine .inr ⟨g1, fun H' => ∃ as : List Addr, as.length = j + 1 ∧ (L :: as).Nodup ∧ (∀ a ∈ as, H1 a = none) ∧ Ext H1 H' ∧ H' L = some (.lst (as.map V.ref)) ∧ ∀ a ∈ as, H' a = some (.lst []), fun H' z => ⟨ns.length - (j + 1), by omega, rfl, hlt, z⟩, fun v H3 y => ?_⟩
    obtain ⟨ex3, rx⟩ := y1 v H3 y
    have G3 : Good X.K c A (wipeE ρ (own.map (·.2))) m1 (L2.wipe σ (own.map (·.2))) H3 := (G1.wipe _).ext fun b o e => ex3 b o (ex b o e)
    refine (hg X.s_0 X.H_0 0 [] []).rd A _ m1 _ H3 v _ G3 rx (fun _ => True) _ trivial fun ρ4 σ4 G4 l4 f4 _ => ?_
    refine ⟨wipe_eq (by rw [l4, L2.wipe_length]) fun k hk2 => f4 k fun z => hk2 (by rw [List.mem_singleton.mp z]; exact hjx), ?_⟩
    refine ⟨Nat.zero_le _, fun a ha => ?_⟩
    have aL : a ≠ L := fun z => by
      rw [z, ex3 L _ eL] at ha
      cases ha
    have an : ∀ b ∈ as, b ≠ a := fun b hb z => by
      rw [← z, ex3 b _ (ea b hb)] at ha
      cases ha
    refine ⟨as.map V.ref, by rw [upd_ne (Ne.symm aL)]; exact ex3 L _ eL, by rw [List.length_map, e1]; exact Nat.lt_of_lt_of_le (Nat.lt_of_lt_of_le hlt hz) (by decide), as ++ [a], by rw [List.length_append, e1]; rfl, ?_, fun b hb => ?_, fun b o e => ?_, by rw [upd_same, List.map_append]; rfl, fun b hb => ?_⟩
    · rw [← List.cons_append]
      refine List.nodup_append.mpr ⟨nd, by simp, fun u hu z hz => ?_⟩
      rw [List.mem_singleton.mp hz]
      rcases List.mem_cons.mp hu with rfl | hu
      · exact Ne.symm aL
      · exact an u hu
    · rcases List.mem_append.mp hb with q | q
      · exact fr b q
      · rw [List.mem_singleton.mp q]
        cases z : H1 a with
        | none => rfl
        | some o =>
          rw [ex3 a o (ex a o z)] at ha
          cases ha
    · have e3 := ex3 b o (ex b o e)
      rw [upd_ne (ne_of_none e hL), upd_ne (ne_of_none e3 ha)]
      exact e3
    · rcases List.mem_append.mp hb with q | q
      · have bL : b ≠ L := fun z => by
          rw [z] at q
          exact (List.nodup_cons.mp nd).1 q
        rw [upd_ne bL, upd_ne (an b q)]
        exact ex3 b _ (ea b q)
      · rw [List.mem_singleton.mp q, upd_ne aL, upd_same]
  obtain rfl : j = ns.length := by omega
  refine .inl ⟨stop, ?_⟩
  have nL : L ∉ A := G1.notin hL
  have na : ∀ a ∈ as, a ∉ A := fun a h => G1.notin (fr a h)
  have G2 : Good X.K c ((L :: as) ++ A) (ρ.set i .un) m1 (σ.set i (some (.ref L))) H2 := (G1.gain ex (fun a h => by
    rcases List.mem_cons.mp h with rfl | h
    · exact ⟨hL, _, eL⟩
    · exact ⟨fr a h, _, ea a h⟩) no).setUn no i _
  have in0 : ∀ a ∈ L :: as, a ∈ (L :: as) ++ A ∧ a ∉ c.A0 := fun a h => ⟨List.mem_append_left _ h, fun z => by
    rcases List.mem_cons.mp h with rfl | h
    · exact nL (G1.sub _ z)
    · exact na a h (G1.sub _ z)⟩
  refine hi2.rd _ _ m1 _ H2 G2 _ _ hw2 fun J2 ds m2 H3 G3 k3 it2 q3 => ?_
  obtain ⟨I, i0, ino, turn, fin⟩ := q3
  have hil' : i < σ.length := by rw [← G.len]; exact il
  have thr0 : ∀ {H' : Hp}, Step ((L :: as) ++ A) H3 ((L :: as) ++ A) H' → True := fun _ => trivial
  have vol : ∀ {a : Addr}, a ∈ L :: as → ¬ c.Vol a := fun {a} h v => (in0 a h).2 (G3.vin v)
  refine ⟨fun j mm σ' H' => mm = ds.length - j ∧ j ≤ ds.length ∧ ∃ rs ρ' m', Good X.K c ((L :: as) ++ A) ρ' m' σ' H' ∧ Step ((L :: as) ++ A) H3 ((L :: as) ++ A) H' ∧ I j rs ρ' m' ∧ σ'[i]? = some (some (.ref L)) ∧ RowsAt X.K c.p ((L :: as) ++ A) L as H' rs, ⟨ds.length, by simp, Nat.zero_le _, _, _, m2, G3, Step.refl, i0, List.getElem?_set_self hil', ?_⟩, ?_⟩
  · refine ⟨k3 L _ (vol (List.mem_cons_self ..)) eL, by rw [List.length_replicate, e1], fun k a r hk2 hr => ?_⟩
    obtain rfl : r = [] := List.eq_of_mem_replicate (List.mem_of_getElem? hr)
    have ha := List.mem_of_getElem? hk2
    exact ⟨[], k3 a _ (vol (List.mem_cons_of_mem _ ha)) (ea a ha), .nil⟩
  rintro j mm σ4 H4 ⟨rfl, hj, rs, ρ4, m4, G4, s4, i4, sL, R⟩
  obtain ⟨go2, stop2⟩ := it2 _ H4 s4 G4.thr
  by_cases hlt : j < ds.length
  · obtain ⟨g1, y1⟩ := go2 j _ (List.getElem?_eq_getElem hlt)
    refine .inr ⟨g1, fun σ' H' => ∃ rs ρ' m', Good X.K c ((L :: as) ++ A) ρ' m' σ' H' ∧ Step ((L :: as) ++ A) H3 ((L :: as) ++ A) H' ∧ I (j + 1) rs ρ' m' ∧ σ'[i]? = some (some (.ref L)) ∧ RowsAt X.K c.p ((L :: as) ++ A) L as H' rs, fun σ' H' z => ⟨ds.length - (j + 1), by omega, rfl, hlt, z⟩, fun v H5 y => ?_⟩
    obtain ⟨ex5, rx⟩ := y1 v H5 y
    have G5 := G4.ext ex5
    refine hg2.rd _ ρ4 m4 σ4 H5 v _ G5 rx _ _ (turn j _ rs ρ4 m4 (List.getElem?_eq_getElem hlt) i4) fun ρ6 σ6 G6 l6 f6 q6 => ?_
    obtain ⟨no6, q6⟩ := q6
    have sL6 : σ6[i]? = some (some (.ref L)) := by rw [f6 i hil]; exact sL
    refine ⟨_, sL6, hk.rd _ ρ6 m4 σ6 H5 G6 _ _ q6 fun kv kd m7 H7 G7 k7 r7 q7 => ?_⟩
    obtain ⟨kk, r, rfl, hr, hrl, q7⟩ := q7
    cases r7
    have kl : kk < as.length := by rw [R.len]; exact (List.getElem?_eq_some_iff.mp hr).1
    have hka : as[kk]? = some as[kk] := List.getElem?_eq_getElem kl
    generalize as[kk] = a at hka
    have haL : a ∈ L :: as := List.mem_cons_of_mem _ (List.mem_of_getElem? hka)
    obtain ⟨vs, hav, rav⟩ := R.row kk a r hka hr
    have e7 : ∀ {b o}, b ∈ L :: as → H4 b = some o → H7 b = some o := fun {b o} hb e => k7 b o (vol hb) (ex5 b o e)
    refine .inl ⟨L, _, _, .ref a, rfl, rfl, SqL.of (e7 (List.mem_cons_self ..) R.outer), by rw [atI_nat, List.getElem?_map, hka]; rfl, .inl ⟨rfl, _, SqL.of (e7 haL hav)⟩, ?_⟩
    refine hit.rd _ ρ6 m7 σ6 H7 G7 _ _ q7 fun iv id m8 H8 G8 k8 r8 q8 => ?_
    have e8 : ∀ {b o}, b ∈ L :: as → H4 b = some o → H8 b = some o := fun {b o} hb e => k8 b o (vol hb) (e7 hb e)
    have k58 : Keep c H5 H8 := k7.trans k8
    have rav8 : RepA c.p X.K (cut ((L :: as) ++ A) H8) vs r := (rav.ext fun b o e => by
      obtain ⟨n, z⟩ := cut_some e
      exact cut_of n (ex5 b o z)).ext (k58.grow G6.toBase).cut
    refine ⟨a, vs, iv, rfl, rfl, e8 haL hav, by rw [rav8.length]; exact Nat.lt_of_lt_of_le hrl (by decide), _, ρ6, m8, ?_, ?_, q8, sL6, ?_⟩
    · exact G8.mut (in0 a haL).1 (in0 a haL).2 (e8 haL hav) (fun _ z => nomatch z) fun q es e => absurd e (no6 q es)
    · refine ⟨fun b o nb e => ?_, fun b h => .inl h⟩
      have nba : b ≠ a := fun z => nb (by rw [z]; exact (in0 a haL).1)
      rw [upd_ne nba]
      exact k58.grow G6.toBase b o nb (ex5 b o (s4.grow b o nb e))
    · have aL : a ≠ L := fun z => by
        rw [z] at hka
        exact (List.nodup_cons.mp nd).1 (List.mem_of_getElem? hka)
      refine ⟨by rw [upd_ne (Ne.symm aL)]; exact e8 (List.mem_cons_self ..) R.outer, by rw [List.length_set]; exact R.len, fun k2 a2 r2 h1 h2 => ?_⟩
      by_cases e : kk = k2
      · subst e
        rw [hka] at h1
        cases h1
        rw [List.getElem?_set_self (by rw [← R.len]; exact kl)] at h2
        cases h2
        exact ⟨_, upd_same, (rav8.append (.one r8)).ext (chg_ext (in0 a haL).1)⟩
      · rw [List.getElem?_set_ne e] at h2
        obtain ⟨vs2, u1, u2⟩ := R.row k2 a2 r2 h1 h2
        have ne2 : a2 ≠ a := fun z => by
          subst z
          obtain ⟨x1, y1⟩ := List.getElem?_eq_some_iff.mp hka
          obtain ⟨x2, y2⟩ := List.getElem?_eq_some_iff.mp h1
          exact e ((List.getElem_inj (h₀ := x1) (h₁ := x2) (List.nodup_cons.mp nd).2).mp (y1.trans y2.symm))
        have ha2 : a2 ∈ L :: as := List.mem_cons_of_mem _ (List.mem_of_getElem? h1)
        refine ⟨vs2, by rw [upd_ne ne2]; exact e8 ha2 u1, ((u2.ext fun b o e => by
          obtain ⟨n, z⟩ := cut_some e
          exact cut_of n (ex5 b o z)).ext (k58.grow G6.toBase).cut).ext (chg_ext (in0 a haL).1)⟩
  obtain rfl : j = ds.length := by omega
  refine .inl ⟨stop2, ?_⟩
  have no4 := ino _ _ _ _ i4
  have Gd : Good X.K c A ρ4 m4 σ4 H4 := Good.dropN no4 (N := L :: as) G4 G1.sub
  have sub1 : Ext (cut ((L :: as) ++ A) H4) (cut A H4) := cut_sub fun b h => List.mem_append_right _ h
  have rows : ∀ (bs : List Addr) (ts : List (List D)), bs.length = ts.length → (∀ (k : Nat) (a : Addr) (r : List D), bs[k]? = some a → ts[k]? = some r → a ∉ A ∧ ∃ vs, H4 a = some (.lst vs) ∧ RepA c.p X.K (cut A H4) vs r) → RepA c.p X.K (cut A H4) (bs.map V.ref) (ts.map D.lst) := by
    intro bs
    induction bs with
    | nil =>
      intro ts hl _
      cases ts with
      | nil => exact .nil
      | cons t ts => cases hl
    | cons b bs ih =>
      intro ts hl h
      cases ts with
      | nil => cases hl
      | cons t ts =>
        obtain ⟨nb, vs, h1, h2⟩ := h 0 b t rfl rfl
        exact .cons (.lst (cut_of nb h1) h2) (ih ts (by simpa using hl) fun k a r e1 e2 => h (k + 1) a r (by simpa using e1) (by simpa using e2))
  have rep : Rep c.p X.K (cut A H4) (.ref L) (.lst (rs.map D.lst)) := .lst (cut_of nL R.outer) (rows as rs R.len fun k a r h1 h2 => by
    obtain ⟨vs, u1, u2⟩ := R.row k a r h1 h2
    exact ⟨na a (List.mem_of_getElem? h1), vs, u1, u2.ext sub1⟩)
  have st : Step A H A H4 := by
    refine ⟨fun b o nb e => ?_, fun b h => .inl h⟩
    have b1 : H1 b = some o := k1.grow G.toBase b o nb e
    have nb2 : b ∉ (L :: as) ++ A := fun z => by
      rcases List.mem_append.mp z with q | q
      · rcases List.mem_cons.mp q with rfl | q
        · rw [hL] at b1
          cases b1
        · rw [fr b q] at b1
          cases b1
      · exact nb q
    exact s4.grow b o nb2 (k3.grow G2.toBase b o nb2 (ex b o b1))
  exact rest.rd A _ m4 σ4 H4 (Gd.know no4 sL rep) P F (fin rs ρ4 m4 i4) (n.of st) rt (b.of st) (ct.of st)
end
end DW

/-! DW44: not in; faults told by a table with any words ahead of the fields. -/
namespace DW
open PySem PySem.Spec PyProof.Rows L2
section
variable {X : Cx} {c : C0} {a b : Expr} {wa wb : WE} {pos : Pos}
def ninD : D → D → (D → Prop) → Prop
  | x, .lst ds, Q => x.flat = true ∧ ds.all D.flat = true ∧ Q (.bl (!(ds.any fun y => y.eqb x)))
  | x, .tup ds, Q => x.flat = true ∧ ds.all D.flat = true ∧ Q (.bl (!(ds.any fun y => y.eqb x)))
  | _, _, _ => False
theorem rd_nin {K : PySem.W.Frag} : RdOp K c (rIn K true) ninD := fun A ρ m σ H G x y d e rx ry Q Qv h k => by
  unfold ninD at h
  split at h
  · obtain ⟨h1, h2, h3⟩ := h
    cases ry with
    | lst e1 r1 => exact ⟨_, _, rfl, .inl (SqL.of (cut_some e1).2), rep_flat rx h1, repA_flat r1 h2, k _ _ H G Keep.refl (.bl _) (by rw [if_pos rfl, repA_in rx h1 r1 h2]; exact h3)⟩
  · obtain ⟨h1, h2, h3⟩ := h
    cases ry with
    | tup e1 r1 => exact ⟨_, _, rfl, .inr (SqT.uncut e1), rep_flat rx h1, repA_flat r1 h2, k _ _ H G Keep.refl (.bl _) (by rw [if_pos rfl, repA_in rx h1 r1 h2]; exact h3)⟩
  · cases h
def de_notin (ha : DE X c a wa) (hb : DE X c b wb) (hm : behindInMarks .NotIn b = false := by rfl) : DE X c (.Compare a [.NotIn] [b] pos) (wOp ninD wa wb) := de_cmp op_notIn_seq rd_nin ha hb hm
def dt_notin (ha : DE X c a wa) (hb : DE X c b wb) (hm : behindInMarks .NotIn b = false := by rfl) : DT X c (.Compare a [.NotIn] [b] pos) (wTest (wOp ninD wa wb)) := dt_cmp op_notIn_seq rd_nin ha hb hm
end
/-! ### faults: class, words, fields -/
def wWords : List Str → WA → WA
  | [], w => w
  | a :: r, w => wCons (wC (.str a)) (wWords r w)
abbrev FTb := List (Str × List Str × List Str)
def faultM (K : PySem.W.Frag) (ad : Str → Addr) (R : D → Nat → Prop) (C : Addr) (fs : List (Str × D)) (m : Nat) : FTb → Prop
  | [] => False
  | e :: r => ∃ b, PySem.W.exmOne K (.ref C) (.ref (ad e.1)) = some b ∧ (b = true → C = ad e.1 ∧ ∃ ds, looks fs e.2.2 = some ds ∧ R (.tup (e.2.1.map D.str ++ ds)) m) ∧ (b = false → faultM K ad R C fs m r)
def fwFaultM (K : PySem.W.Frag) (ad : Str → Addr) (told : D → D) (tbl : FTb) : FT := fun be m R => be m (fun d m' => R (told d) m') fun C fs m' => faultM K ad R C fs m' tbl
theorem faultM_hit {K : PySem.W.Frag} {ad : Str → Addr} {R : D → Nat → Prop} {x : Str} {ws fl : List Str} {fs : List (Str × D)} {ds : List D} {m : Nat} (hl : looks fs fl = some ds) (hR : R (.tup (ws.map D.str ++ ds)) m) : ∀ {tbl : FTb}, (∀ e ∈ tbl, PySem.W.exmOne K (.ref (ad x)) (.ref (ad e.1)) = some (decide (x = e.1))) →
    tbl.find? (fun e => decide (x = e.1)) = some (x, ws, fl) → faultM K ad R (ad x) fs m tbl
  | [], _, h => by cases h
  | e :: r, he, h => by
    refine ⟨_, he e (List.mem_cons_self ..), fun z => ?_, fun z => ?_⟩
    · have z := of_decide_eq_true z
      rw [List.find?_cons_of_pos (by exact decide_eq_true z)] at h
      cases h
      exact ⟨rfl, ds, hl, hR⟩
    · rw [List.find?_cons_of_neg (by rw [z]; decide)] at h
      exact faultM_hit hl hR (fun e h => he e (List.mem_cons_of_mem _ h)) h
def ExmM (K : PySem.W.Frag) (ad : Str → Addr) (tbl : FTb) : Prop := ∀ x ∈ tbl.map (·.1), ∀ e ∈ tbl, PySem.W.exmOne K (.ref (ad x)) (.ref (ad e.1)) = some (decide (x = e.1))
def exmBM (K : PySem.W.Frag) (ad : Str → Addr) (tbl : FTb) : Bool := (tbl.map (·.1)).all fun x => tbl.all fun e => decide (PySem.W.exmOne K (.ref (ad x)) (.ref (ad e.1)) = some (decide (x = e.1)))
theorem exmM_of {K : PySem.W.Frag} {ad : Str → Addr} {tbl : FTb} (h : exmBM K ad tbl = true) : ExmM K ad tbl := fun x hx e he => of_decide_eq_true (List.all_eq_true.mp (List.all_eq_true.mp h x hx) e he)
theorem faultM_at {K : PySem.W.Frag} {ad : Str → Addr} {tbl : FTb} (X : ExmM K ad tbl) {R : D → Nat → Prop} (x : Str) {ws fl : List Str} {fs : List (Str × D)} {ds : List D} {m : Nat} (hm : tbl.find? (fun e => decide (x = e.1)) = some (x, ws, fl)) (hl : looks fs fl = some ds) (hR : R (.tup (ws.map D.str ++ ds)) m) : faultM K ad R (ad x) fs m tbl :=
  faultM_hit hl hR (X x (List.mem_map_of_mem (f := (·.1)) (List.mem_of_find?_eq_some hm))) hm
def fHdM (ad : Str → Addr) (i : Nat) (e : Str × List Str × List Str) : Value × Nat × WS := (.ref (ad e.1), i, wSet 1 (wTup (wWords e.2.1 (wCaus (ad e.1) i e.2.2))))
theorem wWords_iff {ρ : DW.Env} {m : Nat} {w : WA} : ∀ {ws : List Str} {Q : List D → Nat → Prop}, wWords ws w ρ m Q ↔ w ρ m fun ds m1 => Q (ws.map D.str ++ ds) m1
  | [], Q => Iff.rfl
  | a :: r, Q => wWords_iff (ws := r) (Q := fun ds m1 => Q (.str a :: ds) m1)
theorem faultM_hds {K : PySem.W.Frag} {ad : Str → Addr} {P : Posts} {R : D → Nat → Prop} {C : Addr} {fs : List (Str × D)} {m : Nat} {v : V} {c1 c2 : Cell} (hP : ∀ d m', P.nx [.raw v, .dat d, .un] m' = R d m') : ∀ {tbl : FTb}, (∀ e ∈ tbl, e.2.2 ≠ [] ∧ e.2.2.length ≤ 100 ∧ e.2.1.length ≤ 100) →
    (wHds K (fun _ _ _ _ => False) P (tbl.map (fHdM ad 2)) C fs [.raw v, c1, c2] m ↔ faultM K ad R C fs m tbl)
  | [], _ => Iff.rfl
  | e :: r, he => by
    have plain : ∀ d : D, PlainE [.raw v, .dat d, .un] := fun d i k h => by
      match i, h with
      | 0, h => cases h; trivial
      | 1, h => cases h; trivial
      | 2, h => cases h; trivial
    have ih := faultM_hds (K := K) (ad := ad) (C := C) (fs := fs) (m := m) (c1 := c1) (c2 := c2) hP (tbl := r) fun e h => he e (List.mem_cons_of_mem _ h)
    obtain ⟨h1, h2, h3⟩ := he e (List.mem_cons_self ..)
    constructor
    · rintro ⟨b, hb, y, n⟩
      refine ⟨b, hb, fun z => ?_, fun z => ih.mp (n z)⟩
      obtain ⟨e1, ds, hl, _, _, q⟩ := (wCaus_iff (D0 := C) (fs := fs) (ρ := [.raw v, c1, .cau C fs]) rfl h1).mp (wWords_iff.mp (y z))
      refine ⟨e1.symm, ds, hl, ?_⟩
      rw [← hP]
      exact q
    · rintro ⟨b, hb, y, n⟩
      refine ⟨b, hb, fun z => ?_, fun z => ih.mpr (n z)⟩
      obtain ⟨e1, ds, hl, q⟩ := y z
      refine wWords_iff.mpr ((wCaus_iff (D0 := C) (fs := fs) (ρ := [.raw v, c1, .cau C fs]) rfl h1).mpr ⟨e1.symm, ds, hl, ?_, plain _, ?_⟩)
      · rw [List.length_append, List.length_map, looks_len hl]
        exact Nat.le_trans (show e.2.1.length + e.2.2.length ≤ 200 by omega) (by decide)
      · rw [← hP] at q
        exact q
end DW

/-! DW45: texts joined and split -/
namespace DW
open PySem PySem.Spec PySem.Calls L2 PyProof.Rows
section
variable {X : Cx} {c : C0} {e o a b : Expr} {es : List Expr} {wa wb we : WE} {pos apos : Pos}
/-- the items are texts -/
def joinD : D → D → (D → Prop) → Prop
  | .str a, .lst ds, Q => ∃ ys : List Str, ds = ys.map D.str ∧ (ys.map (·.length)).sum + ys.length * a.length ≤ 16777216 ∧ Q (.str (Txt.join a ys))
  | .str a, .tup ds, Q => ∃ ys : List Str, ds = ys.map D.str ∧ (ys.map (·.length)).sum + ys.length * a.length ≤ 16777216 ∧ Q (.str (Txt.join a ys))
  | _, _, _ => False
theorem strs_repA {p : Option Addr} {K : PySem.W.Frag} {H : Hp} : ∀ {ys : List Str} {xs : List V}, RepA p K H xs (ys.map D.str) → xs = ys.map V.str
  | [], _, r => by cases r; rfl
  | y :: ys, _, r => by
    cases r with
    | cons r1 r2 =>
      cases r1
      rw [strs_repA r2]
      rfl
def wJoin (wa wb : WE) : WE := fun ρ m Q => wa ρ m fun d m1 => ∃ a, d = .str a ∧ wb ρ m1 fun y m2 => joinD (.str a) y fun z => Q z m2
def de_join (ho : DE X c o wa) (he : DE X c e wb) (hs : starEach [e] X.env = [(false, eval e X.env)] := by rfl) (hbase : attributeBase o "join" X.env (eval o X.env) = eval o X.env := by rfl) (hline : (apos.endLine == pos.line) = true := by rfl) : DE X c (.Call (.Attribute o "join" apos) [e] [] pos) (wJoin wa wb) := by
  obtain ⟨ta, pa, ra⟩ := ho
  obtain ⟨tb, pb, rb⟩ := he
  refine ⟨_, pe_join pa pb hs hbase hline, fun A ρ m σ H G Q Qv hw k => ra A ρ m σ H G _ _ hw fun v d m1 H1 G1 k1 r1 q1 => ?_⟩
  obtain ⟨a, rfl, q1⟩ := q1
  cases r1
  refine ⟨⟨_, rfl⟩, rb A ρ m1 σ H1 G1 _ _ q1 fun u y m2 H2 G2 k2 r2 q2 => ?_⟩
  unfold joinD at q2
  split at q2
  · rename_i e1
    cases e1
    obtain ⟨ys, rfl, hl, q2⟩ := q2
    cases r2 with
    | lst h2 rs =>
      obtain rfl := strs_repA rs
      exact ⟨_, _, ys, rfl, rfl, .inl (SqL.of (cut_some h2).2), hl, k _ _ m2 H2 G2 (k1.trans k2) (.str _) q2⟩
  · rename_i e1
    cases e1
    obtain ⟨ys, rfl, hl, q2⟩ := q2
    cases r2 with
    | tup h2 rs =>
      obtain rfl := strs_repA rs
      exact ⟨_, _, ys, rfl, rfl, .inr (SqT.uncut h2), hl, k _ _ m2 H2 G2 (k1.trans k2) (.str _) q2⟩
  · cases q2
def wSplit (wa wb : WE) : WA := fun ρ m Q => wa ρ m fun d m1 => ∃ x, d = .str x ∧ wb ρ m1 fun s m2 => ∃ y : Str, s = .str y ∧ (y.length == 0) = false ∧ x.length + 2 ≤ sizeLine ∧ Q ((Txt.split x y).map D.str) m2
def dl_split (ho : DE X c o wa) (he : DE X c e wb) (hs : starEach [e] X.env = [(false, eval e X.env)] := by rfl) (hbase : attributeBase o "split" X.env (eval o X.env) = eval o X.env := by rfl) (hline : (apos.endLine == pos.line) = true := by rfl) :
    DL X c (.Call (.Attribute o "split" apos) [e] [] pos) (wSplit wa wb) := by
  obtain ⟨ta, pa, ra⟩ := ho
  obtain ⟨tb, pb, rb⟩ := he
  refine ⟨_, pe_split pa pb hs hbase hline, fun A ρ m σ H G Q Qv hw k => ra A ρ m σ H G _ _ hw fun v d m1 H1 G1 k1 r1 q1 => ?_⟩
  obtain ⟨x, rfl, q1⟩ := q1
  cases r1
  refine ⟨⟨_, rfl⟩, rb A ρ m1 σ H1 G1 _ _ q1 fun u s m2 H2 G2 k2 r2 q2 => ?_⟩
  obtain ⟨y, rfl, h0, hl, q2⟩ := q2
  cases r2
  refine ⟨x, y, rfl, rfl, h0, hl, fun p hp => ?_⟩
  obtain ⟨g1, g2, g3, g4, g5⟩ := fresh_list G2 hp (repA_strs (Txt.split x y))
  exact k p _ _ m2 _ g1 g2 (none_back G1 k1 (none_back G2 k2 hp)) ((k1.trans k2).trans g3) g4 g5 q2
theorem rd_strI {K : PySem.W.Frag} : RdC K c (fun xs H Q => ∃ i : Int, xs = [.int i] ∧ i.natAbs.log2 < 1920 ∧ Q (.str (toString i)) H) (fun ds Q => ∃ i : Int, ds = [.int i] ∧ i.natAbs.log2 < 1920 ∧ Q (.str (toString i))) := fun A ρ m σ H G vs ds r Q Qv h k => by
  obtain ⟨i, rfl, hl, h⟩ := h
  obtain ⟨v, rfl, rv⟩ := repA1 r
  cases rv
  exact ⟨_, rfl, hl, k _ _ H G Keep.refl (.str _) h⟩
/-! ### f-strings -/
structure DJ (X : Cx) (c : C0) (es : List Expr) (w : DW.Env → Nat → Str → (Str → Nat → Prop) → Prop) where
  t : List TE
  pj : PJ X es t
  rd : ∀ A ρ m σ H, Good X.K c A ρ m σ H → ∀ (acc : Str) (Q : Str → Nat → Prop) (Qv : Str → Hp → Prop), w ρ m acc Q → (∀ out m' H', Good X.K c A ρ m' σ H' → Keep c H H' → Q out m' → Qv out H') → tJs t acc σ H Qv
def dj_nil : DJ X c [] (fun _ m acc Q => Q acc m) := ⟨[], .nil, fun A ρ m σ H G acc Q Qv hw k => k acc m H G Keep.refl hw⟩
def dj_cons {w : DW.Env → Nat → Str → (Str → Nat → Prop) → Prop} (h : DE X c e we) (r : DJ X c es w) : DJ X c (e :: es) (fun ρ m acc Q => we ρ m fun d m1 => ∃ y : Str, d = .str y ∧ (acc ++ y).length ≤ sizeLine ∧ w ρ m1 (acc ++ y) Q) := by
  obtain ⟨t, p, rd⟩ := h
  refine ⟨t :: r.t, .cons p r.pj, fun A ρ m σ H G acc Q Qv hw k => rd A ρ m σ H G _ _ hw fun v d m1 H1 G1 k1 r1 q1 => ?_⟩
  obtain ⟨y, rfl, hl, q1⟩ := q1
  cases r1
  exact ⟨y, rfl, hl, r.rd A ρ m1 σ H1 G1 _ _ _ q1 fun out m' H' G' k' q' => k out m' H' G' (k1.trans k') q'⟩
def de_joined {v1 v2 : Expr} {w : DW.Env → Nat → Str → (Str → Nat → Prop) → Prop} (h : DJ X c (v1 :: v2 :: es) w) : DE X c (.JoinedStr (v1 :: v2 :: es) pos) (fun ρ m Q => w ρ m Str.empty fun out m1 => Q (.str out) m1) := by
  obtain ⟨t, p, rd⟩ := h
  exact ⟨_, pe_joined p, fun A ρ m σ H G Q Qv hw k => rd A ρ m σ H G _ _ _ hw fun out m' H' G' k' q' => k _ _ m' H' G' k' (.str _) q'⟩
/-- {e} of a number or a text -/
def fmtD : D → (D → Prop) → Prop
  | .int i, Q => i.natAbs.log2 < 1920 ∧ Q (.str (toString i))
  | .str a, Q => a.length ≤ sizeLine ∧ Q (.str a)
  | _, _ => False
def de_fmt (h : DE X c e we) : DE X c (.FormattedValue e (-1) none pos) (fun ρ m Q => we ρ m fun d m1 => fmtD d fun z => Q z m1) := by
  obtain ⟨t, p, rd⟩ := h
  refine ⟨_, pe_fmt p, fun A ρ m σ H G Q Qv hw k => rd A ρ m σ H G _ _ hw fun v d m1 H1 G1 k1 r1 q1 => ?_⟩
  unfold fmtD at q1
  split at q1
  · cases r1
    exact .inr ⟨_, rfl, q1.1, k _ _ m1 H1 G1 k1 (.str _) q1.2⟩
  · cases r1
    exact .inl ⟨_, rfl, q1.1, k _ _ m1 H1 G1 k1 (.str _) q1.2⟩
  · cases q1
end
end DW

/-! DW46: signs of texts: in, items, walks; int(..) of a text; sum -/
namespace DW
open PySem PySem.Spec PySem.Calls L2 PyProof.Rows
section
variable {X : Cx} {c : C0} {e o a b iter tg : Expr} {es : List Expr} {wa wb we : WE} {pos apos : Pos}
def sgn (k : Nat) : D := .str ⟨#[k]⟩
/-- one sign in a text -/
def sgnInD (f : Bool → Bool) : D → D → (D → Prop) → Prop := fun d e Q => ∃ (k : Nat) (z : Str), d = sgn k ∧ e = .str z ∧ Q (.bl (f (decide (k ∈ z.cps.toList))))
theorem rd_sgnIn {K : PySem.W.Frag} : RdOp K c (fun x y H Q => ∃ (k : Nat) (z : Str), x = .str ⟨#[k]⟩ ∧ y = .str z ∧ Q (.bl (decide (k ∈ z.cps.toList))) H) (sgnInD id) := fun A ρ m σ H G x y d e rx ry Q Qv h k => by
  obtain ⟨n, z, rfl, rfl, q⟩ := h
  cases rx
  cases ry
  exact ⟨n, z, rfl, rfl, k _ _ H G Keep.refl (.bl _) q⟩
theorem rd_sgnNot {K : PySem.W.Frag} : RdOp K c (fun x y H Q => ∃ (k : Nat) (z : Str), x = .str ⟨#[k]⟩ ∧ y = .str z ∧ Q (.bl (!decide (k ∈ z.cps.toList))) H) (sgnInD not) := fun A ρ m σ H G x y d e rx ry Q Qv h k => by
  obtain ⟨n, z, rfl, rfl, q⟩ := h
  cases rx
  cases ry
  exact ⟨n, z, rfl, rfl, k _ _ H G Keep.refl (.bl _) q⟩
def de_sgnIn (ha : DE X c a wa) (hb : DE X c b wb) (hm : behindInMarks .In b = false) : DE X c (.Compare a [.In] [b] pos) (wOp (sgnInD id) wa wb) := de_cmp op_in_sign rd_sgnIn ha hb hm
def de_sgnNot (ha : DE X c a wa) (hb : DE X c b wb) (hm : behindInMarks .NotIn b = false) : DE X c (.Compare a [.NotIn] [b] pos) (wOp (sgnInD not) wa wb) := de_cmp op_notIn_sign rd_sgnNot ha hb hm
def dt_sgnIn (ha : DE X c a wa) (hb : DE X c b wb) (hm : behindInMarks .In b = false) : DT X c (.Compare a [.In] [b] pos) (wTest (wOp (sgnInD id) wa wb)) := dt_cmp op_in_sign rd_sgnIn ha hb hm
def dt_sgnNot (ha : DE X c a wa) (hb : DE X c b wb) (hm : behindInMarks .NotIn b = false) : DT X c (.Compare a [.NotIn] [b] pos) (wTest (wOp (sgnInD not) wa wb)) := dt_cmp op_notIn_sign rd_sgnNot ha hb hm
/-- an item of a text -/
def itemS : D → D → (D → Prop) → Prop := fun d e Q => ∃ (z : Str) (i : Int) (k : Nat), d = .str z ∧ e = .int i ∧ z.length ≤ sizeLine ∧ atI z.cps.toList i = some k ∧ Q (sgn k)
theorem rd_itemS {K : PySem.W.Frag} : RdOp K c rIxS itemS := fun A ρ m σ H G x y d e rx ry Q Qv h k => by
  obtain ⟨z, i, n, rfl, rfl, hl, hi, q⟩ := h
  cases rx
  cases ry
  exact ⟨z, i, n, rfl, rfl, hl, hi, k _ _ H G Keep.refl (.str _) q⟩
def de_subS (ha : DE X c a wa) (hb : DE X c b wb) (hs : PlainIx b) : DE X c (.Subscript a b pos) (wOp itemS wa wb) := by
  obtain ⟨ta, pa, ra⟩ := ha
  obtain ⟨tb, pb, rb⟩ := hb
  exact ⟨_, pe_ix ix_str pa pb hs, rdE_op ra rb rd_itemS⟩
/-- int(..) of a text -/
def intS : List D → (D → Prop) → Prop := fun ds Q => ∃ (x : Str) (n : Int), ds = [.str x] ∧ PySem.intText? x = some n ∧ x.length ≤ 640 ∧ Q (.int n)
theorem rd_intS {K : PySem.W.Frag} : RdC K c (fun xs H Q => ∃ a n, xs = [.str a] ∧ PySem.intText? a = some n ∧ a.length ≤ 640 ∧ Q (.int n) H) intS := fun A ρ m σ H G vs ds r Q Qv h k => by
  obtain ⟨x, n, rfl, h1, h2, q⟩ := h
  obtain ⟨v, rfl, rv⟩ := repA1 r
  cases rv
  exact ⟨x, n, rfl, h1, h2, k _ _ H G Keep.refl (.int _) q⟩
/-- sum(..) of numbers -/
def sumD : List D → (D → Prop) → Prop := fun ds Q => ∃ ns : List Int, ds = [.lst (ns.map D.int)] ∧ Q (.int ns.sum)
theorem ints_repA {p : Option Addr} {K : PySem.W.Frag} {H : Hp} : ∀ {ys : List Int} {xs : List V}, RepA p K H xs (ys.map D.int) → xs = ys.map V.int
  | [], _, r => by cases r; rfl
  | y :: ys, _, r => by
    cases r with
    | cons r1 r2 =>
      cases r1
      rw [ints_repA r2]
      rfl
theorem rd_sum {K : PySem.W.Frag} : RdC K c (rSum K) sumD := fun A ρ m σ H G vs ds r Q Qv h k => by
  obtain ⟨ns, rfl, q⟩ := h
  obtain ⟨v, rfl, rv⟩ := repA1 r
  cases rv with
  | lst h1 r1 =>
    obtain rfl := ints_repA r1
    exact ⟨_, ns, rfl, SqL.of (cut_some h1).2, k _ _ H G Keep.refl (.int _) q⟩
/-! ### for x in a text -/
theorem iters_str {p : Option Addr} {K : PySem.W.Frag} {A : List Addr} {H : Hp} {x : Str} : Iters p K A (x.cps.toList.map sgn) (Its x) H := fun A' H' s _ => by
  refine ⟨fun i d hd => ?_, by show x.cps.size ≤ _; simp⟩
  rw [List.getElem?_map] at hd
  cases q : x.cps.toList[i]? with
  | none =>
    rw [q] at hd
    cases hd
  | some k =>
    rw [q] at hd
    cases hd
    have hi := (List.getElem?_eq_some_iff.mp q).1
    refine ⟨by show i < x.cps.size; simpa using hi, fun v H2 y => ?_⟩
    obtain ⟨rfl, n, h1, rfl⟩ := y
    rw [Array.getElem?_toList] at q
    rw [q] at h1
    cases h1
    exact ⟨fun _ _ z => z, .str _⟩
def wStrI (we : WE) : WA := fun ρ m Q => we ρ m fun d m1 => ∃ x, d = .str x ∧ Q (x.cps.toList.map sgn) m1
def di_str (h : DE X c iter we) : DI X c tg iter (wStrI we) := by
  obtain ⟨t, p, r⟩ := h
  refine ⟨_, pi_str p, fun A ρ m σ H G Q R hw k => r A ρ m σ H G _ _ hw fun v d m1 H1 G1 k1 r1 q1 => ?_⟩
  obtain ⟨x, rfl, q1⟩ := q1
  cases r1
  exact ⟨x, rfl, k _ _ m1 H1 G1 k1 iters_str q1⟩
end
end DW

/-! DW47: own.pop(e), own.insert(e, x) as statements -/
namespace DW
open PySem PySem.Spec PyProof.Rows L2
section
variable {X : Cx} {c : C0} {a b e : Expr} {wa wb we : WE} {pos p p2 p3 : Pos}
def wPopS (i : Nat) (we : WE) : WS := fun P ρ m => match ρ[i]? with
  | some (.own (.lst ds)) => we ρ m fun d m1 => ∃ k : Nat, d = .int (k : Int) ∧ k < 1000000000000 ∧ k < ds.length ∧ P.nx (ρ.set i (.own (.lst (ds.eraseIdx k)))) m1
  | _ => False
def ds_popS {call : Expr} {i : Nat} (hp : ∀ te, PE X e te → PE X call (tBM X.K "list" rPopAt (tVar i) (tCons te tNil))) (h : DE X c e we) (hs : swapsWith call none pos.line X.env = pure false := by rfl) : DS X c (.Expr call pos) (wPopS i we) := by
  obtain ⟨t, pe, r⟩ := h
  refine ⟨_, ps_expr (hp t pe) hs, fun A ρ m σ H G P F hw n rt b ct => ?_⟩
  unfold wPopS at hw
  split at hw
  case h_2 => cases hw
  rename_i ds e1
  obtain ⟨l, u, h1, h2, h3, h4, h5, h6⟩ := G.cell i _ e1
  cases h5 with | lst h5 =>
  refine ⟨_, h1, .inl ⟨rfl, _, SqL.of h4⟩, r A ρ m σ H G _ _ hw fun v d m1 H1 G1 k1 r1 q1 => ?_⟩
  obtain ⟨k, rfl, hk, hl, q1⟩ := q1
  cases r1
  obtain ⟨l', ys, g1, g2, g3, g4, g5, g6⟩ := G1.cell i _ e1
  rw [h1] at g1
  cases g1
  cases g5 with | lst g5 =>
  have hy : ds[k]? = some ds[k] := List.getElem?_eq_getElem hl
  obtain ⟨vy, hvy, ry⟩ := g5.get hy
  refine ⟨l, _, (k : Int), k, vy, rfl, rfl, g4, by omega, by omega, by rw [g5.length]; exact seqIx_nat hl, hvy, ?_⟩
  exact n A _ m1 σ _ (G1.chg e1 h1 (OwnO.lst (g5.erase k))) ⟨fun b o nb e => by
      have nb1 : b ≠ l := fun z => nb (by rw [z]; exact h2)
      rw [upd_ne nb1]
      exact k1.grow G.toBase b o nb e, fun a h => .inl h⟩ q1
theorem RepA.take' {pp : Option Addr} {K : PySem.W.Frag} {H : Hp} : ∀ {vs : List V} {ds : List D} (i : Nat), RepA pp K H vs ds → RepA pp K H (vs.take i) (ds.take i)
  | _, _, i, .nil => by rw [List.take_nil, List.take_nil]; exact .nil
  | _, _, 0, .cons _ _ => .nil
  | _, _, i + 1, .cons h r => .cons h (RepA.take' i r)
theorem RepA.drop' {pp : Option Addr} {K : PySem.W.Frag} {H : Hp} : ∀ {vs : List V} {ds : List D} (i : Nat), RepA pp K H vs ds → RepA pp K H (vs.drop i) (ds.drop i)
  | _, _, i, .nil => by rw [List.drop_nil, List.drop_nil]; exact .nil
  | _, _, 0, .cons h r => .cons h r
  | _, _, i + 1, .cons _ r => RepA.drop' i r
def rInsert : V → List V → Hp → VK → Prop := fun x vs H Q => ∃ (l : Addr) (xs : List V) (i : Int) (y : V), x = .ref l ∧ vs = [.int i, y] ∧ H l = some (.lst xs) ∧ xs.length < sizeLine ∧ 0 ≤ i ∧ i < 2 ^ 63 ∧ Q .non (upd H l (.lst (xs.take i.toNat ++ [y] ++ xs.drop i.toNat)))
def wInsS (i : Nat) (wa wb : WE) : WS := fun P ρ m => match ρ[i]? with
  | some (.own (.lst ds)) => wa ρ m fun d m1 => wb ρ m1 fun y m2 => ∃ k : Nat, d = .int (k : Int) ∧ k < 1000000000000 ∧ ds.length < 10000000 ∧ P.nx (ρ.set i (.own (.lst (ds.take k ++ [y] ++ ds.drop k)))) m2
  | _ => False
def ds_insS {call : Expr} {i : Nat} (hp : ∀ ta tb, PE X a ta → PE X b tb → PE X call (tBM X.K "list" rInsert (tVar i) (tCons ta (tCons tb tNil)))) (ha : DE X c a wa) (hb : DE X c b wb) (hs : swapsWith call none pos.line X.env = pure false := by rfl) : DS X c (.Expr call pos) (wInsS i wa wb) := by
  obtain ⟨ta, pa, ra⟩ := ha
  obtain ⟨tb, pb, rb⟩ := hb
  refine ⟨_, ps_expr (hp ta tb pa pb) hs, fun A ρ m σ H G P F hw n rt b ct => ?_⟩
  unfold wInsS at hw
  split at hw
  case h_2 => cases hw
  rename_i ds e1
  obtain ⟨l, u, h1, h2, h3, h4, h5, h6⟩ := G.cell i _ e1
  cases h5 with | lst h5 =>
  refine ⟨_, h1, .inl ⟨rfl, _, SqL.of h4⟩, ra A ρ m σ H G _ _ hw fun v d m1 H1 G1 k1 r1 q1 => rb A ρ m1 σ H1 G1 _ _ q1 fun v2 y m2 H2 G2 k2 r2 q2 => ?_⟩
  obtain ⟨k, rfl, hk, hl, q2⟩ := q2
  cases r1
  obtain ⟨l', ys, g1, g2, g3, g4, g5, g6⟩ := G2.cell i _ e1
  rw [h1] at g1
  cases g1
  cases g5 with | lst g5 =>
  refine ⟨l, _, (k : Int), v2, rfl, rfl, g4, by rw [g5.length]; exact Nat.lt_of_lt_of_le hl (by decide), by omega, by omega, ?_⟩
  rw [Int.toNat_natCast]
  exact n A _ m2 σ _ (G2.chg e1 h1 (OwnO.lst (((g5.take' k).append (.one r2)).append (g5.drop' k)))) ⟨fun b o nb e => by
      have nb1 : b ≠ l := fun z => nb (by rw [z]; exact h2)
      rw [upd_ne nb1]
      exact (k1.trans k2).grow G.toBase b o nb e, fun a h => .inl h⟩ q2
end
end DW

/-! DW48: texts cut -/
namespace DW
open PySem PySem.Spec PyProof.Rows L2
/-- a text cut is its signs cut -/
theorem cut_str (x : Str) (lo hi : Option Int) : L2.cutS x lo hi = ⟨(cutG x.cps.toList lo hi).toArray⟩ := by
  have e : x.cps.toList.length = x.length := by
    rw [Array.length_toList]
    rfl
  unfold L2.cutS cutG
  rw [e]
theorem strOk_mk {l : List Nat} (h : ∀ c ∈ l, c < 1114112) : PyData.strOk ⟨l.toArray⟩ = true := by
  unfold PyData.strOk
  rw [Array.all_eq_true]
  intro j hj
  have := h _ (List.getElem_mem (l := l) (by simpa using hj))
  simpa using this
theorem strOk_in {x : Str} (h : PyData.strOk x = true) : ∀ c ∈ x.cps.toList, c < 1114112 := fun c hc => by
  unfold PyData.strOk at h
  rw [Array.all_eq_true] at h
  obtain ⟨i, hi, e⟩ := List.getElem_of_mem hc
  have := h i (by simpa using hi)
  simp at this e
  rw [← e]
  omega
theorem cutG_mem {α : Type} {xs : List α} {lo hi : Option Int} {x : α} (h : x ∈ cutG xs lo hi) : x ∈ xs := by
  unfold cutG at h
  exact List.mem_of_mem_drop (List.mem_of_mem_take h)
theorem strOk_cut {x : Str} {lo hi : Option Int} (h : PyData.strOk x = true) : PyData.strOk (L2.cutS x lo hi) = true := by
  rw [cut_str]
  exact strOk_mk fun c hc => strOk_in h c (cutG_mem hc)
end DW

/-! DW49: a, b = [..], e without a pair; five names at once, the last a list of one's own; a list of one's own out of a cut; a text times a number -/
namespace DW
open PySem PySem.Spec L2 PyProof.Rows
section
variable {X : Cx} {c : C0} {e b : Expr} {we wb w1 w2 w3 w4 : WE} {wl : WA} {pos p2 : Pos}
def wParOE (i j : Nat) (wl : WA) (we : WE) : WS := fun P ρ m => wl ρ m fun ds m1 => we ρ m1 fun d m2 => P.nx ((ρ.set i (.own (.lst ds))).set j (.dat d)) m2
def ds_parOE {st : Stmt} {i j : Nat} (hp : ∀ ta, PA X [e, b] ta → PS X st (tPar i j ta)) (h1 : DL X c e wl) (h2 : DE X c b we)
    (s1 : starEach [e, b] X.env = (false, eval e X.env) :: starEach [b] X.env := by rfl) (s2 : starEach [b] X.env = (false, eval b X.env) :: starEach [] X.env := by rfl) : DS X c st (wParOE i j wl we) :=
  ⟨_, hp _ (pa_cons h1.pe (pa_cons h2.pe pa_nil s2) s1), fun A ρ m σ H G P F hw n rt bb ct => by
    refine h1.rd A ρ m σ H G _ _ hw fun a xs ds m1 H1 G1 na ha k1 ea r1 q1 => ?_
    refine h2.rd (a :: A) ρ m1 σ H1 G1 _ _ q1 fun v d m2 H2 G2 k2 r2 q2 => ?_
    refine ⟨.ref a, v, rfl, ?_⟩
    have a0 : a ∉ c.A0 := fun z => na (G.sub a z)
    have ea3 : H2 a = some (.lst xs) := k2 a _ (fun z => a0 (G1.vin z)) ea
    have g4 := G2.setOwn a0 (own_ne G na) ea3 (.lst (r1.ext (k2.grow G1.toBase).cut)) i
    have g5 := g4.set r2 j
    refine n (a :: A) _ m2 _ _ g5 ⟨(k1.trans k2).grow G.toBase, fun b hb => ?_⟩ q2
    rcases List.mem_cons.mp hb with z | z
    · exact .inr (by rw [z]; exact ha)
    · exact .inl z⟩
/-! ### five names -/
def wAsg5 (i1 i2 i3 i4 i5 : Nat) (w1 w2 w3 w4 : WE) (wl : WA) : WS := fun P ρ m => w1 ρ m fun d1 m1 => w2 ρ m1 fun d2 m2 => w3 ρ m2 fun d3 m3 => w4 ρ m3 fun d4 m4 => wl ρ m4 fun ds m5 =>
  P.nx (((((ρ.set i1 (.dat d1)).set i2 (.dat d2)).set i3 (.dat d3)).set i4 (.dat d4)).set i5 (.own (.lst ds))) m5
def ds_asg5 {i1 i2 i3 i4 i5 : Nat} {x1 x2 x3 x4 x5 : Str} {q1 q2 q3 q4 q5 p1 p3 : Pos} {k k2 : Nat} {e1 e2 e3 e4 e5 : Expr} (hc : X.calm = true) (hN : X.N.Nodup) (a1 : X.N[i1]? = some x1) (b1 : Loc X.env.scope x1) (a2 : X.N[i2]? = some x2) (b2 : Loc X.env.scope x2) (a3 : X.N[i3]? = some x3) (b3 : Loc X.env.scope x3) (a4 : X.N[i4]? = some x4) (b4 : Loc X.env.scope x4) (a5 : X.N[i5]? = some x5) (b5 : Loc X.env.scope x5)
    (h1 : DE X c e1 w1) (h2 : DE X c e2 w2) (h3 : DE X c e3 w3) (h4 : DE X c e4 w4) (h5 : DL X c e5 wl)
    (f1 : X.fn x1 = true ∨ X.env.scope.names.lookup x1 = some .local := by first | exact .inl rfl | exact .inr rfl | assumption) (f2 : X.fn x2 = true ∨ X.env.scope.names.lookup x2 = some .local := by first | exact .inl rfl | exact .inr rfl | assumption) (f3 : X.fn x3 = true ∨ X.env.scope.names.lookup x3 = some .local := by first | exact .inl rfl | exact .inr rfl | assumption) (f4 : X.fn x4 = true ∨ X.env.scope.names.lookup x4 = some .local := by first | exact .inl rfl | exact .inr rfl | assumption) (f5 : X.fn x5 = true ∨ X.env.scope.names.lookup x5 = some .local := by first | exact .inl rfl | exact .inr rfl | assumption)
    (hn : (assignEach [.Name x1 q1, .Name x2 q2, .Name x3 q3, .Name x4 q4, .Name x5 q5] X.env).length = 5 := by rfl) (hst : (assignEach [.Name x1 q1, .Name x2 q2, .Name x3 q3, .Name x4 q4, .Name x5 q5] X.env).findIdx? (·.1) = none := by rfl)
    (t1 : (assignEach [.Name x1 q1, .Name x2 q2, .Name x3 q3, .Name x4 q4, .Name x5 q5] X.env).map (·.2) = assign (.Name x1 q1) X.env :: (assignEach [.Name x2 q2, .Name x3 q3, .Name x4 q4, .Name x5 q5] X.env).map (·.2) := by rfl)
    (t2 : (assignEach [.Name x2 q2, .Name x3 q3, .Name x4 q4, .Name x5 q5] X.env).map (·.2) = assign (.Name x2 q2) X.env :: (assignEach [.Name x3 q3, .Name x4 q4, .Name x5 q5] X.env).map (·.2) := by rfl)
    (t3 : (assignEach [.Name x3 q3, .Name x4 q4, .Name x5 q5] X.env).map (·.2) = assign (.Name x3 q3) X.env :: (assignEach [.Name x4 q4, .Name x5 q5] X.env).map (·.2) := by rfl)
    (t4 : (assignEach [.Name x4 q4, .Name x5 q5] X.env).map (·.2) = assign (.Name x4 q4) X.env :: (assignEach [.Name x5 q5] X.env).map (·.2) := by rfl)
    (t5 : (assignEach [.Name x5 q5] X.env).map (·.2) = assign (.Name x5 q5) X.env :: (assignEach [] X.env).map (·.2) := by rfl)
    (s1 : starEach [e1, e2, e3, e4, e5] X.env = (false, eval e1 X.env) :: starEach [e2, e3, e4, e5] X.env := by rfl) (s2 : starEach [e2, e3, e4, e5] X.env = (false, eval e2 X.env) :: starEach [e3, e4, e5] X.env := by rfl) (s3 : starEach [e3, e4, e5] X.env = (false, eval e3 X.env) :: starEach [e4, e5] X.env := by rfl) (s4 : starEach [e4, e5] X.env = (false, eval e4 X.env) :: starEach [e5] X.env := by rfl) (s5 : starEach [e5] X.env = (false, eval e5 X.env) :: starEach [] X.env := by rfl)
    (hs : swapsWithSole [.Tuple [.Name x1 q1, .Name x2 q2, .Name x3 q3, .Name x4 q4, .Name x5 q5] k p1] (.Tuple [e1, e2, e3, e4, e5] k2 p3) pos.line X.env = pure false := by rfl) (hw : swappedStores [.Tuple [.Name x1 q1, .Name x2 q2, .Name x3 q3, .Name x4 q4, .Name x5 q5] k p1] (.Tuple [e1, e2, e3, e4, e5] k2 p3) X.env = pure none := by rfl)
    (hh : (assignEach [.Tuple [.Name x1 q1, .Name x2 q2, .Name x3 q3, .Name x4 q4, .Name x5 q5] k p1] X.env).map (·.2) = [assign (.Tuple [.Name x1 q1, .Name x2 q2, .Name x3 q3, .Name x4 q4, .Name x5 q5] k p1) X.env] := by rfl) :
    DS X c (.Assign [.Tuple [.Name x1 q1, .Name x2 q2, .Name x3 q3, .Name x4 q4, .Name x5 q5] k p1] (.Tuple [e1, e2, e3, e4, e5] k2 p3) pos) (wAsg5 i1 i2 i3 i4 i5 w1 w2 w3 w4 wl) :=
  ⟨_, ps_asg (pe_tup (pa_cons h1.pe (pa_cons h2.pe (pa_cons h3.pe (pa_cons h4.pe (pa_cons h5.pe pa_nil s5) s4) s3) s2) s1)) (pg_tup hc (pgs_cons (pg_name hN a1 b1 f1) (pgs_cons (pg_name hN a2 b2 f2) (pgs_cons (pg_name hN a3 b3 f3) (pgs_cons (pg_name hN a4 b4 f4) (pgs_cons (pg_name hN a5 b5 f5) pgs_nil t5) t4) t3) t2) t1) hn hst) hs hw hh, fun A ρ m σ H G P F hw n rt bb ct => by
    refine h1.rd A ρ m σ H G _ _ hw fun v1 d1 m1 H1 G1 k1 r1 q1 => h2.rd A ρ m1 σ H1 G1 _ _ q1 fun v2 d2 m2 H2 G2 k2 r2 q2 => h3.rd A ρ m2 σ H2 G2 _ _ q2 fun v3 d3 m3 H3 G3 k3 r3 q3 => h4.rd A ρ m3 σ H3 G3 _ _ q3 fun v4 d4 m4 H4 G4 k4 r4 q4 => ?_
    refine h5.rd A ρ m4 σ H4 G4 _ _ q4 fun a xs ds m5 H5 G5 na ha k5 ea r5 q5 => ?_
    refine ⟨(show 5 ≤ sizeLine by decide), fun p hp => ⟨p, _, rfl, SqT.of upd_same, rfl, v1, [v2, v3, v4, .ref a], rfl, v2, [v3, v4, .ref a], rfl, v3, [v4, .ref a], rfl, v4, [.ref a], rfl, .ref a, [], rfl, rfl, ?_⟩⟩
    have kn : Keep c H5 (upd H5 p (.tup [v1, v2, v3, v4, .ref a])) := Keep.new hp
    have a0 : a ∉ c.A0 := fun z => na (G4.sub a z)
    have ha0 : H a = none := none_back G1 k1 (none_back G2 k2 (none_back G3 k3 (none_back G4 k4 ha)))
    have x5 : Ext (cut A H4) (cut (a :: A) (upd H5 p (.tup [v1, v2, v3, v4, .ref a]))) := fun b u e => by
      obtain ⟨n1, e1⟩ := cut_some e
      have e2 := (k5.trans kn) b u (fun z => n1 (G4.sub b (G4.vin z))) e1
      refine cut_of (fun z => ?_) e2
      rcases List.mem_cons.mp z with z | z
      · rw [z, ha] at e1
        cases e1
      · exact n1 z
    have x4 := fun b u e => x5 b u ((k4.grow G3.toBase).cut b u e)
    have x3 := fun b u e => x4 b u ((k3.grow G2.toBase).cut b u e)
    have x2 := fun b u e => x3 b u ((k2.grow G1.toBase).cut b u e)
    have g0 := G5.fresh (o := .tup [v1, v2, v3, v4, .ref a]) hp
    have g1 := ((((g0.set (r1.ext x2) i1).set (r2.ext x3) i2).set (r3.ext x4) i3).set (r4.ext x5) i4)
    have own5 : ∀ (ρ' : DW.Env) (σ' : L2.St), (∀ (j : Nat) (es : Own), ρ'[j]? = some (Cell.own es) → σ'[j]? ≠ some (some (V.ref a))) → ∀ (d : D) (v : V) (i : Nat), ∀ (j : Nat) (es : Own), (ρ'.set i (.dat d))[j]? = some (Cell.own es) → (σ'.set i (some v))[j]? ≠ some (some (V.ref a)) := fun ρ' σ' h d v i j es e => by
      by_cases hj : i = j
      · subst hj
        by_cases hl : i < ρ'.length
        · rw [List.getElem?_set_self hl] at e
          cases e
        · rw [List.getElem?_eq_none (by rw [List.length_set]; omega)] at e
          cases e
      · rw [List.getElem?_set_ne hj] at e ⊢
        exact h j es e
    have g2 := g1.setOwnM (List.mem_cons_self ..) a0 (own5 _ _ (own5 _ _ (own5 _ _ (own5 _ _ (own_ne G4 na) d1 v1 i1) d2 v2 i2) d3 v3 i3) d4 v4 i4) (kn a _ (fun z => a0 (G5.vin z)) ea) (.lst (r5.ext (kn.grow G5.toBase).cut)) i5
    refine n (a :: A) _ m5 _ _ g2 ⟨((((k1.trans k2).trans k3).trans k4).trans (k5.trans kn)).grow G.toBase, fun b hb => ?_⟩ q5
    rcases List.mem_cons.mp hb with z | z
    · exact .inr (by rw [z]; exact ha0)
    · exact .inl z⟩
/-! ### a new list out of a cut -/
def wSliceL (we : WE) (wl wh : WO) : WA := fun ρ m Q => we ρ m fun d m1 => wl ρ m1 fun lo m2 => wh ρ m2 fun hi m3 => ∃ ds, d = .lst ds ∧ Q (cutG ds lo hi) m3
def dl_slice {lo hi : Option Expr} {wlo whi : WO} (h : DE X c e we) (hl : DO X c lo wlo) (hh : DO X c hi whi) : DL X c (.Subscript e (.Slice lo hi none p2) pos) (wSliceL we wlo whi) :=
  ⟨_, pe_slice sl_list h.pe hl.pe hh.pe, fun A ρ m σ H G Q Qv hw k => h.rd A ρ m σ H G _ _ hw fun v d m1 H1 G1 k1 r1 q1 => hl.rd A ρ m1 σ H1 G1 _ _ q1 fun l1 m2 H2 G2 k2 q2 => hh.rd A ρ m2 σ H2 G2 _ _ q2 fun l2 m3 H3 G3 k3 q3 => by
    have r3 := r1.ext ((k2.trans k3).grow G1.toBase).cut
    obtain ⟨ds, rfl, q3⟩ := q3
    cases r3 with
    | lst h1 r2 =>
      refine ⟨_, _, rfl, SqL.of (cut_some h1).2, fun l hp => ?_⟩
      obtain ⟨g1, g2, g3, g4, g5⟩ := fresh_list G3 hp (RepA.cut r2 l1 l2)
      exact k l _ _ m3 _ g1 g2 (none_back G1 k1 (none_back G2 k2 (none_back G3 k3 hp))) ((k1.trans (k2.trans k3)).trans g3) g4 g5 q3⟩
/-! ### a text times a number -/
def repS (a : Str) (n : Nat) : Str := ⟨(List.replicate n a.cps).foldl (· ++ ·) #[]⟩
theorem op_mul_str : OpR X (binaryOp .Mult) (fun x y H Q => ∃ (a : Str) (n : Nat), x = .str a ∧ y = .int (n : Int) ∧ 2 ≤ n ∧ n ≤ 1000 ∧ 1 ≤ a.length ∧ a.length ≤ 1000 ∧ Q (.str (repS a n)) H) := by
  intro pins s σ H x y v u Q I rx ry h
  obtain ⟨a, n, rfl, rfl, h1, h2, h3, h4, q⟩ := h
  obtain ⟨t, rfl⟩ := rx
  obtain ⟨t', rfl⟩ := ry
  have hm : a.length * n ≤ 1000000 := Nat.mul_le_mul h4 h2
  have n1 : ¬ (n : Int) < 1 := by omega
  have n2 : ((n : Int) == 1 || a.length == 0) = false := by
    rw [Bool.or_eq_false_iff]
    refine ⟨?_, ?_⟩
    · simp only [beq_eq_false_iff_ne]
      omega
    · simp only [beq_eq_false_iff_ne]
      omega
  refine PySem.P.mul_str ?_ (fun _ _ => ?_) (fun _ _ => ?_) ?_
  · rw [decide_eq_false (by omega), decide_eq_false (by omega)]
    rfl
  · have : (1000 : Int) ≤ (2 ^ 63 - 1) / (n : Int) := by
      rw [Int.le_ediv_iff_mul_le (by omega)]
      omega
    omega
  · show decide _ = false
    refine decide_eq_false ?_
    have : (1000000 : Nat) ≤ sizeLine := by decide
    rw [Int.toNat_natCast]
    omega
  · rw [if_neg n1, n2, if_neg (by decide), Int.toNat_natCast]
    refine ⟨?_, ⟨.str (repS a n), H, I.tok _, ⟨_, rfl⟩, q⟩⟩
    have key : ∀ (k : Nat) (z : Array Nat), ((List.replicate k a.cps).foldl (· ++ ·) z).size = z.size + a.length * k := fun k => by
      induction k with
      | zero => intro z; rfl
      | succ k ih =>
        intro z
        rw [List.replicate_succ, List.foldl_cons, ih, Array.size_append, Nat.mul_succ]
        show z.size + a.length + _ = _
        omega
    have := key n #[]
    show ((List.replicate n a.cps).foldl (· ++ ·) #[]).size ≤ sizeLine
    rw [this]
    exact Nat.le_trans (Nat.le_of_eq (Nat.zero_add _)) (Nat.le_trans hm (by decide))
def mulS : D → D → (D → Prop) → Prop := fun d e Q => ∃ (a : Str) (n : Nat), d = .str a ∧ e = .int (n : Int) ∧ 2 ≤ n ∧ n ≤ 1000 ∧ 1 ≤ a.length ∧ a.length ≤ 1000 ∧ Q (.str (repS a n))
theorem rd_mulS {K : PySem.W.Frag} : RdOp K c (fun x y H Q => ∃ (a : Str) (n : Nat), x = .str a ∧ y = .int (n : Int) ∧ 2 ≤ n ∧ n ≤ 1000 ∧ 1 ≤ a.length ∧ a.length ≤ 1000 ∧ Q (.str (repS a n)) H) mulS := fun A ρ m σ H G x y d e rx ry Q Qv h k => by
  obtain ⟨a, n, rfl, rfl, h1, h2, h3, h4, q⟩ := h
  cases rx
  cases ry
  exact ⟨a, n, rfl, rfl, h1, h2, h3, h4, k _ _ H G Keep.refl (.str _) q⟩
def de_mulS (ha : DE X c e we) (hb : DE X c b wb) : DE X c (.BinOp e .Mult b pos) (wOp mulS we wb) := de_binop op_mul_str rd_mulS ha hb
end
end DW

namespace DW
open PySem PySem.Spec L2
def topS (i : Nat) : Stmt := PySem.Challenge.pw_anylead_k33_texts_of_plays.main.body.getD i (.Pass ⟨0, 0, 0, 0⟩)
abbrev s_pen : Stmt := topS 47
theorem sc_pen : FnScope ["_law_script", "_law_fold", "_law_cell"] ["_law_script"] (defScope s_pen) := ⟨rfl, rfl, rfl, by decide +kernel, rfl, by decide +kernel, by decide +kernel⟩
abbrev s_draw : Stmt := topS 48
theorem sc_draw : FnScope ["_law_pen_here", "_law_many", "_law_cell", "_law_digit", "_law_mixed"] ["_law_pen_here", "_law_many"] (defScope s_draw) := ⟨rfl, rfl, rfl, by decide +kernel, rfl, by decide +kernel, by decide +kernel⟩
structure TPen (mg : Str → Option Value) : Prop where
  b_int : mg "int" = none
  b_len : mg "len" = none
  b_list : mg "list" = none
section
variable {P : Program} {w : World} {K : PySem.W.Frag} {TT : List (Addr × Str)} {mg : Str → Option Value} {base : Heap}
theorem ite_y {b : Bool} {P Q : Prop} (h : b = true) (p : P) : (if b = true then P else Q) := by
  rw [if_pos h]
  exact p
theorem ite_n {b : Bool} {P Q : Prop} (h : ¬ b = true) (q : Q) : (if b = true then P else Q) := by
  rw [if_neg h]
  exact q
theorem ite_yn {b : Bool} {P Q : Prop} (p : b = true → P) (q : b = false → Q) : (if b = true then P else Q) := by
  cases b with
  | true => exact p rfl
  | false => exact q rfl
theorem seq_cut {t u : TS} {D : Ends} {σ : L2.St} {H : Hp} (Φ : L2.St → Hp → Prop) (h2 : ∀ σ' H', Φ σ' H' → u D σ' H') (h1 : (∀ σ' H', Φ σ' H' → u D σ' H') → tSeq t u D σ H) : tSeq t u D σ H := h1 h2
theorem ok_draw {g : Bool} {f : Addr} {fd : FuncData} (F : Fun K "_law_draw" "_law_draw" s_draw f fd) (T : TPen mg) : FnG g P w K mg base CX0 1 f fd ["_law_pen_here", "_law_many"] (spD K TT fwDraw) := by
  refine fnG_of F sc_draw (fun vs H Q E h => ?_) (fun cdv A outer s H vs Q E hr hg hcd h => ?_)
  · obtain ⟨p, cc, B, ds, m, R, r, _, ⟨n, rfl, _⟩, _⟩ := h
    rw [r.length]
    rfl
  · obtain ⟨p, cc, B, ds, m, R, r, cx, ⟨n, rfl, n0, n1, hm, hR⟩, k⟩ := h
    obtain ⟨v, u, rfl, rv, ru⟩ := repA2 r
    cases ru
    cases rv with
    | pen hp =>
    rename_i q
    have PA := cx.am.pen q hp
    obtain ⟨ns, i, dg, ct, fd0, h1, h2, hi, hn, hdg, hct, hct2, hf0, hf1⟩ := PA.ex
    have hu := hu_of hr
    refine ⟨_, PSs.nox (pss_cons (ps_dput hu (pv 0) pe_str (pe_op op_add (pe_dget hu (pv 0) pe_str (fun _ _ => rfl)) pe_int) rfl)
      (pss_cons (ps_if (PW.pt (pw_and (pt_cmpR op_eq (pe_dget hu (pv 0) pe_str (fun _ _ => rfl)) pe_int (nomark _)) (pw_and1 (pt_cmpR op_lt (pe_dget hu (pv 0) pe_str (fun _ _ => rfl)) (pe_callB call_len_seq (by rfl) T.b_len PySem.boot_len (pa_cons (pe_dget hu (pv 0) pe_str (fun _ _ => rfl)) pa_nil)) (nomark _)))))
        (pss_cons (ps_set (i := 2) sc_draw.nd rfl (Or.inl rfl) (pe_ix ix_list (pe_dget hu (pv 0) pe_str (fun _ _ => rfl)) (pe_dget hu (pv 0) pe_str (fun _ _ => rfl)) (fun _ _ => rfl)))
          (pss_cons (ps_dput hu (pv 0) pe_str (pe_op op_add (pe_dget hu (pv 0) pe_str (fun _ _ => rfl)) pe_int) rfl)
          (pss_one (ps_if (pt_cmpR op_ge (pv 2) (pe_op op_pow pe_int pe_int) (nomark _))
            (pss_one (ps_dput hu (pv 0) pe_str (pe_op op_sub (pv 2) (pe_op op_pow pe_int pe_int)) rfl))
            (pss_one (ps_dput hu (pv 0) pe_str (pe_op op_mod (pe_callTy call_int1 (by rfl) T.b_int (by decide +kernel) (pa_cons (pe_op op_add (pe_op op_mul (pe_dget hu (pv 0) pe_str (fun _ _ => rfl)) pe_int) (pv 2)) pa_nil)) pe_int) rfl))))))
        pss_nil)
      (pss_cons (ps_if (pt_cmpR op_gt (pe_dget hu (pv 0) pe_str (fun _ _ => rfl)) pe_int (nomark _))
        (pss_cons (ps_set (i := 3) sc_draw.nd rfl (Or.inl rfl) (pe_op op_mod (pe_callTy call_int1 (by rfl) T.b_int (by decide +kernel) (pa_cons (pe_dget hu (pv 0) pe_str (fun _ _ => rfl)) pa_nil)) (pv 1)))
          (pss_cons (ps_dput hu (pv 0) pe_str (pe_op op_fdiv (pe_dget hu (pv 0) pe_str (fun _ _ => rfl)) (pv 1)) rfl)
          (pss_one (ps_ret (pv 3)))))
        pss_nil)
      (pss_cons (ps_set (i := 4) sc_draw.nd rfl (Or.inl rfl) (pe_op op_add (pe_op op_add (pe_dget hu (pv 0) pe_str (fun _ _ => rfl)) (pe_op op_mul (pe_dget hu (pv 0) pe_str (fun _ _ => rfl)) pe_int)) pe_int))
      (pss_one (ps_ret (pe_op op_mod (pe_op op_fdiv (pe_callTy call_int1 (by rfl) T.b_int (by decide +kernel) (pa_cons (pe_op op_mod (pe_op op_pow (pv 4) pe_int) pe_int) pa_nil)) pe_int) (pv 1)))))))), ?_⟩
    have hσ : (L2.start ["_law_pen_here", "_law_many", "_law_cell", "_law_digit", "_law_mixed"] [V.ref q, V.int n])[0]? = some (some (.ref q)) := rfl
    have qc : q ≠ cc := fun z => by
      rw [z, h2] at h1
      cases h1
    obtain ⟨g1, g2, g3, g4, g5⟩ := pen_get cc i dg ct fd0
    refine ⟨_, rfl, q, _, rfl, dget h1 g4, _, _, rfl, rfl, _, rfl, q, _, rfl, dput h1 pen_len (pen_put cc i dg ct fd0 (ct + 1)).1, ?_⟩
    have H1 : (upd H q (.dK (penKvs cc i dg (ct + 1) fd0))) q = some (.dK (penKvs cc i dg (ct + 1) fd0)) := upd_same
    have H2 : (upd H q (.dK (penKvs cc i dg (ct + 1) fd0))) cc = some (.lst (ns.map V.int)) := by rw [upd_ne (Ne.symm qc)]; exact h2
    generalize hH1 : upd H q (.dK (penKvs cc i dg (ct + 1) fd0)) = G at *
    have fr : ∀ b, b ≠ q → G b = H b := fun b z => by rw [← hH1]; exact upd_ne z
    clear hH1
    dsimp only
    refine seq_cut (t := tIfS (tAnd _ _) _ _) (fun σ' G' => σ'.length = 5 ∧ σ'[0]? = some (some (.ref q)) ∧ σ'[1]? = some (some (.int n)) ∧ (∀ b, b ≠ q → G' b = H b) ∧ ∃ (i' : Nat) (dg' fd' : Int), G' q = some (.dK (penKvs cc i' dg' (ct + 1) fd')) ∧ i' ≤ ns.length ∧ 0 ≤ dg' ∧ 0 ≤ fd' ∧ fd' < 2147483587) ?_ ?_
    · rintro σ' G' ⟨e5, e0, e1, fr', i', dg', fd', gq, hi', hdg', hf0', hf1'⟩
      obtain ⟨g1, g2, g3, g4, g5⟩ := pen_get cc i' dg' (ct + 1) fd'
      have fin : ∀ (j : Int) (i2 : Nat) (dg2 fd2 : Int) (G2 : Hp), (∀ b, b ≠ q → G2 b = H b) → G2 q = some (.dK (penKvs cc i2 dg2 (ct + 1) fd2)) → i2 ≤ ns.length → 0 ≤ dg2 → 0 ≤ fd2 → fd2 < 2147483587 → 0 ≤ j → j < n → Q (.int j) G2 := fun j i2 dg2 fd2 G2 f2 q2 a1 a2 a3 a4 a5 a6 =>
        k (.int j) (.int j) (m + 1) G2 (fun b o nb e => by rw [f2 b (fun z => nb (.inl (by rw [hp, z])))]; exact e) ⟨fun q' e' => by
          rw [hp] at e'
          cases e'
          exact ⟨ns, i2, dg2, ct + 1, fd2, q2, by rw [f2 _ (Ne.symm qc)]; exact h2, a1, hn, a2, by omega, by omega, a3, a4⟩, fun x hx => by
          obtain ⟨φ, t1, t2, t3⟩ := cx.am.tab x hx
          refine ⟨φ, by rw [f2 _ (fun z => by rw [z, h1] at t1; cases t1)]; exact t1, t2, fun pos cv hc => ?_⟩
          obtain ⟨d, e1, e2⟩ := t3 pos cv hc
          exact ⟨d, e1, by rw [f2 _ (fun z => by rw [z, h1] at e2; cases e2)]; exact e2⟩⟩ (.int j) (hR j a5 a6)
      refine ⟨_, e0, q, _, rfl, dget gq g3, _, _, rfl, rfl, _, rfl, ?_⟩
      by_cases hd : 0 < dg'
      · refine ite_y (by simpa using hd) ?_
        refine ⟨_, e0, q, _, rfl, dget gq g3, .inl ⟨_, rfl, _, e1, _, _, rfl, rfl, n0, ?_⟩⟩
        have x0 : (σ'.set 3 (some (V.int (dg' % n))))[0]? = some (some (.ref q)) := by rw [List.getElem?_set_ne (by decide)]; exact e0
        have x1 : (σ'.set 3 (some (V.int (dg' % n))))[1]? = some (some (.int n)) := by rw [List.getElem?_set_ne (by decide)]; exact e1
        have x3 : (σ'.set 3 (some (V.int (dg' % n))))[3]? = some (some (V.int (dg' % n))) := by rw [List.getElem?_set_self (by omega)]
        refine ⟨_, x0, q, _, rfl, dget gq g3, _, x1, _, _, rfl, rfl, ⟨n0, n1⟩, _, x0, q, _, rfl, dput gq pen_len (pen_put _ _ _ _ _ _).2.2.1, _, x3, ?_⟩
        exact fin _ i' (dg' / n) fd' _ (fun b hb => by rw [upd_ne hb]; exact fr' b hb) upd_same hi' (Int.ediv_nonneg hdg' (by omega)) hf0' hf1' (emod_lt' n0).1 (emod_lt' n0).2
      · refine ite_n (by simpa using hd) ?_
        refine ⟨_, e0, q, _, rfl, dget gq g5, _, e0, q, _, rfl, dget gq g4, _, _, rfl, rfl, .inr ⟨by omega, by omega⟩, _, _, rfl, rfl, _, _, rfl, rfl, ?_⟩
        have x1 : (σ'.set 4 (some (V.int (fd' + (ct + 1) * 7919 + 41))))[1]? = some (some (.int n)) := by rw [List.getElem?_set_ne (by decide)]; exact e1
        have x4 : (σ'.set 4 (some (V.int (fd' + (ct + 1) * 7919 + 41))))[4]? = some (some (V.int (fd' + (ct + 1) * 7919 + 41))) := by rw [List.getElem?_set_self (by omega)]
        refine ⟨_, x4, _, _, rfl, rfl, ⟨by decide, by decide, by omega⟩, _, _, rfl, rfl, (show (0 : Int) < 2305843009213693951 by decide), .inl ⟨_, rfl, _, _, rfl, rfl, ⟨by decide, by decide⟩, _, x1, _, _, rfl, rfl, n0, ?_⟩⟩
        exact fin _ i' dg' fd' G' fr' gq hi' hdg' hf0' hf1' (emod_lt' n0).1 (emod_lt' n0).2
    · intro tail
      obtain ⟨g1, g2, g3, g4, g5⟩ := pen_get cc i dg (ct + 1) fd0
      refine ⟨_, rfl, q, _, rfl, dget H1 g3, rfl, _, rfl, ?_⟩
      have stay := tail (L2.start ["_law_pen_here", "_law_many", "_law_cell", "_law_digit", "_law_mixed"] [V.ref q, V.int n]) G ⟨rfl, rfl, rfl, fr, i, dg, fd0, H1, hi, hdg, hf0, hf1⟩
      refine ite_yn (fun z1 => ?_) fun _ => stay
      refine ⟨_, rfl, q, _, rfl, dget H1 g2, _, rfl, q, _, rfl, dget H1 g1, _, _, rfl, .inl (SqL.of H2), _, _, rfl, rfl, _, rfl, ?_⟩
      refine ite_yn (fun z2 => ?_) fun _ => stay
      have il : i < ns.length := by
        have := of_decide_eq_true z2
        rw [List.length_map] at this
        omega
      have d0 : dg = 0 := by
        have := of_decide_eq_true z1
        injection this
      refine ⟨_, rfl, q, _, rfl, dget H1 g1, _, rfl, q, _, rfl, dget H1 g2, cc, ns.map V.int, i, .int (ns[i]'il), rfl, rfl, SqL.of H2, ?_, ?_⟩
      · unfold atI ixN
        rw [List.length_map, if_pos (by omega), if_pos (by omega)]
        simp [il]
      refine ⟨_, rfl, q, _, rfl, dget H1 g2, _, _, rfl, rfl, _, rfl, q, _, rfl, dput H1 pen_len (pen_put _ _ _ _ _ _).2.1, ?_⟩
      have i1 : ((i : Int) + 1) = ((i + 1 : Nat) : Int) := rfl
      rw [i1]
      obtain ⟨g1', g2', g3', g4', g5'⟩ := pen_get cc (i + 1 : Nat) dg (ct + 1) fd0
      have fr1 : ∀ b, b ≠ q → (upd G q (.dK (penKvs cc (i + 1 : Nat) dg (ct + 1) fd0))) b = H b := fun b z => by rw [upd_ne z]; exact fr b z
      refine ⟨_, rfl, _, _, rfl, rfl, ⟨by decide, by decide, by decide⟩, _, _, rfl, rfl, _, rfl, ?_⟩
      refine ite_yn (fun z3 => ?_) fun z3 => ?_
      · refine ⟨_, rfl, _, _, rfl, rfl, ⟨by decide, by decide, by decide⟩, _, _, rfl, rfl, _, rfl, q, _, rfl, dput upd_same pen_len (pen_put _ _ _ _ _ _).2.2.1, ?_⟩
        refine tail _ _ ⟨rfl, rfl, rfl, fun b z => by rw [upd_ne z]; exact fr1 b z, i + 1, _, fd0, upd_same, by omega, ?_, hf0, hf1⟩
        have := of_decide_eq_true z3
        have e : (10 : Int) ^ (18 : Int).toNat = 1000000000000000000 := by decide
        rw [e] at this ⊢
        omega
      · refine ⟨_, rfl, q, _, rfl, dget upd_same g5', _, _, rfl, rfl, .inr ⟨by decide, by decide⟩, _, rfl, _, _, rfl, rfl, .inl ⟨_, rfl, _, _, rfl, rfl, (show (0 : Int) < 2147483587 by decide), _, rfl, q, _, rfl, dput upd_same pen_len (pen_put _ _ _ _ _ _).2.2.2, ?_⟩⟩
        exact tail _ _ ⟨rfl, rfl, rfl, fun b z => by rw [upd_ne z]; exact fr1 b z, i + 1, dg, _, upd_same, by omega, hdg, (emod_lt' (by decide)).1, (emod_lt' (by decide)).2⟩
theorem pen_merge (cc : Addr) (i dg ct fd : Int) : mergeK [] (penKvs cc i dg ct fd) = penKvs cc i dg ct fd := by
  have h1 : ¬ (("cells" : Str) = "at") := by decide +kernel
  have h2 : ¬ (("cells" : Str) = "digits") := by decide +kernel
  have h3 : ¬ (("cells" : Str) = "count") := by decide +kernel
  have h4 : ¬ (("cells" : Str) = "fold") := by decide +kernel
  have h5 : ¬ (("at" : Str) = "digits") := by decide +kernel
  have h6 : ¬ (("at" : Str) = "count") := by decide +kernel
  have h7 : ¬ (("at" : Str) = "fold") := by decide +kernel
  have h8 : ¬ (("digits" : Str) = "count") := by decide +kernel
  have h9 : ¬ (("digits" : Str) = "fold") := by decide +kernel
  have h0 : ¬ (("count" : Str) = "fold") := by decide +kernel
  simp [mergeK, putK, penKvs, h1, h2, h3, h4, h5, h6, h7, h8, h9, h0]
theorem ok_pen {g : Bool} {f : Addr} {fd : FuncData} (F : Fun K "_law_pen" "_law_pen" s_pen f fd) (T : TPen mg) : FnG g P w K mg base CX0 1 f fd ["_law_script"] (spPen K) := by
  refine fnG_of F sc_pen (fun vs H Q E h => ?_) (fun cdv A outer s H vs Q E hr hg hcd h => ?_)
  · obtain ⟨a, ns, rfl, _⟩ := h
    rfl
  · obtain ⟨a, ns, rfl, hS, hlen, k⟩ := h
    refine ⟨_, PSs.nox (pss_cons (ps_set (i := 1) sc_pen.nd rfl (Or.inl rfl) pe_int)
      (pss_cons (ps_for PassesOwn.never rfl (pi_list (pv 0)) (pg_name (i := 2) sc_pen.nd rfl (Or.inl rfl))
        (pss_one (ps_set (i := 1) sc_pen.nd rfl (Or.inl rfl) (pe_op op_mod (pe_callTy call_int1 (by rfl) T.b_int (by decide +kernel) (pa_cons (pe_op op_add (pe_op op_mul (pv 1) pe_int) (pv 2)) pa_nil)) pe_int))))
      (pss_one (ps_ret (pe_disp (pps_cons pe_str (pe_callTy call_list_of (by rfl) T.b_list (by decide +kernel) (pa_cons (pv 0) pa_nil)) (pps_cons pe_str pe_int (pps_cons pe_str pe_int (pps_cons pe_str pe_int (pps_cons pe_str (pv 1) pps_nil))))) (by rfl) (by rfl) (fun z => by cases z) (by decide)))))), ?_⟩
    refine ⟨_, rfl, a, rfl, ⟨_, hS⟩, for_list (K := K) (a := a) (xs := ns.map V.int) (fun i σ H2 => ∃ (fo : Int) (v : Option V), σ = [some (.ref a), some (.int fo), v] ∧ H2 = H ∧ 0 ≤ fo ∧ fo < 1000000007)
      ⟨0, none, rfl, rfl, by decide, by decide⟩ (fun i σ H2 _ ⟨_, _, _, e, _⟩ => by rw [e]; exact hS) ?_ ?_⟩
    · rintro i y σ H2 hi ⟨fo, v, rfl, rfl, f0, f1⟩
      obtain ⟨z, rfl⟩ : ∃ z, y = V.int z := by
        rw [List.getElem?_map] at hi
        cases e : ns[i]? with
        | none =>
          rw [e] at hi
          cases hi
        | some z =>
          rw [e] at hi
          exact ⟨z, (Option.some.inj hi).symm⟩
      refine ⟨_, rfl, _, _, rfl, rfl, .inr ⟨by decide, by decide⟩, _, rfl, _, _, rfl, rfl, .inl ⟨_, rfl, _, _, rfl, rfl, (show (0 : Int) < 1000000007 by decide), ?_⟩⟩
      exact ⟨_, _, rfl, rfl, (emod_lt' (by decide)).1, (emod_lt' (by decide)).2⟩
    · rintro σ H2 ⟨fo, v, rfl, rfl, f0, f1⟩
      intro p hp
      have s1 : Same H2 (upd H2 p (.dK [])) := fun b o e => by
        rw [upd_ne (ne_of_none e hp)]
        exact e
      refine ⟨_, rfl, a, ns.map V.int, rfl, .inl (s1.seq hS), fun l hl => ?_⟩
      have lp : l ≠ p := fun z => by
        rw [z, upd_same] at hl
        cases hl
      have hl2 : H2 l = none := by rwa [upd_ne lp] at hl
      refine ⟨_, rfl, by rw [upd_ne (Ne.symm lp)]; exact upd_same, penKvs l (0 : Nat) 0 0 fo, rfl, (show 5 ≤ 15 by decide), ?_⟩
      rw [pen_merge]
      refine k p l _ (fun b o e => ?_) hp hl2 (Ne.symm lp) ⟨ns, 0, 0, 0, fo, upd_same, by rw [upd_ne lp]; exact upd_same, by omega, hlen, by decide, by decide, by decide, f0, by omega⟩
      rw [upd_ne (ne_of_none e hp), upd_ne (ne_of_none e hl2), upd_ne (ne_of_none e hp)]
      exact e
end
end DW

namespace DW
open PySem PySem.Spec L2
/-- the module's own classes whose instances are met -/
abbrev csB (ad : Str → Addr) : List Addr := [ad "Move", ad "Goal", ad "Book", ad "Play"]
def wordsL : List Str := ["least", "most", "is", "not"]
def fldsB : List (Str × Str) := [("Move", "place"), ("Move", "conditions"), ("Move", "shift"), ("Move", "target"), ("Goal", "place"), ("Goal", "conditions"), ("Book", "sides"), ("Book", "moves"), ("Book", "goals"), ("Book", "places"), ("Play", "book"), ("Play", "place"), ("Play", "n"), ("Play", "moves"), ("Play", "states"), ("Play", "here"), ("Play", "ended"), ("Play", "choices"), ("Play", "turn")]
structure TB (K : PySem.W.Frag) (mg : Str → Option Value) (ad : Str → Addr) : Prop where
  b_isinstance : mg "isinstance" = none
  b_int : mg "int" = none
  b_bool : mg "bool" = none
  b_str : mg "str" = none
  b_list : mg "list" = none
  b_tuple : mg "tuple" = none
  b_len : mg "len" = none
  b_all : mg "all" = none
  b_any : mg "any" = none
  b_enumerate : mg "enumerate" = none
  b_range : mg "range" = none
  b_max : mg "max" = none
  b_min : mg "min" = none
  b_abs : mg "abs" = none
  b_sum : mg "sum" = none
  mg_Move : mg "Move" = some (.ref (ad "Move"))
  mg_Goal : mg "Goal" = some (.ref (ad "Goal"))
  mg_Book : mg "Book" = some (.ref (ad "Book"))
  mg_Play : mg "Play" = some (.ref (ad "Play"))
  mg_WORDS : mg "WORDS" = some (.ref (ad "WORDS"))
  ki : Kinds K (csB ad)
  ne : ad "Move" ≠ ad "Goal" ∧ ad "Move" ≠ ad "Book" ∧ ad "Goal" ≠ ad "Book"
  np : ad "Move" ≠ ad "Play" ∧ ad "Goal" ≠ ad "Play" ∧ ad "Book" ≠ ad "Play"
  cl : ∀ x ∈ (["Move", "Goal", "Book", "Play"] : List Str), Cls K (ad x)
  na : ∀ q ∈ fldsB, NoAttr K (ad q.1) q.2
  words : strsB K (ad "WORDS") wordsL = true
def fwWhole (cs : List Addr) : FW := fun ds m Q => ∃ d, ds = [d] ∧ d.known cs = true ∧ Q (.bl d.isWhole) m
def fwRow (cs : List Addr) : FW := fun ds m Q => ∃ d, ds = [d] ∧ d.known cs = true ∧ Q (.bl d.isRow) m
def D.isIx (n : Int) : D → Bool
  | .int i => decide (0 ≤ i) && decide (i < n)
  | _ => false
def fwIndex (cs : List Addr) : FW := fun ds m Q => ∃ d n, ds = [d, .int n] ∧ d.known cs = true ∧ Q (.bl (d.isIx n)) m
theorem isWhole_ty (d : D) : d.isWhole = (d.isTy "int" && !d.isTy "bool") := by cases d <;> rfl

mutual
def D.tupled : D → D
  | .lst ds => .tup (tupledA ds)
  | .tup ds => .tup (tupledA ds)
  | d => d
def tupledA : List D → List D
  | [] => []
  | d :: ds => d.tupled :: tupledA ds
end
theorem tupledA_map : ∀ ds : List D, tupledA ds = ds.map D.tupled
  | [] => rfl
  | d :: ds => by rw [tupledA, tupledA_map ds]; rfl
mutual
/-- how deep rows lie in rows -/
def D.rdep : D → Nat
  | .lst ds => rdepA ds + 1
  | .tup ds => rdepA ds + 1
  | _ => 0
def rdepA : List D → Nat
  | [] => 0
  | d :: ds => max d.rdep (rdepA ds)
end
theorem rdep_mem {x : D} : ∀ {ds : List D}, x ∈ ds → x.rdep ≤ rdepA ds
  | d :: ds, h => by
    rw [rdepA]
    rcases List.mem_cons.mp h with rfl | h
    · exact Nat.le_max_left ..
    · exact Nat.le_trans (rdep_mem h) (Nat.le_max_right ..)
mutual
/-- all that lies in rows is of known kinds, and no row is long -/
def D.okT (cs : List Addr) : D → Bool
  | .lst ds => decide (ds.length < 10000) && okTA cs ds
  | .tup ds => decide (ds.length < 10000) && okTA cs ds
  | .str x => PyData.strOk x
  | d => d.known cs
def okTA (cs : List Addr) : List D → Bool
  | [] => true
  | d :: ds => d.okT cs && okTA cs ds
end
theorem okTA_mem {cs : List Addr} {x : D} : ∀ {ds : List D}, okTA cs ds = true → x ∈ ds → x.okT cs = true
  | d :: ds, g, h => by
    rw [okTA, Bool.and_eq_true] at g
    rcases List.mem_cons.mp h with rfl | h
    · exact g.1
    · exact okTA_mem g.2 h
theorem okT_known {cs : List Addr} {d : D} (h : d.okT cs = true) : d.known cs = true := by cases d <;> first | rfl | exact h
theorem okT_row {cs : List Addr} {ds : List D} (h : (D.lst ds).okT cs = true) : ds.length < 10000 ∧ ∀ x ∈ ds, x.okT cs = true := by
  rw [D.okT, Bool.and_eq_true] at h
  exact ⟨of_decide_eq_true h.1, fun x hx => okTA_mem h.2 hx⟩
theorem row_cases {d : D} (h : d.isRow = true) : ∃ es, d = .lst es ∨ d = .tup es := by cases d <;> first | exact ⟨_, .inl rfl⟩ | exact ⟨_, .inr rfl⟩ | cases h
def restB : List D → Bool
  | [.int a, .int b] => decide (0 ≤ b) && decide (b < a)
  | _ => false
theorem restB_long (a b c : D) (r : List D) : restB (a :: b :: c :: r) = false := by cases a <;> first | rfl | (cases b <;> rfl)
/-- a condition as the document has it -/
def D.isCond : D → Bool
  | .tup (.str s :: r) => !r.isEmpty && (r.all D.isWhole && (if s = "rest" then restB r else wordsL.any (fun x => x == s) && r.length == 1))
  | _ => false
theorem cond_eq (s : Str) (b : D) (r : List D) : (D.tup (.str s :: b :: r)).isCond = ((b :: r).all D.isWhole && (if s = "rest" then restB (b :: r) else wordsL.any (fun x => x == s) && (b :: r).length == 1)) := rfl
def fwCond (cs : List Addr) : FW := fun ds m Q => ∃ d, ds = [d] ∧ d.okT cs = true ∧ Q (.bl d.isCond) m
def D.isConds : D → Bool
  | .tup ds => ds.all D.isCond
  | _ => false
def fwConds (cs : List Addr) : FW := fun ds m Q => ∃ d, ds = [d] ∧ d.okT cs = true ∧ Q (.bl d.isConds) m
abbrev moveD (ad : Str → Addr) (p c s t : D) : D := .obj (ad "Move") [("place", p), ("conditions", c), ("shift", s), ("target", t)]
abbrev goalD (ad : Str → Addr) (p c : D) : D := .obj (ad "Goal") [("place", p), ("conditions", c)]
def isMv (ad : Str → Addr) (n : Int) : D → Bool
  | .obj C [(_, p), (_, c), (_, s), (_, t)] => decide (C = ad "Move") && (p.isIx n && (c.isConds && (s.isWhole && t.isIx n)))
  | _ => false
def isGl (ad : Str → Addr) (n : Int) : D → Bool
  | .obj C [(_, p), (_, c)] => decide (C = ad "Goal") && (p.isIx n && c.isConds)
  | _ => false
def MvIn (ad : Str → Addr) (d : D) : Prop := d.known (csB ad) = true ∧ (d.isObj (ad "Move") = true → ∃ p c s t, d = moveD ad p c s t ∧ p.okT (csB ad) = true ∧ c.okT (csB ad) = true ∧ s.okT (csB ad) = true ∧ t.okT (csB ad) = true)
def GlIn (ad : Str → Addr) (d : D) : Prop := d.known (csB ad) = true ∧ (d.isObj (ad "Goal") = true → ∃ p c, d = goalD ad p c ∧ p.okT (csB ad) = true ∧ c.okT (csB ad) = true)
theorem isMv_no {ad : Str → Addr} {n : Int} {d : D} (h : d.isObj (ad "Move") = false) : isMv ad n d = false := by
  unfold isMv
  split
  · rw [show decide (_ = ad "Move") = false from h]
    rfl
  · rfl
theorem isGl_no {ad : Str → Addr} {n : Int} {d : D} (h : d.isObj (ad "Goal") = false) : isGl ad n d = false := by
  unfold isGl
  split
  · rw [show decide (_ = ad "Goal") = false from h]
    rfl
  · rfl
def fwIsMv (ad : Str → Addr) : FW := fun ds m Q => ∃ d n, ds = [d, .int n] ∧ MvIn ad d ∧ Q (.bl (isMv ad n d)) m
def fwIsGl (ad : Str → Addr) : FW := fun ds m Q => ∃ d n, ds = [d, .int n] ∧ GlIn ad d ∧ Q (.bl (isGl ad n d)) m
def rows : D → List D
  | .lst ds => ds
  | .tup ds => ds
  | _ => []
def firstNo (f : D → Bool) : Nat → List D → Option Nat
  | _, [] => none
  | k, d :: ds => if f d = true then firstNo f (k + 1) ds else some k
theorem firstNo_at {f : D → Bool} {d : D} (hd : f d = false) : ∀ {ds : List D} {i k : Nat}, ds[i]? = some d → (ds.take i).all f = true → firstNo f k ds = some (k + i)
  | x :: ds, 0, k, h, _ => by
    cases h
    rw [firstNo, if_neg (by rw [hd]; decide)]
    rfl
  | x :: ds, i + 1, k, h, g => by
    rw [List.take_succ_cons, List.all_cons, Bool.and_eq_true] at g
    rw [firstNo, if_pos g.1, firstNo_at hd (by simpa using h) g.2]
    congr 1
    omega
theorem firstNo_no {f : D → Bool} : ∀ {ds : List D} {k : Nat}, ds.all f = true → firstNo f k ds = none
  | [], _, _ => rfl
  | x :: ds, k, g => by
    rw [List.all_cons, Bool.and_eq_true] at g
    rw [firstNo, if_pos g.1, firstNo_no g.2]
def faultR (f : D → Bool) (d : D) : Option D := if d.isRow = true then (firstNo f 0 (rows d)).map fun i => .int i else some .non
def faultS (d : D) : Option D := if d.isRow = true ∧ (rows d).length ≠ 0 then (firstNo (D.isIx 2) 0 (rows d)).map fun i => .int i else some .non
def bad (ad : Str → Addr) (QX : Addr → List (Str × D) → Nat → Prop) (m : Nat) (w : Str) (i : D) : Prop := QX (ad "BadBook") [("index", i), ("what", .str w)] m
def onF (o : Option D) (a : Prop) (b : D → Prop) : Prop := match o with
  | none => a
  | some i => b i
def fwNeedS (ad : Str → Addr) : FWX := fun ds m Q QX => ∃ d, ds = [d] ∧ d.okT (csB ad) = true ∧ onF (faultS d) (Q .non m) (bad ad QX m "sides")
def fwNeedM (ad : Str → Addr) : FWX := fun ds m Q QX => ∃ d n, ds = [d, .int n] ∧ d.known (csB ad) = true ∧ (∀ x ∈ rows d, MvIn ad x) ∧ onF (faultR (isMv ad n) d) (Q .non m) (bad ad QX m "moves")
def fwNeedG (ad : Str → Addr) : FWX := fun ds m Q QX => ∃ d n, ds = [d, .int n] ∧ d.known (csB ad) = true ∧ (∀ x ∈ rows d, GlIn ad x) ∧ onF (faultR (isGl ad n) d) (Q .non m) (bad ad QX m "goals")
def fwTup (cs : List Addr) (n : Nat) : FW := fun ds m Q => ∃ d, ds = [d] ∧ d.okT cs = true ∧ d.rdep ≤ n ∧ Q d.tupled m
section
variable {P : Program} {w : World} {K : PySem.W.Frag} {TT : List (Addr × Str)} {mg : Str → Option Value} {base : Heap} {ad : Str → Addr}
abbrev s_is_whole : Stmt := topS 10
theorem sc_is_whole : FnScope ["value"] ["value"] (defScope s_is_whole) := ⟨rfl, rfl, rfl, by decide +kernel, rfl, by decide +kernel, by decide +kernel⟩
theorem ok_is_whole {f : Addr} {fd : FuncData} (F : Fun K "is_whole" "is_whole" s_is_whole f fd) (T : TB K mg ad) : FnG false P w K mg base CX0 1 f fd ["value"] (spD K TT (fwWhole (csB ad))) := by
  refine fn_data (k := 0) F sc_is_whole (fun ds m Q h => ?_) (fun cdv A outer s H E p cc B hr hgs hcd => (dss_one (ds_ret (de_and (de_isB (K := K) (T := "int") rfl (by rfl) T.b_isinstance (by rfl) T.b_int (by decide +kernel) (de_var 0)) (de_one (de_not (de_isB (K := K) (T := "bool") rfl (by rfl) T.b_isinstance (by rfl) T.b_bool (by decide +kernel) (de_var 0)))))))) fun ds m Q h => ?_
  · obtain ⟨d, rfl, _⟩ := h
    rfl
  · obtain ⟨d, rfl, hk, hQ⟩ := h
    obtain ⟨t, h1, h2⟩ := T.ki.isB hk (T := "int") (by decide)
    obtain ⟨t2, h3, h4⟩ := T.ki.isB hk (T := "bool") (by decide)
    rw [isWhole_ty] at hQ
    refine ⟨t, _, h1, h2, ?_⟩
    dsimp only
    refine ite_yn (fun z => ?_) fun z => ?_
    · rw [z, Bool.true_and] at hQ
      exact ⟨t2, _, h3, h4, hQ⟩
    · rw [z, Bool.false_and] at hQ
      exact hQ
abbrev s_is_row : Stmt := topS 11
theorem sc_is_row : FnScope ["value"] ["value"] (defScope s_is_row) := ⟨rfl, rfl, rfl, by decide +kernel, rfl, by decide +kernel, by decide +kernel⟩
theorem ok_is_row {f : Addr} {fd : FuncData} (F : Fun K "is_row" "is_row" s_is_row f fd) (T : TB K mg ad) : FnG false P w K mg base CX0 1 f fd ["value"] (spD K TT (fwRow (csB ad))) := by
  refine fn_data (k := 0) F sc_is_row (fun ds m Q h => ?_) (fun cdv A outer s H E p cc B hr hgs hcd => (dss_one (ds_ret (de_is2 (K := K) (S := "list") (T := "tuple") rfl (by rfl) T.b_isinstance (by rfl) T.b_list (by decide +kernel) (by rfl) T.b_tuple (by decide +kernel) (de_var 0))))) fun ds m Q h => ?_
  · obtain ⟨d, rfl, _⟩ := h
    rfl
  · obtain ⟨d, rfl, hk, hQ⟩ := h
    obtain ⟨t, h1, h2⟩ := T.ki.isRow hk
    exact ⟨t, _, h1, h2, hQ⟩
abbrev s_is_index : Stmt := topS 12
theorem sc_is_index : FnScope ["value", "many"] ["value", "many"] (defScope s_is_index) := ⟨rfl, rfl, rfl, by decide +kernel, rfl, by decide +kernel, by decide +kernel⟩
theorem ok_is_index {f : Addr} {fd : FuncData} (F : Fun K "is_index" "is_index" s_is_index f fd) (T : TB K mg ad) (f_is_whole : DFn false P w K TT mg base 1 "is_whole" (fwWhole (csB ad))) : FnG false P w K mg base CX0 2 f fd ["value", "many"] (spD K TT (fwIndex (csB ad))) := by
  refine fn_data (k := 1) F sc_is_index (fun ds m Q h => ?_) (fun cdv A outer s H E p cc B hr hgs hcd => (dss_one (ds_ret (de_and (de_call f_is_whole hr nog (by decide) (by rfl) (da_cons (de_var 0) da_nil)) (de_one (de_lele de_int (de_var 0) (de_var 1))))))) fun ds m Q h => ?_
  · obtain ⟨d, n, rfl, _⟩ := h
    rfl
  · obtain ⟨d, n, rfl, hk, hQ⟩ := h
    refine ⟨d, rfl, hk, ?_⟩
    dsimp only
    refine ite_yn (fun z => ?_) fun z => ?_
    · cases d with
      | int i =>
        refine ite_yn (fun y => ?_) fun y => ?_
        · have y : decide (0 ≤ i) = true := y
          rw [D.isIx, y, Bool.true_and] at hQ
          exact hQ
        · have y : decide (0 ≤ i) = false := y
          rw [D.isIx, y, Bool.false_and] at hQ
          exact hQ
      | _ => cases z
    · cases d with
      | int i => cases z
      | _ => exact hQ
abbrev s_tupled : Stmt := topS 13
theorem sc_tupled : FnScope ["value", "item"] ["value"] (defScope s_tupled) := ⟨rfl, rfl, rfl, by decide +kernel, rfl, by decide +kernel, by decide +kernel⟩
theorem ok_tupled {f : Addr} {fd : FuncData} (F : Fun K "tupled" "tupled" s_tupled f fd) (T : TB K mg ad) {n : Nat} (f_is_row : DFn false P w K TT mg base 1 "is_row" (fwRow (csB ad))) (f_tupled : DFn false P w K TT mg base (n + 2) "tupled" (fwTup (csB ad) n)) : FnG false P w K mg base CX0 (n + 3) f fd ["value"] (spD K TT (fwTup (csB ad) (n + 1))) := by
  refine fn_data (k := n + 2) F sc_tupled (fun ds m Q h => ?_) (fun cdv A outer s H E p cc B hr hgs hcd => (dss_cons (ds_if (dt_not (dt_val (de_call f_is_row hr nog (by omega) (by rfl) (da_cons (de_var 0) da_nil))))
    (dss_one (ds_ret (de_var 0)))
    dss_nil)
    (dss_one (ds_ret (de_callTy call_tuple_of rd_tuple (by rfl) T.b_tuple (by decide +kernel) (da_cons (DL.de (dl_lc (own := [("item", 1)]) rfl sc_tupled.nd (di_seq (de_var 0)) (blkOk_by (own := [("item", 1)]) (N := ["value", "item"]) (sc := defScope s_tupled) (by decide +kernel)) (fun _ _ _ _ _ => (dg_name (i := 1) sc_tupled.nd rfl (by first | exact Or.inl rfl | exact Or.inr rfl))) (by decide) (fun _ _ _ _ _ => dts_nil) (fun _ _ _ _ _ => (de_call f_tupled hr nog (by omega) (by rfl) (da_cons (de_var 1) da_nil))))) da_nil)))))) fun ds m Q h => ?_
  · obtain ⟨d, rfl, _⟩ := h
    rfl
  · obtain ⟨d, rfl, hk, hn, hQ⟩ := h
    refine ⟨d, rfl, okT_known hk, ?_⟩
    refine ite_yn (fun z => ?_) fun z => ?_
    · have e : d.tupled = d := by cases d <;> first | rfl | cases z
      rw [e] at hQ
      exact hQ
    · obtain ⟨es, hd⟩ := row_cases (by simpa using z)
      have hes : (D.lst es).okT (csB ad) = true := by rcases hd with rfl | rfl <;> exact hk
      have hrd : rdepA es ≤ n := by rcases hd with rfl | rfl <;> exact Nat.le_of_succ_le_succ hn
      have htu : d.tupled = .tup (es.map D.tupled) := by rcases hd with rfl | rfl <;> (rw [D.tupled, tupledA_map])
      rw [htu] at hQ
      obtain ⟨hl, hm⟩ := okT_row hes
      rcases hd with rfl | rfl
      all_goals
        refine ⟨Nat.lt_trans hl (by decide), IMap es D.tupled m, ⟨rfl, rfl⟩, fun i x acc m' hx hI => ?_, fun acc m' hI => ?_⟩
        · exact ⟨x, rfl, hm x (List.mem_of_getElem? hx), Nat.le_trans (rdep_mem (List.mem_of_getElem? hx)) hrd, hI.next hx rfl⟩
        · obtain ⟨rfl, rfl⟩ := hI.fin
          exact hQ
theorem ok_tupled0 {f : Addr} {fd : FuncData} (F : Fun K "tupled" "tupled" s_tupled f fd) (T : TB K mg ad) (f_is_row : DFn false P w K TT mg base 1 "is_row" (fwRow (csB ad))) : FnG false P w K mg base CX0 2 f fd ["value"] (spD K TT (fwTup (csB ad) 0)) := by
  refine fn_data (k := 1) F sc_tupled (fun ds m Q h => ?_) (fun cdv A outer s H E p cc B hr hgs hcd => (dss_cons (ds_if (dt_not (dt_val (de_call f_is_row hr nog (by decide) (by rfl) (da_cons (de_var 0) da_nil))))
    (dss_one (ds_ret (de_var 0)))
    dss_nil)
    (dss_one ds_never))) fun ds m Q h => ?_
  · obtain ⟨d, rfl, _⟩ := h
    rfl
  · obtain ⟨d, rfl, hk, hn, hQ⟩ := h
    refine ⟨d, rfl, okT_known hk, ?_⟩
    refine ite_yn (fun z => ?_) fun z => ?_
    · have e : d.tupled = d := by cases d <;> first | rfl | cases z
      rw [e] at hQ
      exact hQ
    · obtain ⟨es, hd⟩ := row_cases (by simpa using z)
      rcases hd with rfl | rfl <;> exact absurd hn (by simp [D.rdep])
abbrev s__is_condition : Stmt := topS 28
theorem sc__is_condition : FnScope ["value", "number"] ["value"] (defScope s__is_condition) := ⟨rfl, rfl, rfl, by decide +kernel, rfl, by decide +kernel, by decide +kernel⟩
theorem ok__is_condition {f : Addr} {fd : FuncData} (F : Fun K "_is_condition" "_is_condition" s__is_condition f fd) {lev : Lev} (T : TB K mg ad) (f_is_whole : DFn false P w K TT mg base 1 "is_whole" (fwWhole (csB ad))) (E0 : EqE P w K TT mg base lev 0) : FnG false P w K mg base CX0 2 f fd ["value"] (spD K TT (fwCond (csB ad))) := by
  refine fn_data (k := 1) F sc__is_condition (fun ds m Q h => ?_) (fun cdv A outer s H E p cc B hr hgs hcd => (dss_cons (ds_if (DTw.dt (dtw_or (dt_not (dt_val (de_isB (K := K) (T := "tuple") rfl (by rfl) T.b_isinstance (by rfl) T.b_tuple (by decide +kernel) (de_var 0)))) (dtw_or (dt_lt (de_callB call_len rd_len (by rfl) T.b_len (by decide +kernel) (da_cons (de_var 0) da_nil)) de_int) (dtw_or1 (dt_not (dt_val (de_isB (K := K) (T := "str") rfl (by rfl) T.b_isinstance (by rfl) T.b_str (by decide +kernel) (de_sub2 hr (de_var 0) de_int (fun _ _ => rfl)))))))))
    (dss_one (ds_ret de_bl))
    dss_nil)
    (dss_cons (ds_if (dt_not (dt_val (de_callB (cr_all rfl) rd_all (by rfl) T.b_all (by decide +kernel) (da_cons (DL.de (dl_lc (own := [("number", 1)]) rfl sc__is_condition.nd (di_seq (de_slice (de_var 0) (do_some de_int) do_none)) (blkOk_by (own := [("number", 1)]) (N := ["value", "number"]) (sc := defScope s__is_condition) (by decide +kernel)) (fun _ _ _ _ _ => (dg_name (i := 1) sc__is_condition.nd rfl (by first | exact Or.inl rfl | exact Or.inr rfl))) (by decide) (fun _ _ _ _ _ => dts_nil) (fun _ _ _ _ _ => (de_call f_is_whole hr nog (by decide) (by rfl) (da_cons (de_var 1) da_nil))))) da_nil))))
    (dss_one (ds_ret de_bl))
    dss_nil)
    (dss_cons (ds_if (dt_eqX (n := 0) E0 hr (by decide) (de_sub2 hr (de_var 0) de_int (fun _ _ => rfl)) de_str)
    (dss_one (ds_ret (de_and (de_eqX (n := 0) E0 hr (by decide) (de_callB call_len rd_len (by rfl) T.b_len (by decide +kernel) (da_cons (de_var 0) da_nil)) de_int) (de_one (de_lele de_int (de_sub2 hr (de_var 0) de_int (fun _ _ => rfl)) (de_sub2 hr (de_var 0) de_int (fun _ _ => rfl)))))))
    dss_nil)
    (dss_one (ds_ret (de_and (de_in (de_sub2 hr (de_var 0) de_int (fun _ _ => rfl)) (de_glob (v := .ref (ad "WORDS")) (d := .tup (wordsL.map D.str)) (by rfl) T.mg_WORDS rfl (fun H => strs_rep T.words H))) (de_one (de_eqX (n := 0) E0 hr (by decide) (de_callB call_len rd_len (by rfl) T.b_len (by decide +kernel) (da_cons (de_var 0) da_nil)) de_int))))))))) fun ds m Q h => ?_
  · obtain ⟨d, rfl, _⟩ := h
    rfl
  · obtain ⟨d, rfl, hk, hQ⟩ := h
    obtain ⟨t, h1, h2⟩ := T.ki.isB (okT_known hk) (T := "tuple") (by decide)
    refine ⟨t, _, h1, h2, ?_⟩
    refine ite_yn (fun z => ?_) fun z => ?_
    · have e : d.isCond = false := by cases d <;> first | rfl | cases z
      rw [e] at hQ
      exact hQ
    obtain ⟨es, rfl⟩ : ∃ es, d = .tup es := by cases d <;> first | exact ⟨_, rfl⟩ | cases z
    refine ite_yn (fun y => ?_) fun y => ?_
    · have y : (es.length : Int) < 2 := of_decide_eq_true y
      have e : (D.tup es).isCond = false := by
        match es with
        | [] => rfl
        | [x] => cases x <;> rfl
        | _ :: _ :: _ => simp at y; omega
      rw [e] at hQ
      exact hQ
    have y : ¬ (es.length : Int) < 2 := of_decide_eq_false y
    obtain ⟨a, b, r, rfl⟩ : ∃ a b r, es = a :: b :: r := by
      match es with
      | [] => simp at y
      | [x] => simp at y
      | a :: b :: r => exact ⟨a, b, r, rfl⟩
    obtain ⟨hl, hm⟩ := okT_row (ds := a :: b :: r) hk
    refine .inl ⟨a, atI_pos (by decide) rfl, ?_⟩
    obtain ⟨ta, h3, h4⟩ := T.ki.isB (okT_known (hm a (List.mem_cons_self ..))) (T := "str") (by decide)
    refine ⟨ta, _, h3, h4, ?_⟩
    refine ite_yn (fun x => ?_) fun x => ?_
    · have e : (D.tup (a :: b :: r)).isCond = false := by cases a <;> first | rfl | cases x
      rw [e] at hQ
      exact hQ
    obtain ⟨s, rfl⟩ : ∃ s, a = .str s := by cases a <;> first | exact ⟨_, rfl⟩ | cases x
    have ec : cutG (D.str s :: b :: r) (some (1 : Int)) none = b :: r := cutG_from _ 1
    have hm2 : ∀ x ∈ b :: r, x.okT (csB ad) = true := fun x hx => hm x (List.mem_cons_of_mem _ hx)
    refine ⟨by rw [ec]; exact Nat.lt_trans (Nat.lt_of_succ_lt hl) (by decide), IMap (cutG (D.str s :: b :: r) (some (1 : Int)) none) (fun x => .bl x.isWhole) m, ⟨rfl, rfl⟩, fun i x acc m' hx hI => ?_, fun acc m' hI => ?_⟩
    · exact ⟨x, rfl, okT_known (hm2 x (by rw [ec] at hx; exact List.mem_of_getElem? hx)), hI.next hx rfl⟩
    obtain ⟨rfl, rfl⟩ := hI.fin
    rw [ec]
    refine ⟨(b :: r).map D.isWhole, (all_bl _ _).1, ?_⟩
    rw [(all_bl (b :: r) D.isWhole).2]
    refine ite_yn (fun x => ?_) fun x => ?_
    · rw [cond_eq, notT x, Bool.false_and] at hQ
      exact hQ
    have x := notF x
    rw [cond_eq, x, Bool.true_and] at hQ
    have hs : PyData.strOk s = true := hm (.str s) (List.mem_cons_self ..)
    refine .inl ⟨_, atI_pos (by decide) rfl, pl_cmp hs (by decide +kernel), Nat.zero_le _, ?_⟩
    refine ite_yn (fun u => ?_) fun u => ?_
    · have u : s = "rest" := by simpa [D.eqb] using u
      rw [if_pos u] at hQ
      refine ⟨rfl, Nat.zero_le _, ?_⟩
      refine ite_yn (fun v => ?_) fun v => ?_
      · have v : ((D.str s :: b :: r).length : Int) = 3 := by simpa [D.eqb] using v
        obtain ⟨c, rfl⟩ : ∃ c, r = [c] := by
          match r with
          | [] => simp at v
          | [c] => exact ⟨c, rfl⟩
          | _ :: _ :: _ => simp at v; omega
        obtain ⟨i, rfl⟩ : ∃ i, b = .int i := by cases b <;> first | exact ⟨_, rfl⟩ | cases x
        obtain ⟨j, rfl⟩ : ∃ j, c = .int j := by cases c <;> first | exact ⟨_, rfl⟩ | cases x
        refine .inl ⟨_, atI_pos (by decide) rfl, ?_⟩
        refine ite_yn (fun o => ?_) fun o => ?_
        · have o : decide (0 ≤ j) = true := o
          rw [restB, o, Bool.true_and] at hQ
          exact .inl ⟨_, atI_pos (by decide) rfl, hQ⟩
        · have o : decide (0 ≤ j) = false := o
          rw [restB, o, Bool.false_and] at hQ
          exact hQ
      · have v : ¬ ((D.str s :: b :: r).length : Int) = 3 := by simpa [D.eqb] using v
        have e : restB (b :: r) = false := by
          match r with
          | [] => cases b <;> rfl
          | [c] => exact absurd rfl v
          | _ :: _ :: _ => exact restB_long ..
        rw [e] at hQ
        exact hQ
    · have u : ¬ s = "rest" := by simpa [D.eqb] using u
      rw [if_neg u] at hQ
      refine .inl ⟨_, atI_pos (by decide) rfl, rfl, by decide +kernel, ?_⟩
      refine ite_yn (fun v => ?_) fun v => ?_
      · have v : wordsL.any (fun x => x == s) = true := by
          rw [List.any_map] at v
          exact v
        rw [v, Bool.true_and] at hQ
        refine ⟨rfl, Nat.zero_le _, ?_⟩
        have e : (((D.str s :: b :: r).length : Int) == 2) = ((b :: r).length == 1) := by
          rw [Bool.eq_iff_iff, beq_iff_eq, beq_iff_eq, List.length_cons]
          omega
        rw [← e] at hQ
        exact hQ
      · have v : wordsL.any (fun x => x == s) = false := by
          rw [List.any_map] at v
          exact v
        rw [v, Bool.false_and] at hQ
        exact hQ
abbrev s__is_conditions : Stmt := topS 27
theorem sc__is_conditions : FnScope ["value", "item"] ["value"] (defScope s__is_conditions) := ⟨rfl, rfl, rfl, by decide +kernel, rfl, by decide +kernel, by decide +kernel⟩
theorem ok__is_conditions {f : Addr} {fd : FuncData} (F : Fun K "_is_conditions" "_is_conditions" s__is_conditions f fd) (T : TB K mg ad) (f__is_condition : DFn false P w K TT mg base 2 "_is_condition" (fwCond (csB ad))) : FnG false P w K mg base CX0 3 f fd ["value"] (spD K TT (fwConds (csB ad))) := by
  refine fn_data (k := 2) F sc__is_conditions (fun ds m Q h => ?_) (fun cdv A outer s H E p cc B hr hgs hcd => (dss_one (ds_ret (de_and (de_isB (K := K) (T := "tuple") rfl (by rfl) T.b_isinstance (by rfl) T.b_tuple (by decide +kernel) (de_var 0)) (de_one (de_callB (cr_all rfl) rd_all (by rfl) T.b_all (by decide +kernel) (da_cons (DL.de (dl_lc (own := [("item", 1)]) rfl sc__is_conditions.nd (di_seq (de_var 0)) (blkOk_by (own := [("item", 1)]) (N := ["value", "item"]) (sc := defScope s__is_conditions) (by decide +kernel)) (fun _ _ _ _ _ => (dg_name (i := 1) sc__is_conditions.nd rfl (by first | exact Or.inl rfl | exact Or.inr rfl))) (by decide) (fun _ _ _ _ _ => dts_nil) (fun _ _ _ _ _ => (de_call f__is_condition hr nog (by decide) (by rfl) (da_cons (de_var 1) da_nil))))) da_nil))))))) fun ds m Q h => ?_
  · obtain ⟨d, rfl, _⟩ := h
    rfl
  · obtain ⟨d, rfl, hk, hQ⟩ := h
    obtain ⟨t, h1, h2⟩ := T.ki.isB (okT_known hk) (T := "tuple") (by decide)
    refine ⟨t, _, h1, h2, ?_⟩
    refine ite_yn (fun z => ?_) fun z => ?_
    · obtain ⟨es, rfl⟩ : ∃ es, d = .tup es := by cases d <;> first | exact ⟨_, rfl⟩ | cases z
      obtain ⟨hl, hm⟩ := okT_row (ds := es) hk
      refine ⟨Nat.lt_trans hl (by decide), IMap es (fun x => .bl x.isCond) m, ⟨rfl, rfl⟩, fun i x acc m' hx hI => ?_, fun acc m' hI => ?_⟩
      · exact ⟨x, rfl, hm x (List.mem_of_getElem? hx), hI.next hx rfl⟩
      · obtain ⟨rfl, rfl⟩ := hI.fin
        refine ⟨es.map D.isCond, (all_bl _ _).1, ?_⟩
        rw [(all_bl es D.isCond).2]
        exact hQ
    · have e : d.isConds = false := by cases d <;> first | rfl | cases z
      rw [e] at hQ
      exact hQ
abbrev s__is_move : Stmt := topS 25
theorem sc__is_move : FnScope ["value", "places"] ["value", "places"] (defScope s__is_move) := ⟨rfl, rfl, rfl, by decide +kernel, rfl, by decide +kernel, by decide +kernel⟩
theorem ok__is_move {f : Addr} {fd : FuncData} (F : Fun K "_is_move" "_is_move" s__is_move f fd) (T : TB K mg ad) (f_is_whole : DFn false P w K TT mg base 1 "is_whole" (fwWhole (csB ad))) (f_is_index : DFn false P w K TT mg base 2 "is_index" (fwIndex (csB ad))) (f__is_conditions : DFn false P w K TT mg base 3 "_is_conditions" (fwConds (csB ad))) : FnG false P w K mg base CX0 4 f fd ["value", "places"] (spD K TT (fwIsMv ad)) := by
  refine fn_data (k := 3) F sc__is_move (fun ds m Q h => ?_) (fun cdv A outer s H E p cc B hr hgs hcd => (dss_one (ds_ret (de_and (de_isO (K := K) rfl (by rfl) T.b_isinstance (by rfl) T.mg_Move (de_var 0)) (de_and (de_call f_is_index hr nog (by decide) (by rfl) (da_cons (de_fld (K := K) rfl (de_var 0)) (da_cons (de_var 1) da_nil))) (de_and (de_call f__is_conditions hr nog (by decide) (by rfl) (da_cons (de_fld (K := K) rfl (de_var 0)) da_nil)) (de_and (de_call f_is_whole hr nog (by decide) (by rfl) (da_cons (de_fld (K := K) rfl (de_var 0)) da_nil)) (de_one (de_call f_is_index hr nog (by decide) (by rfl) (da_cons (de_fld (K := K) rfl (de_var 0)) (da_cons (de_var 1) da_nil))))))))))) fun ds m Q h => ?_
  · obtain ⟨d, n, rfl, _⟩ := h
    rfl
  · obtain ⟨d, n, rfl, ⟨hk, hM⟩, hQ⟩ := h
    obtain ⟨t, h1, h2⟩ := T.ki.isO hk (C := ad "Move") (List.mem_cons_self ..)
    refine ⟨t, _, h1, h2, ?_⟩
    refine ite_yn (fun z => ?_) fun z => ?_
    · obtain ⟨p, c, s, t, rfl, kp, kc, ks, kt⟩ := hM z
      have e : isMv ad n (moveD ad p c s t) = (p.isIx n && (c.isConds && (s.isWhole && t.isIx n))) := by
        show (decide (ad "Move" = ad "Move") && _) = _
        rw [decide_eq_true rfl, Bool.true_and]
      rw [e] at hQ
      have cl := T.cl "Move" (by decide)
      refine ⟨_, _, p, rfl, cl, T.na ("Move", "place") (by decide), rfl, p, n, rfl, okT_known kp, ?_⟩
      refine ite_yn (fun y => ?_) fun y => ?_
      · rw [y, Bool.true_and] at hQ
        refine ⟨_, _, c, rfl, cl, T.na ("Move", "conditions") (by decide), rfl, c, rfl, kc, ?_⟩
        refine ite_yn (fun y => ?_) fun y => ?_
        · rw [y, Bool.true_and] at hQ
          refine ⟨_, _, s, rfl, cl, T.na ("Move", "shift") (by decide), rfl, s, rfl, okT_known ks, ?_⟩
          refine ite_yn (fun y => ?_) fun y => ?_
          · rw [y, Bool.true_and] at hQ
            exact ⟨_, _, t, rfl, cl, T.na ("Move", "target") (by decide), rfl, t, n, rfl, okT_known kt, hQ⟩
          · rw [y, Bool.false_and] at hQ
            exact hQ
        · rw [y, Bool.false_and] at hQ
          exact hQ
      · rw [y, Bool.false_and] at hQ
        exact hQ
    · rw [isMv_no z] at hQ
      exact hQ
abbrev s__is_goal : Stmt := topS 26
theorem sc__is_goal : FnScope ["value", "places"] ["value", "places"] (defScope s__is_goal) := ⟨rfl, rfl, rfl, by decide +kernel, rfl, by decide +kernel, by decide +kernel⟩
theorem ok__is_goal {f : Addr} {fd : FuncData} (F : Fun K "_is_goal" "_is_goal" s__is_goal f fd) (T : TB K mg ad) (f_is_index : DFn false P w K TT mg base 2 "is_index" (fwIndex (csB ad))) (f__is_conditions : DFn false P w K TT mg base 3 "_is_conditions" (fwConds (csB ad))) : FnG false P w K mg base CX0 4 f fd ["value", "places"] (spD K TT (fwIsGl ad)) := by
  refine fn_data (k := 3) F sc__is_goal (fun ds m Q h => ?_) (fun cdv A outer s H E p cc B hr hgs hcd => (dss_one (ds_ret (de_and (de_isO (K := K) rfl (by rfl) T.b_isinstance (by rfl) T.mg_Goal (de_var 0)) (de_and (de_call f_is_index hr nog (by decide) (by rfl) (da_cons (de_fld (K := K) rfl (de_var 0)) (da_cons (de_var 1) da_nil))) (de_one (de_call f__is_conditions hr nog (by decide) (by rfl) (da_cons (de_fld (K := K) rfl (de_var 0)) da_nil)))))))) fun ds m Q h => ?_
  · obtain ⟨d, n, rfl, _⟩ := h
    rfl
  · obtain ⟨d, n, rfl, ⟨hk, hM⟩, hQ⟩ := h
    obtain ⟨t, h1, h2⟩ := T.ki.isO hk (C := ad "Goal") (List.mem_cons_of_mem _ (List.mem_cons_self ..))
    refine ⟨t, _, h1, h2, ?_⟩
    refine ite_yn (fun z => ?_) fun z => ?_
    · obtain ⟨p, c, rfl, kp, kc⟩ := hM z
      have e : isGl ad n (goalD ad p c) = (p.isIx n && c.isConds) := by
        show (decide (ad "Goal" = ad "Goal") && _) = _
        rw [decide_eq_true rfl, Bool.true_and]
      rw [e] at hQ
      have cl := T.cl "Goal" (by decide)
      refine ⟨_, _, p, rfl, cl, T.na ("Goal", "place") (by decide), rfl, p, n, rfl, okT_known kp, ?_⟩
      refine ite_yn (fun y => ?_) fun y => ?_
      · rw [y, Bool.true_and] at hQ
        exact ⟨_, _, c, rfl, cl, T.na ("Goal", "conditions") (by decide), rfl, c, rfl, kc, hQ⟩
      · rw [y, Bool.false_and] at hQ
        exact hQ
    · rw [isGl_no z] at hQ
      exact hQ
abbrev s__need_sides : Stmt := topS 22
theorem sc__need_sides : FnScope ["sides", "index", "side"] ["sides"] (defScope s__need_sides) := ⟨rfl, rfl, rfl, by decide +kernel, rfl, by decide +kernel, by decide +kernel⟩
theorem ok__need_sides {f : Addr} {fd : FuncData} (F : Fun K "_need_sides" "_need_sides" s__need_sides f fd) {lev : Lev} (T : TB K mg ad) (f_is_row : DFn false P w K TT mg base 1 "is_row" (fwRow (csB ad))) (f_is_index : DFn false P w K TT mg base 2 "is_index" (fwIndex (csB ad))) (mk_BadBook : MkX P w K mg base "BadBook" (ad "BadBook") ["what", "index"]) (E0 : EqE P w K TT mg base lev 0) : FnOk P w K mg base (L2.CX P w) 3 f fd ["sides"] (spDX K TT (fwNeedS ad)) := by
  refine fn_dataX (k := 2) F sc__need_sides (fun ds m Q QX h => ?_) (fun cdv A outer s H E p cc B W wx hr tk hW hcd => (dss_cons (ds_if (DTw.dt (dtw_or (dt_not (dt_val (de_call f_is_row hr nog (by decide) (by rfl) (da_cons (de_var 0) da_nil)))) (dtw_or1 (dt_eqX (n := 0) E0 hr (by decide) (de_callB call_len rd_len (by rfl) T.b_len (by decide +kernel) (da_cons (de_var 0) da_nil)) de_int))))
    (dss_one (ds_raise mk_BadBook rfl tk hW hr (by decide) (by rfl) (da_cons de_str (da_cons de_non da_nil))))
    dss_nil)
    (dss_one (ds_for (passes_of rfl) rfl (di_enu (by rfl) T.b_enumerate (da_cons (de_var 0) da_nil)) (dg_tup (n := 2) rfl (dgs_cons (dg_name (i := 1) sc__need_sides.nd rfl (by first | exact Or.inl rfl | exact Or.inr rfl)) (dgs_cons (dg_name (i := 2) sc__need_sides.nd rfl (by first | exact Or.inl rfl | exact Or.inr rfl)) dgs_nil)))
    (dss_one (ds_if (dt_not (dt_val (de_call f_is_index hr nog (by decide) (by rfl) (da_cons (de_var 2) (da_cons de_int da_nil)))))
    (dss_one (ds_raise mk_BadBook rfl tk hW hr (by decide) (by rfl) (da_cons de_str (da_cons (de_var 1) da_nil))))
    dss_nil)))))) fun ds m Q QX h => ?_
  · obtain ⟨d, rfl, _⟩ := h
    rfl
  · obtain ⟨d, rfl, hk, hQ⟩ := h
    refine ⟨d, rfl, okT_known hk, ?_⟩
    unfold faultS at hQ
    refine ite_yn (fun z => ?_) fun z => ?_
    · rw [if_neg (by rw [notT z]; simp)] at hQ
      exact ⟨rfl, hQ⟩
    have z := notF z
    obtain ⟨es, hd⟩ := row_cases z
    have hrow : rows d = es := by rcases hd with rfl | rfl <;> rfl
    have hes : ∀ x ∈ es, x.okT (csB ad) = true := by rcases hd with rfl | rfl <;> exact (okT_row (ds := es) hk).2
    rw [hrow] at hQ
    have key : (es.length = 0 → QX (ad "BadBook") [("index", .non), ("what", .str "sides")] m) ∧ (es.length ≠ 0 → onF ((firstNo (D.isIx 2) 0 es).map fun i => D.int i) (Q .non m) (bad ad QX m "sides")) := by
      refine ⟨fun e => ?_, fun e => ?_⟩
      · rw [if_neg (by simp [e])] at hQ
        exact hQ
      · rw [if_pos ⟨z, e⟩] at hQ
        exact hQ
    clear hQ
    rcases hd with rfl | rfl
    all_goals
      refine ⟨rfl, Nat.zero_le _, ?_⟩
      refine ite_yn (fun y => ?_) fun y => ?_
      · have y : (es.length : Int) = 0 := by simpa [D.eqb] using y
        exact ⟨rfl, key.1 (by omega)⟩
      have y : ¬ (es.length : Int) = 0 := by simpa [D.eqb] using y
      have hQ := key.2 (by omega)
      refine ⟨fun i ρ m' => (∃ d0 c1 c2, ρ = [d0, c1, c2]) ∧ m' = m ∧ (es.take i).all (D.isIx 2) = true, ⟨⟨_, _, _, rfl⟩, rfl, rfl⟩, ?_, ?_⟩
      · rintro i x ρ m' hx ⟨⟨d0, c1, c2, rfl⟩, rfl, hall⟩
        obtain ⟨y, hy, rfl⟩ := enumD_at hx
        refine ⟨rfl, rfl, y, 2, rfl, okT_known (hes y (List.mem_of_getElem? hy)), ?_⟩
        refine ite_yn (fun u => ?_) fun u => ?_
        · rw [firstNo_at (k := 0) (notT u) hy hall, Nat.zero_add] at hQ
          exact ⟨rfl, hQ⟩
        · exact ⟨⟨_, _, _, rfl⟩, rfl, take_all hy hall (notF u)⟩
      · rintro ρ m' ⟨⟨d0, c1, c2, rfl⟩, rfl, hall⟩
        rw [enumD_len, List.take_length] at hall
        rw [firstNo_no hall] at hQ
        exact hQ
abbrev s__need_moves : Stmt := topS 23
theorem sc__need_moves : FnScope ["moves", "places", "index", "move"] ["moves", "places"] (defScope s__need_moves) := ⟨rfl, rfl, rfl, by decide +kernel, rfl, by decide +kernel, by decide +kernel⟩
theorem ok__need_moves {f : Addr} {fd : FuncData} (F : Fun K "_need_moves" "_need_moves" s__need_moves f fd) (T : TB K mg ad) (f_is_row : DFn false P w K TT mg base 1 "is_row" (fwRow (csB ad))) (f__is_move : DFn false P w K TT mg base 4 "_is_move" (fwIsMv ad)) (mk_BadBook : MkX P w K mg base "BadBook" (ad "BadBook") ["what", "index"]) : FnOk P w K mg base (L2.CX P w) 5 f fd ["moves", "places"] (spDX K TT (fwNeedM ad)) := by
  refine fn_dataX (k := 4) F sc__need_moves (fun ds m Q QX h => ?_) (fun cdv A outer s H E p cc B W wx hr tk hW hcd => (dss_cons (ds_if (dt_not (dt_val (de_call f_is_row hr nog (by decide) (by rfl) (da_cons (de_var 0) da_nil))))
    (dss_one (ds_raise mk_BadBook rfl tk hW hr (by decide) (by rfl) (da_cons de_str (da_cons de_non da_nil))))
    dss_nil)
    (dss_one (ds_for (passes_of rfl) rfl (di_enu (by rfl) T.b_enumerate (da_cons (de_var 0) da_nil)) (dg_tup (n := 2) rfl (dgs_cons (dg_name (i := 2) sc__need_moves.nd rfl (by first | exact Or.inl rfl | exact Or.inr rfl)) (dgs_cons (dg_name (i := 3) sc__need_moves.nd rfl (by first | exact Or.inl rfl | exact Or.inr rfl)) dgs_nil)))
    (dss_one (ds_if (dt_not (dt_val (de_call f__is_move hr nog (by decide) (by rfl) (da_cons (de_var 3) (da_cons (de_var 1) da_nil)))))
    (dss_one (ds_raise mk_BadBook rfl tk hW hr (by decide) (by rfl) (da_cons de_str (da_cons (de_var 2) da_nil))))
    dss_nil)))))) fun ds m Q QX h => ?_
  · obtain ⟨d, n, rfl, _⟩ := h
    rfl
  · obtain ⟨d, n, rfl, hk, hM, hQ⟩ := h
    refine ⟨d, rfl, hk, ?_⟩
    unfold faultR at hQ
    refine ite_yn (fun z => ?_) fun z => ?_
    · rw [if_neg (by rw [notT z]; decide)] at hQ
      exact ⟨rfl, hQ⟩
    have z := notF z
    rw [if_pos z] at hQ
    obtain ⟨es, hd⟩ := row_cases z
    have hr : rows d = es := by rcases hd with rfl | rfl <;> rfl
    rw [hr] at hQ hM
    rcases hd with rfl | rfl
    all_goals
      refine ⟨fun i ρ m' => (∃ d0 c1 c2, ρ = [d0, .dat (.int n), c1, c2]) ∧ m' = m ∧ (es.take i).all (isMv ad n) = true, ⟨⟨_, _, _, rfl⟩, rfl, rfl⟩, ?_, ?_⟩
      · rintro i x ρ m' hx ⟨⟨d0, c1, c2, rfl⟩, rfl, hall⟩
        obtain ⟨y, hy, rfl⟩ := enumD_at hx
        refine ⟨rfl, rfl, y, n, rfl, hM y (List.mem_of_getElem? hy), ?_⟩
        refine ite_yn (fun u => ?_) fun u => ?_
        · rw [firstNo_at (k := 0) (notT u) hy hall, Nat.zero_add] at hQ
          exact ⟨rfl, hQ⟩
        · exact ⟨⟨_, _, _, rfl⟩, rfl, take_all hy hall (notF u)⟩
      · rintro ρ m' ⟨⟨d0, c1, c2, rfl⟩, rfl, hall⟩
        rw [enumD_len, List.take_length] at hall
        rw [firstNo_no hall] at hQ
        exact hQ
abbrev s__need_goals : Stmt := topS 24
theorem sc__need_goals : FnScope ["goals", "places", "index", "goal"] ["goals", "places"] (defScope s__need_goals) := ⟨rfl, rfl, rfl, by decide +kernel, rfl, by decide +kernel, by decide +kernel⟩
theorem ok__need_goals {f : Addr} {fd : FuncData} (F : Fun K "_need_goals" "_need_goals" s__need_goals f fd) (T : TB K mg ad) (f_is_row : DFn false P w K TT mg base 1 "is_row" (fwRow (csB ad))) (f__is_goal : DFn false P w K TT mg base 4 "_is_goal" (fwIsGl ad)) (mk_BadBook : MkX P w K mg base "BadBook" (ad "BadBook") ["what", "index"]) : FnOk P w K mg base (L2.CX P w) 5 f fd ["goals", "places"] (spDX K TT (fwNeedG ad)) := by
  refine fn_dataX (k := 4) F sc__need_goals (fun ds m Q QX h => ?_) (fun cdv A outer s H E p cc B W wx hr tk hW hcd => (dss_cons (ds_if (dt_not (dt_val (de_call f_is_row hr nog (by decide) (by rfl) (da_cons (de_var 0) da_nil))))
    (dss_one (ds_raise mk_BadBook rfl tk hW hr (by decide) (by rfl) (da_cons de_str (da_cons de_non da_nil))))
    dss_nil)
    (dss_one (ds_for (passes_of rfl) rfl (di_enu (by rfl) T.b_enumerate (da_cons (de_var 0) da_nil)) (dg_tup (n := 2) rfl (dgs_cons (dg_name (i := 2) sc__need_goals.nd rfl (by first | exact Or.inl rfl | exact Or.inr rfl)) (dgs_cons (dg_name (i := 3) sc__need_goals.nd rfl (by first | exact Or.inl rfl | exact Or.inr rfl)) dgs_nil)))
    (dss_one (ds_if (dt_not (dt_val (de_call f__is_goal hr nog (by decide) (by rfl) (da_cons (de_var 3) (da_cons (de_var 1) da_nil)))))
    (dss_one (ds_raise mk_BadBook rfl tk hW hr (by decide) (by rfl) (da_cons de_str (da_cons (de_var 2) da_nil))))
    dss_nil)))))) fun ds m Q QX h => ?_
  · obtain ⟨d, n, rfl, _⟩ := h
    rfl
  · obtain ⟨d, n, rfl, hk, hM, hQ⟩ := h
    refine ⟨d, rfl, hk, ?_⟩
    unfold faultR at hQ
    refine ite_yn (fun z => ?_) fun z => ?_
    · rw [if_neg (by rw [notT z]; decide)] at hQ
      exact ⟨rfl, hQ⟩
    have z := notF z
    rw [if_pos z] at hQ
    obtain ⟨es, hd⟩ := row_cases z
    have hr : rows d = es := by rcases hd with rfl | rfl <;> rfl
    rw [hr] at hQ hM
    rcases hd with rfl | rfl
    all_goals
      refine ⟨fun i ρ m' => (∃ d0 c1 c2, ρ = [d0, .dat (.int n), c1, c2]) ∧ m' = m ∧ (es.take i).all (isGl ad n) = true, ⟨⟨_, _, _, rfl⟩, rfl, rfl⟩, ?_, ?_⟩
      · rintro i x ρ m' hx ⟨⟨d0, c1, c2, rfl⟩, rfl, hall⟩
        obtain ⟨y, hy, rfl⟩ := enumD_at hx
        refine ⟨rfl, rfl, y, n, rfl, hM y (List.mem_of_getElem? hy), ?_⟩
        refine ite_yn (fun u => ?_) fun u => ?_
        · rw [firstNo_at (k := 0) (notT u) hy hall, Nat.zero_add] at hQ
          exact ⟨rfl, hQ⟩
        · exact ⟨⟨_, _, _, rfl⟩, rfl, take_all hy hall (notF u)⟩
      · rintro ρ m' ⟨⟨d0, c1, c2, rfl⟩, rfl, hall⟩
        rw [enumD_len, List.take_length] at hall
        rw [firstNo_no hall] at hQ
        exact hQ
end
end DW

namespace DW
open PySem PySem.Spec L2
def okP : List (Str × D) → List (Str × D) → Bool
  | [(a0, x0), (a1, x1), (a2, x2), (a3, x3), (a4, x4), (a5, x5), (a6, x6), (a7, x7), (a8, x8)], [(_, y0), (_, y1), (_, y2), (_, y3), (_, y4), (_, y5), (_, y6), (_, y7), (_, y8)] => decide (([a0, a1, a2, a3, a4, a5, a6, a7, a8] : List Str) = (["book", "place", "n", "moves", "states", "here", "ended", "choices", "turn"] : List Str)) && (!(x0.eqb y0 && (x1.eqb y1 && (x2.eqb y2 && x3.eqb y3))) || (x4.eqb y4 && (x5.eqb y5 && (x6.eqb y6 && (x7.eqb y7 && x8.eqb y8)))))
  | _, _ => false

/-- which fields there are; a book's count of places is its sides' -/
def okB (ad : Str → Addr) (C : Addr) (fs gs : List (Str × D)) : Bool :=
  if C = ad "Move" then decide (fs.map (·.1) = (["place", "conditions", "shift", "target"] : List Str))
  else if C = ad "Goal" then decide (fs.map (·.1) = (["place", "conditions"] : List Str))
  else if C = ad "Play" then okP fs gs
  else match fs, gs with
    | [(a, s), (b, _), (c, _), (d, n)], (_, s') :: _ :: _ :: (_, n') :: _ => decide ([a, b, c, d] = (["sides", "moves", "goals", "places"] : List Str)) && (!s.eqb s' || n.eqb n')
    | _, _ => false
def levB (ad : Str → Addr) : Lev := ⟨fun a => if a = ad "Move" ∨ a = ad "Goal" then 6 else if a = ad "Book" then 8 else if a = ad "Play" then 10 else 0, okB ad⟩
section
variable {K : PySem.W.Frag} {mg : Str → Option Value} {ad : Str → Addr}
theorem lev_pos3 {a : Addr} (h : 0 < levB ad a) : a ∈ [ad "Move", ad "Goal", ad "Book"] ++ [ad "Play"] := by
  have h : 0 < (if a = ad "Move" ∨ a = ad "Goal" then 6 else if a = ad "Book" then 8 else if a = ad "Play" then 10 else 0) := h
  split at h
  · rename_i q
    rcases q with rfl | rfl <;> simp
  · split at h
    · rename_i q
      rw [q]
      simp
    · split at h
      · rename_i q
        rw [q]
        simp
      · cases h
theorem lev_pos {a : Addr} (h : 0 < levB ad a) : a ∈ csB ad := by
  have := lev_pos3 h
  simp only [List.mem_append, List.mem_cons, List.not_mem_nil, or_false] at this
  rcases this with (rfl | rfl | rfl) | rfl <;> simp
theorem lev_M : levB ad (ad "Move") = 6 := if_pos (.inl rfl)
theorem lev_G : levB ad (ad "Goal") = 6 := if_pos (.inr rfl)
theorem lev_B (T : TB K mg ad) : levB ad (ad "Book") = 8 := by
  show (if _ then 6 else if _ then 8 else _) = 8
  rw [if_neg (by rintro (h | h); exact T.ne.2.1 h.symm; exact T.ne.2.2 h.symm), if_pos rfl]
theorem lev_P (T : TB K mg ad) : levB ad (ad "Play") = 10 := by
  show (if _ then 6 else if _ then 8 else if _ then 10 else 0) = 10
  rw [if_neg (by rintro (h | h); exact T.np.1 h.symm; exact T.np.2.1 h.symm), if_neg (Ne.symm T.np.2.2), if_pos rfl]
theorem cmp_known {C : Addr} {fs : List (Str × D)} {e : D} (h : cmpOk (levB ad) (.obj C fs) e = true) : e.known (csB ad) = true := by
  cases e with
  | obj C' gs =>
    rw [cmpOk, Bool.and_eq_true, Bool.and_eq_true] at h
    exact decide_eq_true (lev_pos (of_decide_eq_true h.1.2))
  | exc _ _ => rw [cmp_excR] at h; cases h
  | pen => rw [cmp_penR] at h; cases h
  | gf _ => rw [cmp_gfR] at h; cases h
  | _ => rfl
theorem cmp_same {C : Addr} {fs gs : List (Str × D)} (h : cmpOk (levB ad) (.obj C fs) (.obj C gs) = true) : cmpF (levB ad) fs gs = true ∧ needF (levB ad) fs < levB ad C ∧ okB ad C fs gs = true := by
  rw [cmpOk, Bool.and_eq_true, Bool.and_eq_true, decide_eq_true rfl, Bool.not_true, Bool.false_or, Bool.and_eq_true, Bool.and_eq_true] at h
  exact ⟨h.2.1, of_decide_eq_true h.2.2.1, h.2.2.2⟩
theorem cmpF_at {lev : Lev} {f : Str} {x : D} {fs gs : List (Str × D)} (h : cmpF lev ((f, x) :: fs) gs = true) : ∃ y hs, gs = (f, y) :: hs ∧ cmpOk lev x y = true ∧ cmpF lev fs hs = true := by
  match gs, h with
  | (g, y) :: hs, h =>
    rw [cmpF, Bool.and_eq_true, Bool.and_eq_true] at h
    obtain ⟨h1, h2, h3⟩ := h
    rw [← of_decide_eq_true h1]
    exact ⟨y, hs, rfl, h2, h3⟩
theorem cmpF_end {lev : Lev} {gs : List (Str × D)} (h : cmpF lev [] gs = true) : gs = [] := by
  match gs, h with
  | [], _ => rfl
theorem needF_cons {lev : Lev} {f : Str} {x : D} {fs : List (Str × D)} {n : Nat} (h : needF lev ((f, x) :: fs) < n) : x.need lev < n ∧ needF lev fs < n := by
  have h : max (x.need lev) (needF lev fs) < n := h
  omega
theorem eqbF_cons {f : Str} {x y : D} {fs gs : List (Str × D)} : eqbF ((f, x) :: fs) ((f, y) :: gs) = (x.eqb y && eqbF fs gs) := by
  rw [eqbF, decide_eq_true rfl, Bool.true_and]
theorem eqb_obj {C : Addr} {fs gs : List (Str × D)} : (D.obj C fs).eqb (.obj C gs) = eqbF fs gs := by
  rw [D.eqb]
  simp
theorem eqb_isO {C : Addr} {fs : List (Str × D)} {e : D} (h : e.isObj C = false) : (D.obj C fs).eqb e = false := by
  cases e with
  | obj C' gs =>
    have h : C' ≠ C := of_decide_eq_false h
    rw [D.eqb, Bool.and_eq_false_iff]
    exact .inl (by simpa using Ne.symm h)
  | _ => rw [D.eqb] <;> intros <;> simp_all
theorem names_at {fs : List (Str × D)} {n : Str} {ns : List Str} (h : fs.map (·.1) = n :: ns) : ∃ x gs, fs = (n, x) :: gs ∧ gs.map (·.1) = ns := by
  cases fs with
  | nil => cases h
  | cons f gs =>
    injection h with h1 h2
    exact ⟨f.2, gs, by rw [← h1], h2⟩
theorem isO_at {C : Addr} {e : D} (h : e.isObj C = true) : ∃ gs, e = .obj C gs := by
  cases e with
  | obj C' gs => exact ⟨gs, by rw [of_decide_eq_true h]⟩
  | _ => cases h
end
section
variable {P : Program} {w : World} {K : PySem.W.Frag} {TT : List (Addr × Str)} {mg : Str → Option Value} {base : Heap} {ad : Str → Addr}
abbrev s_Move___eq__ : Stmt := inClass (topS 19) 1
theorem sc_Move___eq__ : FnScope ["self", "other"] ["self", "other"] (defScope s_Move___eq__) := ⟨rfl, rfl, rfl, by decide +kernel, rfl, by decide +kernel, by decide +kernel⟩
theorem ok_Move___eq__ {f : Addr} {fd : FuncData} (F : Fun K "__eq__" "Move.__eq__" s_Move___eq__ f fd) (T : TB K mg ad) (E5 : EqE P w K TT mg base (levB ad) 5) : FnG false P w K mg base CX0 6 f fd ["self", "other"] (spD K TT (fwEq (levB ad) (ad "Move"))) := by
  refine fn_data (k := 5) F sc_Move___eq__ (fun ds m Q h => ?_) (fun cdv A outer s H E p cc B hr hgs hcd => (dss_one (ds_ret (de_and (de_isO (K := K) rfl (by rfl) T.b_isinstance (by rfl) T.mg_Move (de_var 1)) (de_and (de_eqX (n := 5) E5 hr (by decide) (de_fld (K := K) rfl (de_var 0)) (de_fld (K := K) rfl (de_var 1))) (de_and (de_eqX (n := 5) E5 hr (by decide) (de_fld (K := K) rfl (de_var 0)) (de_fld (K := K) rfl (de_var 1))) (de_and (de_eqX (n := 5) E5 hr (by decide) (de_fld (K := K) rfl (de_var 0)) (de_fld (K := K) rfl (de_var 1))) (de_one (de_eqX (n := 5) E5 hr (by decide) (de_fld (K := K) rfl (de_var 0)) (de_fld (K := K) rfl (de_var 1))))))))))) fun ds m Q h => ?_
  · obtain ⟨fs, e, rfl, _⟩ := h
    rfl
  · obtain ⟨fs, e, rfl, ok, hQ⟩ := h
    obtain ⟨t, h1, h2⟩ := T.ki.isO (cmp_known ok) (C := ad "Move") (by simp)
    refine ⟨t, _, h1, h2, ?_⟩
    refine ite_yn (fun w => ?_) fun w => ?_
    rotate_left
    · rw [eqb_isO w] at hQ
      exact hQ
    obtain ⟨gs, rfl⟩ := isO_at w
    obtain ⟨c1, c2, c3⟩ := cmp_same ok
    rw [lev_M] at c2
    have cl := T.cl "Move" (by decide)
    have c4 : fs.map (·.1) = (["place", "conditions", "shift", "target"] : List Str) := by
      have h := c3
      unfold okB at h
      rw [if_pos rfl] at h
      exact of_decide_eq_true h
    obtain ⟨x, y, z, u, rfl⟩ : ∃ x y z u, fs = ([("place", x), ("conditions", y), ("shift", z), ("target", u)] : List (Str × D)) := by
      obtain ⟨x, fs1, e1, c41⟩ := names_at c4
      obtain ⟨y, fs2, e2, c42⟩ := names_at c41
      obtain ⟨z, fs3, e3, c43⟩ := names_at c42
      obtain ⟨u, fs4, e4, c44⟩ := names_at c43
      obtain rfl := List.map_eq_nil_iff.mp c44
      subst e4 e3 e2 e1
      exact ⟨x, y, z, u, rfl⟩
    obtain ⟨x2, hs, rfl, k0, c1⟩ := cmpF_at c1
    obtain ⟨n0, c2⟩ := needF_cons c2
    obtain ⟨y2, hs, rfl, k1, c1⟩ := cmpF_at c1
    obtain ⟨n1, c2⟩ := needF_cons c2
    obtain ⟨z2, hs, rfl, k2, c1⟩ := cmpF_at c1
    obtain ⟨n2, c2⟩ := needF_cons c2
    obtain ⟨u2, hs, rfl, k3, c1⟩ := cmpF_at c1
    obtain ⟨n3, c2⟩ := needF_cons c2
    obtain rfl := cmpF_end c1
    rw [eqb_obj] at hQ
    have hE : eqbF [("place", x), ("conditions", y), ("shift", z), ("target", u)] [("place", x2), ("conditions", y2), ("shift", z2), ("target", u2)] = (x.eqb x2 && (y.eqb y2 && (z.eqb z2 && u.eqb u2))) := by
      rw [eqbF_cons, eqbF_cons, eqbF_cons, eqbF_cons, eqbF, Bool.and_true]
    rw [hE] at hQ
    refine ⟨_, _, x, rfl, cl, T.na ("Move", "place") (by decide), rfl, _, _, x2, rfl, cl, T.na ("Move", "place") (by decide), rfl, k0, by omega, ?_⟩
    refine ite_yn (fun q => ?_) fun q => ?_
    rotate_left
    · rw [show x.eqb x2 = false from q, Bool.false_and] at hQ
      exact hQ
    rw [show x.eqb x2 = true from q, Bool.true_and] at hQ
    refine ⟨_, _, y, rfl, cl, T.na ("Move", "conditions") (by decide), rfl, _, _, y2, rfl, cl, T.na ("Move", "conditions") (by decide), rfl, k1, by omega, ?_⟩
    refine ite_yn (fun q => ?_) fun q => ?_
    rotate_left
    · rw [show y.eqb y2 = false from q, Bool.false_and] at hQ
      exact hQ
    rw [show y.eqb y2 = true from q, Bool.true_and] at hQ
    refine ⟨_, _, z, rfl, cl, T.na ("Move", "shift") (by decide), rfl, _, _, z2, rfl, cl, T.na ("Move", "shift") (by decide), rfl, k2, by omega, ?_⟩
    refine ite_yn (fun q => ?_) fun q => ?_
    rotate_left
    · rw [show z.eqb z2 = false from q, Bool.false_and] at hQ
      exact hQ
    rw [show z.eqb z2 = true from q, Bool.true_and] at hQ
    refine ⟨_, _, u, rfl, cl, T.na ("Move", "target") (by decide), rfl, _, _, u2, rfl, cl, T.na ("Move", "target") (by decide), rfl, k3, by omega, ?_⟩
    exact hQ
abbrev s_Goal___eq__ : Stmt := inClass (topS 20) 1
theorem sc_Goal___eq__ : FnScope ["self", "other"] ["self", "other"] (defScope s_Goal___eq__) := ⟨rfl, rfl, rfl, by decide +kernel, rfl, by decide +kernel, by decide +kernel⟩
theorem ok_Goal___eq__ {f : Addr} {fd : FuncData} (F : Fun K "__eq__" "Goal.__eq__" s_Goal___eq__ f fd) (T : TB K mg ad) (E5 : EqE P w K TT mg base (levB ad) 5) : FnG false P w K mg base CX0 6 f fd ["self", "other"] (spD K TT (fwEq (levB ad) (ad "Goal"))) := by
  refine fn_data (k := 5) F sc_Goal___eq__ (fun ds m Q h => ?_) (fun cdv A outer s H E p cc B hr hgs hcd => (dss_one (ds_ret (de_and (de_isO (K := K) rfl (by rfl) T.b_isinstance (by rfl) T.mg_Goal (de_var 1)) (de_and (de_eqX (n := 5) E5 hr (by decide) (de_fld (K := K) rfl (de_var 0)) (de_fld (K := K) rfl (de_var 1))) (de_one (de_eqX (n := 5) E5 hr (by decide) (de_fld (K := K) rfl (de_var 0)) (de_fld (K := K) rfl (de_var 1))))))))) fun ds m Q h => ?_
  · obtain ⟨fs, e, rfl, _⟩ := h
    rfl
  · obtain ⟨fs, e, rfl, ok, hQ⟩ := h
    obtain ⟨t, h1, h2⟩ := T.ki.isO (cmp_known ok) (C := ad "Goal") (by simp)
    refine ⟨t, _, h1, h2, ?_⟩
    refine ite_yn (fun w => ?_) fun w => ?_
    rotate_left
    · rw [eqb_isO w] at hQ
      exact hQ
    obtain ⟨gs, rfl⟩ := isO_at w
    obtain ⟨c1, c2, c3⟩ := cmp_same ok
    rw [lev_G] at c2
    have cl := T.cl "Goal" (by decide)
    have c4 : fs.map (·.1) = (["place", "conditions"] : List Str) := by
      have h := c3
      unfold okB at h
      rw [if_neg (Ne.symm T.ne.1), if_pos rfl] at h
      exact of_decide_eq_true h
    obtain ⟨x, y, rfl⟩ : ∃ x y, fs = ([("place", x), ("conditions", y)] : List (Str × D)) := by
      obtain ⟨x, fs1, e1, c41⟩ := names_at c4
      obtain ⟨y, fs2, e2, c42⟩ := names_at c41
      obtain rfl := List.map_eq_nil_iff.mp c42
      subst e2 e1
      exact ⟨x, y, rfl⟩
    obtain ⟨x2, hs, rfl, k0, c1⟩ := cmpF_at c1
    obtain ⟨n0, c2⟩ := needF_cons c2
    obtain ⟨y2, hs, rfl, k1, c1⟩ := cmpF_at c1
    obtain ⟨n1, c2⟩ := needF_cons c2
    obtain rfl := cmpF_end c1
    rw [eqb_obj] at hQ
    have hE : eqbF [("place", x), ("conditions", y)] [("place", x2), ("conditions", y2)] = (x.eqb x2 && y.eqb y2) := by
      rw [eqbF_cons, eqbF_cons, eqbF, Bool.and_true]
    rw [hE] at hQ
    refine ⟨_, _, x, rfl, cl, T.na ("Goal", "place") (by decide), rfl, _, _, x2, rfl, cl, T.na ("Goal", "place") (by decide), rfl, k0, by omega, ?_⟩
    refine ite_yn (fun q => ?_) fun q => ?_
    rotate_left
    · rw [show x.eqb x2 = false from q, Bool.false_and] at hQ
      exact hQ
    rw [show x.eqb x2 = true from q, Bool.true_and] at hQ
    refine ⟨_, _, y, rfl, cl, T.na ("Goal", "conditions") (by decide), rfl, _, _, y2, rfl, cl, T.na ("Goal", "conditions") (by decide), rfl, k1, by omega, ?_⟩
    exact hQ
abbrev s_Book___eq__ : Stmt := inClass (topS 21) 1
theorem sc_Book___eq__ : FnScope ["self", "other"] ["self", "other"] (defScope s_Book___eq__) := ⟨rfl, rfl, rfl, by decide +kernel, rfl, by decide +kernel, by decide +kernel⟩
theorem ok_Book___eq__ {f : Addr} {fd : FuncData} (F : Fun K "__eq__" "Book.__eq__" s_Book___eq__ f fd) (T : TB K mg ad) (E7 : EqE P w K TT mg base (levB ad) 7) : FnG false P w K mg base CX0 8 f fd ["self", "other"] (spD K TT (fwEq (levB ad) (ad "Book"))) := by
  refine fn_data (k := 7) F sc_Book___eq__ (fun ds m Q h => ?_) (fun cdv A outer s H E p cc B hr hgs hcd => (dss_one (ds_ret (de_and (de_isO (K := K) rfl (by rfl) T.b_isinstance (by rfl) T.mg_Book (de_var 1)) (de_and (de_eqX (n := 7) E7 hr (by decide) (de_fld (K := K) rfl (de_var 0)) (de_fld (K := K) rfl (de_var 1))) (de_and (de_eqX (n := 7) E7 hr (by decide) (de_fld (K := K) rfl (de_var 0)) (de_fld (K := K) rfl (de_var 1))) (de_one (de_eqX (n := 7) E7 hr (by decide) (de_fld (K := K) rfl (de_var 0)) (de_fld (K := K) rfl (de_var 1)))))))))) fun ds m Q h => ?_
  · obtain ⟨fs, e, rfl, _⟩ := h
    rfl
  · obtain ⟨fs, e, rfl, ok, hQ⟩ := h
    obtain ⟨t, h1, h2⟩ := T.ki.isO (cmp_known ok) (C := ad "Book") (by simp)
    refine ⟨t, _, h1, h2, ?_⟩
    refine ite_yn (fun w => ?_) fun w => ?_
    rotate_left
    · rw [eqb_isO w] at hQ
      exact hQ
    obtain ⟨gs, rfl⟩ := isO_at w
    obtain ⟨c1, c2, c3⟩ := cmp_same ok
    rw [lev_B T] at c2
    have cl := T.cl "Book" (by decide)
    have c5 := c3
    unfold okB at c5
    rw [if_neg (Ne.symm T.ne.2.1), if_neg (Ne.symm T.ne.2.2), if_neg T.np.2.2] at c5
    obtain ⟨x, y, z, u, rfl⟩ : ∃ x y z u, fs = ([("sides", x), ("moves", y), ("goals", z), ("places", u)] : List (Str × D)) := by
      split at c5
      · rw [Bool.and_eq_true] at c5
        have c4 := of_decide_eq_true c5.1
        simp only [List.cons.injEq, and_true] at c4
        obtain ⟨rfl, rfl, rfl, rfl⟩ := c4
        exact ⟨_, _, _, _, rfl⟩
      · cases c5
    obtain ⟨x2, hs, rfl, k0, c1⟩ := cmpF_at c1
    obtain ⟨n0, c2⟩ := needF_cons c2
    obtain ⟨y2, hs, rfl, k1, c1⟩ := cmpF_at c1
    obtain ⟨n1, c2⟩ := needF_cons c2
    obtain ⟨z2, hs, rfl, k2, c1⟩ := cmpF_at c1
    obtain ⟨n2, c2⟩ := needF_cons c2
    obtain ⟨u2, hs, rfl, k3, c1⟩ := cmpF_at c1
    obtain ⟨n3, c2⟩ := needF_cons c2
    obtain rfl := cmpF_end c1
    rw [eqb_obj] at hQ
    have hE : eqbF [("sides", x), ("moves", y), ("goals", z), ("places", u)] [("sides", x2), ("moves", y2), ("goals", z2), ("places", u2)] = (x.eqb x2 && (y.eqb y2 && z.eqb z2)) := by
      rw [eqbF_cons, eqbF_cons, eqbF_cons, eqbF_cons, eqbF, Bool.and_true]
      have c6 : (!x.eqb x2 || u.eqb u2) = true := ((Bool.and_eq_true _ _).mp c5).2
      cases q1 : x.eqb x2 with
      | false => simp
      | true =>
        rw [q1, Bool.not_true, Bool.false_or] at c6
        rw [c6, Bool.and_true]
    rw [hE] at hQ
    refine ⟨_, _, x, rfl, cl, T.na ("Book", "sides") (by decide), rfl, _, _, x2, rfl, cl, T.na ("Book", "sides") (by decide), rfl, k0, by omega, ?_⟩
    refine ite_yn (fun q => ?_) fun q => ?_
    rotate_left
    · rw [show x.eqb x2 = false from q, Bool.false_and] at hQ
      exact hQ
    rw [show x.eqb x2 = true from q, Bool.true_and] at hQ
    refine ⟨_, _, y, rfl, cl, T.na ("Book", "moves") (by decide), rfl, _, _, y2, rfl, cl, T.na ("Book", "moves") (by decide), rfl, k1, by omega, ?_⟩
    refine ite_yn (fun q => ?_) fun q => ?_
    rotate_left
    · rw [show y.eqb y2 = false from q, Bool.false_and] at hQ
      exact hQ
    rw [show y.eqb y2 = true from q, Bool.true_and] at hQ
    refine ⟨_, _, z, rfl, cl, T.na ("Book", "goals") (by decide), rfl, _, _, z2, rfl, cl, T.na ("Book", "goals") (by decide), rfl, k2, by omega, ?_⟩
    exact hQ
end
end DW

namespace DW
open PySem PySem.Spec L2

def fiMove (ad : Str → Addr) : FI := fun ds m Q => ∃ p c s t, ds = [p, c, s, t] ∧ c.okT (csB ad) = true ∧ c.rdep ≤ 4 ∧ Q [("place", p), ("conditions", c.tupled), ("shift", s), ("target", t)] m
def fiGoal (ad : Str → Addr) : FI := fun ds m Q => ∃ p c, ds = [p, c] ∧ c.okT (csB ad) = true ∧ c.rdep ≤ 4 ∧ Q [("place", p), ("conditions", c.tupled)] m
/-- what a book's three arguments come to: its first fault, or the book -/
def bookF (ad : Str → Addr) (s mv g : D) (ok : Prop) (no : Str → D → Prop) : Prop :=
  onF (faultS s) (onF (faultR (isMv ad ((rows s).length : Int)) mv) (onF (faultR (isGl ad ((rows s).length : Int)) g) ok (no "goals")) (no "moves")) (no "sides")
abbrev bookFs (s mv g : D) : List (Str × D) := [("sides", .tup (rows s)), ("moves", .tup (rows mv)), ("goals", .tup (rows g)), ("places", .int (rows s).length)]
def fiBook (ad : Str → Addr) : FIX := fun ds m Q QX => ∃ s mv g, ds = [s, mv, g] ∧ s.okT (csB ad) = true ∧ mv.known (csB ad) = true ∧ (∀ x ∈ rows mv, MvIn ad x) ∧ g.known (csB ad) = true ∧ (∀ x ∈ rows g, GlIn ad x) ∧
  bookF ad s mv g (Q (bookFs s mv g) m) (bad ad QX m)
theorem faultR_row {f : D → Bool} {d : D} (h : faultR f d = none) : ∃ es, rows d = es ∧ (d = .lst es ∨ d = .tup es) := by
  by_cases q : d.isRow = true
  · obtain ⟨es, hd⟩ := row_cases q
    exact ⟨es, by rcases hd with rfl | rfl <;> rfl, hd⟩
  · rw [faultR, if_neg q] at h
    cases h
theorem faultS_row {d : D} (h : faultS d = none) : ∃ es, rows d = es ∧ (d = .lst es ∨ d = .tup es) := by
  by_cases q : d.isRow = true
  · obtain ⟨es, hd⟩ := row_cases q
    exact ⟨es, by rcases hd with rfl | rfl <;> rfl, hd⟩
  · rw [faultS, if_neg (fun z => q z.1)] at h
    cases h
theorem onF_none {o : Option D} {a : Prop} {b : D → Prop} (h : o = none) (q : onF o a b) : a := by
  rw [h] at q
  exact q
theorem onF_mk {o : Option D} {a a' : Prop} {b : D → Prop} (q : onF o a b) (h : o = none → a → a') : onF o a' b := by
  cases o with
  | none => exact h rfl q
  | some i => exact q
section
variable {P : Program} {w : World} {K : PySem.W.Frag} {TT : List (Addr × Str)} {mg : Str → Option Value} {base : Heap} {ad : Str → Addr}
abbrev s_Move___init__ : Stmt := inClass (topS 19) 0
theorem sc_Move___init__ : FnScope ["self", "place", "conditions", "shift", "target"] ["self", "place", "conditions", "shift", "target"] (defScope s_Move___init__) := ⟨rfl, rfl, rfl, by decide +kernel, rfl, by decide +kernel, by decide +kernel⟩
theorem ini_Move {f : Addr} {fd : FuncData} (F : Fun K "__init__" "Move.__init__" s_Move___init__ f fd) (T : TB K mg ad) (f_tupled : DFn false P w K TT mg base 6 "tupled" (fwTup (csB ad) 4)) : FnOk P w K mg base CX0 7 f fd ["self", "place", "conditions", "shift", "target"] (spI K TT (ad "Move") (fiMove ad)) := by
  refine init_data (k := 6) F sc_Move___init__ (fun ds m Q h => ?_) (fun cdv A outer s H E p cc B H0 hr hcd => (dss_cons (ds_sto (p' := ⟨0, 0, 0, 0⟩) (i := 0) (K := K) rfl rfl (by first | exact Or.inl rfl | exact Or.inr (Or.inl rfl) | exact Or.inr (Or.inr rfl)) (de_var 1))
    (dss_cons (ds_sto (p' := ⟨0, 0, 0, 0⟩) (i := 0) (K := K) rfl rfl (by first | exact Or.inl rfl | exact Or.inr (Or.inl rfl) | exact Or.inr (Or.inr rfl)) (de_call f_tupled hr nog (by decide) (by rfl) (da_cons (de_var 2) da_nil)))
    (dss_cons (ds_sto (p' := ⟨0, 0, 0, 0⟩) (i := 0) (K := K) rfl rfl (by first | exact Or.inl rfl | exact Or.inr (Or.inl rfl) | exact Or.inr (Or.inr rfl)) (de_var 3))
    (dss_one (ds_sto (p' := ⟨0, 0, 0, 0⟩) (i := 0) (K := K) rfl rfl (by first | exact Or.inl rfl | exact Or.inr (Or.inl rfl) | exact Or.inr (Or.inr rfl)) (de_var 4))))))) fun x ds m Q h => ?_
  · obtain ⟨p, c, s, t, rfl, _⟩ := h
    rfl
  · obtain ⟨p, c, s, t, rfl, kc, dc, hQ⟩ := h
    have cl := T.cl "Move" (by decide)
    refine ⟨cl, T.na ("Move", "place") (by decide), by decide, c, rfl, kc, dc, cl, T.na ("Move", "conditions") (by decide), (show 1 < 1000 by decide), cl, T.na ("Move", "shift") (by decide), (show 2 < 1000 by decide), cl, T.na ("Move", "target") (by decide), (show 3 < 1000 by decide), _, rfl, ?_⟩
    exact hQ
abbrev s_Goal___init__ : Stmt := inClass (topS 20) 0
theorem sc_Goal___init__ : FnScope ["self", "place", "conditions"] ["self", "place", "conditions"] (defScope s_Goal___init__) := ⟨rfl, rfl, rfl, by decide +kernel, rfl, by decide +kernel, by decide +kernel⟩
theorem ini_Goal {f : Addr} {fd : FuncData} (F : Fun K "__init__" "Goal.__init__" s_Goal___init__ f fd) (T : TB K mg ad) (f_tupled : DFn false P w K TT mg base 6 "tupled" (fwTup (csB ad) 4)) : FnOk P w K mg base CX0 7 f fd ["self", "place", "conditions"] (spI K TT (ad "Goal") (fiGoal ad)) := by
  refine init_data (k := 6) F sc_Goal___init__ (fun ds m Q h => ?_) (fun cdv A outer s H E p cc B H0 hr hcd => (dss_cons (ds_sto (p' := ⟨0, 0, 0, 0⟩) (i := 0) (K := K) rfl rfl (by first | exact Or.inl rfl | exact Or.inr (Or.inl rfl) | exact Or.inr (Or.inr rfl)) (de_var 1))
    (dss_one (ds_sto (p' := ⟨0, 0, 0, 0⟩) (i := 0) (K := K) rfl rfl (by first | exact Or.inl rfl | exact Or.inr (Or.inl rfl) | exact Or.inr (Or.inr rfl)) (de_call f_tupled hr nog (by decide) (by rfl) (da_cons (de_var 2) da_nil)))))) fun x ds m Q h => ?_
  · obtain ⟨p, c, rfl, _⟩ := h
    rfl
  · obtain ⟨p, c, rfl, kc, dc, hQ⟩ := h
    have cl := T.cl "Goal" (by decide)
    refine ⟨cl, T.na ("Goal", "place") (by decide), by decide, c, rfl, kc, dc, cl, T.na ("Goal", "conditions") (by decide), (show 1 < 1000 by decide), _, rfl, ?_⟩
    exact hQ
abbrev s_Book___init__ : Stmt := inClass (topS 21) 0
theorem sc_Book___init__ : FnScope ["self", "sides", "moves", "goals", "places"] ["self", "sides", "moves", "goals"] (defScope s_Book___init__) := ⟨rfl, rfl, rfl, by decide +kernel, rfl, by decide +kernel, by decide +kernel⟩
theorem ini_Book {f : Addr} {fd : FuncData} (F : Fun K "__init__" "Book.__init__" s_Book___init__ f fd) (T : TB K mg ad) (f__need_sides : DFnX P w K TT mg base 3 "_need_sides" (fwNeedS ad)) (f__need_moves : DFnX P w K TT mg base 5 "_need_moves" (fwNeedM ad)) (f__need_goals : DFnX P w K TT mg base 5 "_need_goals" (fwNeedG ad)) : FnOk P w K mg base (L2.CX P w) 6 f fd ["self", "sides", "moves", "goals"] (spIX K TT (ad "Book") (fiBook ad)) := by
  refine init_dataX (k := 5) F sc_Book___init__ (fun ds m Q QX h => ?_) (fun cdv A outer s H E p cc B H0 W wx hr tk hW hcd => (dss_cons (ds_expr (de_callX f__need_sides tk hW hr (by decide) (by rfl) (da_cons (de_var 1) da_nil)))
    (dss_cons (ds_set (i := 4) sc_Book___init__.nd rfl (by first | exact Or.inl rfl | exact Or.inr rfl) (de_callB call_len rd_len (by rfl) T.b_len (by decide +kernel) (da_cons (de_var 1) da_nil)))
    (dss_cons (ds_expr (de_callX f__need_moves tk hW hr (by decide) (by rfl) (da_cons (de_var 2) (da_cons (de_var 4) da_nil))))
    (dss_cons (ds_expr (de_callX f__need_goals tk hW hr (by decide) (by rfl) (da_cons (de_var 3) (da_cons (de_var 4) da_nil))))
    (dss_cons (ds_sto (p' := ⟨0, 0, 0, 0⟩) (i := 0) (K := K) rfl rfl (by first | exact Or.inl rfl | exact Or.inr (Or.inl rfl) | exact Or.inr (Or.inr rfl)) (de_callTy call_tuple_of rd_tuple (by rfl) T.b_tuple (by decide +kernel) (da_cons (de_var 1) da_nil)))
    (dss_cons (ds_sto (p' := ⟨0, 0, 0, 0⟩) (i := 0) (K := K) rfl rfl (by first | exact Or.inl rfl | exact Or.inr (Or.inl rfl) | exact Or.inr (Or.inr rfl)) (de_callTy call_tuple_of rd_tuple (by rfl) T.b_tuple (by decide +kernel) (da_cons (de_var 2) da_nil)))
    (dss_cons (ds_sto (p' := ⟨0, 0, 0, 0⟩) (i := 0) (K := K) rfl rfl (by first | exact Or.inl rfl | exact Or.inr (Or.inl rfl) | exact Or.inr (Or.inr rfl)) (de_callTy call_tuple_of rd_tuple (by rfl) T.b_tuple (by decide +kernel) (da_cons (de_var 3) da_nil)))
    (dss_one (ds_sto (p' := ⟨0, 0, 0, 0⟩) (i := 0) (K := K) rfl rfl (by first | exact Or.inl rfl | exact Or.inr (Or.inl rfl) | exact Or.inr (Or.inr rfl)) (de_var 4))))))))))) fun x ds m Q QX h => ?_
  · obtain ⟨s, mv, g, rfl, _⟩ := h
    rfl
  · obtain ⟨s, mv, g, rfl, ks, kv, hv, kg, hg, hQ⟩ := h
    have cl := T.cl "Book" (by decide)
    refine ⟨s, rfl, ks, onF_mk hQ fun f1 hQ => ?_⟩
    obtain ⟨es, e1, hs⟩ := faultS_row f1
    rw [e1] at hQ
    rcases hs with rfl | rfl
    all_goals
      refine ⟨mv, es.length, rfl, kv, hv, onF_mk hQ fun f2 hQ => ?_⟩
      refine ⟨g, es.length, rfl, kg, hg, onF_mk hQ fun f3 hQ => ?_⟩
      obtain ⟨ms, e2, hm⟩ := faultR_row f2
      obtain ⟨gs, e3, hgs⟩ := faultR_row f3
      rcases hm with rfl | rfl
      all_goals
        rcases hgs with rfl | rfl
        all_goals
          exact ⟨cl, T.na ("Book", "sides") (by decide), by decide, cl, T.na ("Book", "moves") (by decide), (show 1 < 1000 by decide), cl, T.na ("Book", "goals") (by decide), (show 2 < 1000 by decide), cl, T.na ("Book", "places") (by decide), (show 3 < 1000 by decide), _, rfl, hQ⟩
end
end DW

namespace DW
open PySem PySem.Spec L2

def fwPick : FW := fun ds m Q => ∃ xs, ds = [.pen, .lst xs] ∧ 0 < xs.length ∧ xs.length < 1073741824 ∧ m < 1000000000000 ∧ ∀ x ∈ xs, Q x (m + 1)
theorem words_ok : ∀ w ∈ wordsL, PyData.strOk w = true ∧ (w == ("rest" : Str)) = false := by decide +kernel
/-- a condition that is drawn -/
def GoodC (d : D) : Prop := (∃ w ∈ wordsL, ∃ a : Int, d = .tup [.str w, .int a]) ∨ ∃ a b : Int, 0 ≤ b ∧ b < a ∧ d = .tup [.str "rest", .int a, .int b]
def fwSomeC : FW := fun ds m Q => ∃ a b : Int, ds = [.pen, .int a, .int b] ∧ 0 ≤ a ∧ a ≤ 100 ∧ 1 ≤ b ∧ b ≤ 100 ∧ m < 100000000000 ∧ ∀ d m', GoodC d → m' ≤ m + 2 → Q d m'
def fwSomeCs : FW := fun ds m Q => ∃ a b : Int, ds = [.pen, .int a, .int b] ∧ 0 ≤ a ∧ a ≤ 100 ∧ 1 ≤ b ∧ b ≤ 100 ∧ m < 10000000000 ∧ ∀ cs m', (∀ c ∈ cs, GoodC c) → cs.length ≤ 2 → m' ≤ m + 5 → Q (.tup cs) m'
def goodM (n : Nat) (x : D) : Prop := ∃ (p : Int) (cs : List D) (s t : Int), x = .tup [.int p, .tup cs, .int s, .int t] ∧ 0 ≤ p ∧ p < n ∧ 0 ≤ t ∧ t < n ∧ (∀ c ∈ cs, GoodC c) ∧ cs.length ≤ 3
def goodG (n : Nat) (x : D) : Prop := ∃ (p : Int) (cs : List D), x = .tup [.int p, .tup cs] ∧ 0 ≤ p ∧ p < n ∧ (∀ c ∈ cs, GoodC c) ∧ cs.length ≤ 3
def isSide (s : D) : Prop := s = .int 0 ∨ s = .int 1
abbrev bookT (ss ms gs : List D) : D := .dct [("sides", .lst ss), ("moves", .lst ms), ("goals", .lst gs)]
structure GoodB (L : Nat) (ss ms gs : List D) : Prop where
  s0 : 0 < ss.length
  s4 : 5 * ss.length ≤ L
  hs : ∀ s ∈ ss, isSide s
  ml : ms.length ≤ L
  hm : ∀ x ∈ ms, goodM ss.length x
  gl : 10 * gs.length ≤ L
  lim : L ≤ 100
  hg : ∀ x ∈ gs, goodG ss.length x
def fwBook : FW := fun ds m Q => ds = [.pen] ∧ m < 1000000000 ∧ ∀ ss ms gs m', GoodB 20 ss ms gs → 0 < ms.length → m' ≤ m + 500 → Q (bookT ss ms gs) m'
section
variable {P : Program} {w : World} {K : PySem.W.Frag} {TT : List (Addr × Str)} {mg : Str → Option Value} {base : Heap} {ad : Str → Addr}
abbrev s__law_pick : Stmt := topS 49
theorem sc__law_pick : FnScope ["_law_pen_here", "_law_some"] ["_law_pen_here", "_law_some"] (defScope s__law_pick) := ⟨rfl, rfl, rfl, by decide +kernel, rfl, by decide +kernel, by decide +kernel⟩
theorem ok__law_pick {f : Addr} {fd : FuncData} (F : Fun K "_law_pick" "_law_pick" s__law_pick f fd) (T : TB K mg ad) (f__law_draw : DFn false P w K TT mg base 1 "_law_draw" fwDraw) : FnG false P w K mg base CX0 2 f fd ["_law_pen_here", "_law_some"] (spD K TT fwPick) := by
  refine fn_data (k := 1) F sc__law_pick (fun ds m Q h => ?_) (fun cdv A outer s H E p cc B hr hgs hcd => (dss_one (ds_ret (de_sub2 hr (de_var 1) (de_call f__law_draw hr nog (by decide) (by rfl) (da_cons (de_var 0) (da_cons (de_callB call_len rd_len (by rfl) T.b_len (by decide +kernel) (da_cons (de_var 1) da_nil)) da_nil))) (fun _ _ => rfl))))) fun ds m Q h => ?_
  · obtain ⟨xs, rfl, _⟩ := h
    rfl
  · obtain ⟨xs, rfl, h0, h1, hm, k⟩ := h
    refine ⟨xs.length, rfl, by omega, by omega, hm, fun i i0 i1 => .inl ?_⟩
    obtain ⟨x, hx, hm⟩ := atI_lt i0 i1
    exact ⟨x, hx, k x hm⟩
abbrev s__law_some_condition : Stmt := topS 54
theorem sc__law_some_condition : FnScope ["_law_pen_here", "_law_wide", "_law_modulus", "_law_word"] ["_law_pen_here", "_law_wide", "_law_modulus"] (defScope s__law_some_condition) := ⟨rfl, rfl, rfl, by decide +kernel, rfl, by decide +kernel, by decide +kernel⟩
theorem ok__law_some_condition {f : Addr} {fd : FuncData} (F : Fun K "_law_some_condition" "_law_some_condition" s__law_some_condition f fd) {lev : Lev} (T : TB K mg ad) (f__law_draw : DFn false P w K TT mg base 1 "_law_draw" fwDraw) (f__law_pick : DFn false P w K TT mg base 2 "_law_pick" fwPick) (E0 : EqE P w K TT mg base lev 0) (N0 : NeE K lev) : FnG false P w K mg base CX0 3 f fd ["_law_pen_here", "_law_wide", "_law_modulus"] (spD K TT fwSomeC) := by
  refine fn_data (k := 2) F sc__law_some_condition (fun ds m Q h => ?_) (fun cdv A outer s H E p cc B hr hgs hcd => (dss_cons (ds_set (i := 3) sc__law_some_condition.nd rfl (by first | exact Or.inl rfl | exact Or.inr rfl) (de_call f__law_pick hr nog (by decide) (by rfl) (da_cons (de_var 0) (da_cons (de_lst (da_cons de_str (da_cons de_str (da_cons de_str (da_cons de_str (da_cons de_str (da_cons de_str (da_cons de_str da_nil)))))))) da_nil))))
    (dss_cons (ds_if (DTw.dt (dtw_and (dt_eqX (n := 0) E0 hr (by decide) (de_var 3) de_str) (dtw_and1 (dt_gt (de_var 2) de_int))))
    (dss_one (ds_ret (de_tup (da_cons de_str (da_cons (de_var 2) (da_cons (de_call f__law_draw hr nog (by decide) (by rfl) (da_cons (de_var 0) (da_cons (de_var 2) da_nil))) da_nil))))))
    dss_nil)
    (dss_one (ds_ret (de_tup (da_cons (de_ifExp (dt_neX (n := 0) E0 N0 hr (by decide) (de_var 3) de_str) (de_var 3) de_str) (da_cons (de_sub (de_call f__law_draw hr nog (by decide) (by rfl) (da_cons (de_var 0) (da_cons (de_add (de_mulI de_int (de_var 1)) de_int) da_nil))) (de_var 1)) da_nil)))))))) fun ds m Q h => ?_
  · obtain ⟨a, b, rfl, _⟩ := h
    rfl
  · obtain ⟨a, b, rfl, a0, a1, b0, b1, hm, k⟩ := h
    refine ⟨by decide, _, rfl, by decide, by decide, by omega, fun x hx => ?_⟩
    have hx2 : x = .str "rest" ∨ ∃ w ∈ wordsL, x = .str w := by
      simp only [List.mem_cons, List.not_mem_nil, or_false] at hx
      rcases hx with rfl | rfl | rfl | rfl | rfl | rfl | rfl
      · exact .inr ⟨_, by decide, rfl⟩
      · exact .inr ⟨_, by decide, rfl⟩
      · exact .inr ⟨_, by decide, rfl⟩
      · exact .inr ⟨_, by decide, rfl⟩
      · exact .inl rfl
      · exact .inr ⟨_, by decide, rfl⟩
      · exact .inr ⟨_, by decide, rfl⟩
    have fin : ∀ w ∈ wordsL, ∀ i : Int, GoodC (.tup [.str w, .int i]) := fun w hw i => .inl ⟨w, hw, i, rfl⟩
    rcases hx2 with rfl | ⟨w, hw, rfl⟩
    · refine ⟨pl_cmp (by decide +kernel) (by decide +kernel), Nat.zero_le _, ?_⟩
      refine ite_y (by decide +kernel) ?_
      refine ite_yn (fun z => ?_) fun z => ?_
      · have z : 1 < b := of_decide_eq_true z
        exact ⟨b, rfl, by omega, by omega, by omega, fun i i0 i1 => ⟨show 3 ≤ sizeLine by decide, k _ _ (.inr ⟨b, i, i0, i1, rfl⟩) (by omega)⟩⟩
      · refine ⟨pl_cmp (by decide +kernel) (by decide +kernel), Nat.zero_le _, ?_⟩
        refine ite_n (by decide +kernel) ?_
        exact ⟨.inl (by decide), 2 * a + 1, rfl, by omega, by omega, by omega, fun i i0 i1 => ⟨show 2 ≤ sizeLine by decide, k _ _ (fin _ (by decide) _) (by omega)⟩⟩
    · refine ⟨pl_cmp (words_ok w hw).1 (by decide +kernel), Nat.zero_le _, ?_⟩
      refine ite_n (by rw [show ((D.str w).eqb (.str "rest")) = false from (words_ok w hw).2]; decide) ?_
      refine ⟨pl_cmp (words_ok w hw).1 (by decide +kernel), Nat.zero_le _, ?_⟩
      refine ite_y (by rw [show ((D.str w).eqb (.str "rest")) = false from (words_ok w hw).2]; rfl) ?_
      exact ⟨.inl (by decide), 2 * a + 1, rfl, by omega, by omega, by omega, fun i i0 i1 => ⟨show 2 ≤ sizeLine by decide, k _ _ (fin _ hw _) (by omega)⟩⟩
abbrev s__law_some_conditions : Stmt := topS 55
theorem sc__law_some_conditions : FnScope ["_law_pen_here", "_law_wide", "_law_modulus", "_law_many", "_law_k"] ["_law_pen_here", "_law_wide", "_law_modulus"] (defScope s__law_some_conditions) := ⟨rfl, rfl, rfl, by decide +kernel, rfl, by decide +kernel, by decide +kernel⟩
theorem ok__law_some_conditions {f : Addr} {fd : FuncData} (F : Fun K "_law_some_conditions" "_law_some_conditions" s__law_some_conditions f fd) (T : TB K mg ad) (f__law_pick : DFn false P w K TT mg base 2 "_law_pick" fwPick) (f__law_some_condition : DFn false P w K TT mg base 3 "_law_some_condition" fwSomeC) : FnG false P w K mg base CX0 4 f fd ["_law_pen_here", "_law_wide", "_law_modulus"] (spD K TT fwSomeCs) := by
  refine fn_data (k := 3) F sc__law_some_conditions (fun ds m Q h => ?_) (fun cdv A outer s H E p cc B hr hgs hcd => (dss_cons (ds_set (i := 3) sc__law_some_conditions.nd rfl (by first | exact Or.inl rfl | exact Or.inr rfl) (de_call f__law_pick hr nog (by decide) (by rfl) (da_cons (de_var 0) (da_cons (de_lst (da_cons de_int (da_cons de_int (da_cons de_int (da_cons de_int (da_cons de_int (da_cons de_int da_nil))))))) da_nil))))
    (dss_one (ds_ret (de_callTy call_tuple_of rd_tuple (by rfl) T.b_tuple (by decide +kernel) (da_cons (DL.de (dl_lc (own := [("_law_k", 4)]) rfl sc__law_some_conditions.nd (di_range1 (by rfl) T.b_range (da_cons (de_var 3) da_nil)) (blkOk_by (own := [("_law_k", 4)]) (N := ["_law_pen_here", "_law_wide", "_law_modulus", "_law_many", "_law_k"]) (sc := defScope s__law_some_conditions) (by decide +kernel)) (fun _ _ _ _ _ => (dg_name (i := 4) sc__law_some_conditions.nd rfl (by first | exact Or.inl rfl | exact Or.inr rfl))) (by decide) (fun _ _ _ _ _ => dts_nil) (fun _ _ _ _ _ => (de_call f__law_some_condition hr nog (by decide) (by rfl) (da_cons (de_var 0) (da_cons (de_var 1) (da_cons (de_var 2) da_nil))))))) da_nil)))))) fun ds m Q h => ?_
  · obtain ⟨a, b, rfl, _⟩ := h
    rfl
  · obtain ⟨a, b, rfl, a0, a1, b0, b1, hm, k⟩ := h
    refine ⟨by decide, _, rfl, by decide, by decide, by omega, fun x hx => ?_⟩
    obtain ⟨n, rfl, hn⟩ : ∃ n : Nat, x = .int n ∧ n ≤ 2 := by
      simp only [List.mem_cons, List.not_mem_nil, or_false] at hx
      rcases hx with rfl | rfl | rfl | rfl | rfl | rfl
      · exact ⟨0, rfl, by decide⟩
      · exact ⟨0, rfl, by decide⟩
      · exact ⟨0, rfl, by decide⟩
      · exact ⟨1, rfl, by decide⟩
      · exact ⟨1, rfl, by decide⟩
      · exact ⟨2, rfl, by decide⟩
    refine ⟨⟨by omega, by omega⟩, by rw [rngD_len]; exact Nat.lt_of_le_of_lt hn (by decide), IAll GoodC (m + 1) 2, .zero, fun i d acc m' hd hI => ?_, fun acc m' hI => ?_⟩
    · obtain ⟨hi, rfl⟩ := rngD_at hd
      have hm2 := hI.2.2
      refine ⟨a, b, rfl, a0, a1, b0, b1, by omega, fun d m2 gd h2 => hI.next gd h2⟩
    · rw [rngD_len] at hI
      obtain ⟨q1, q2, q3⟩ := hI
      exact k acc m' q2 (by omega) (by omega)
abbrev s__law_some_book : Stmt := topS 56
theorem sc__law_some_book : FnScope ["_law_pen_here", "_law_places", "_law_wide", "_law_modulus", "_law_shifts", "_law_sides", "_law_place", "_law_moves", "_law_goals", "_law_lap", "_law_conditions"] ["_law_pen_here"] (defScope s__law_some_book) := ⟨rfl, rfl, rfl, by decide +kernel, rfl, by decide +kernel, by decide +kernel⟩
theorem ok__law_some_book {f : Addr} {fd : FuncData} (F : Fun K "_law_some_book" "_law_some_book" s__law_some_book f fd) {lev : Lev} (T : TB K mg ad) (f__law_draw : DFn false P w K TT mg base 1 "_law_draw" fwDraw) (f__law_pick : DFn false P w K TT mg base 2 "_law_pick" fwPick) (f__law_some_conditions : DFn false P w K TT mg base 4 "_law_some_conditions" fwSomeCs) (E0 : EqE P w K TT mg base lev 0) (N0 : NeE K lev) : FnG false P w K mg base CX0 5 f fd ["_law_pen_here"] (spD K TT fwBook) := by
  refine fn_data (k := 4) F sc__law_some_book (fun ds m Q h => ?_) (fun cdv A outer s H E p cc B hr hgs hcd => (dss_cons (ds_par2 (i := 1) (j := 2) (fun _ h => ps_par (i := 1) (j := 2) rfl sc__law_some_book.nd rfl rfl (by decide) rfl rfl h rfl) (da_cons (de_add de_int (de_call f__law_draw hr nog (by decide) (by rfl) (da_cons (de_var 0) (da_cons de_int da_nil)))) (da_cons (de_call f__law_draw hr nog (by decide) (by rfl) (da_cons (de_var 0) (da_cons de_int da_nil))) da_nil)))
    (dss_cons (ds_set (i := 3) sc__law_some_book.nd rfl (by first | exact Or.inl rfl | exact Or.inr rfl) (de_call f__law_pick hr nog (by decide) (by rfl) (da_cons (de_var 0) (da_cons (de_lst (da_cons de_int (da_cons de_int (da_cons de_int (da_cons de_int (da_cons (de_ifExp (dt_lt (de_var 1) de_int) de_int de_int) da_nil)))))) da_nil))))
    (dss_cons (ds_set (i := 4) sc__law_some_book.nd rfl (by first | exact Or.inl rfl | exact Or.inr rfl) (de_call f__law_pick hr nog (by decide) (by rfl) (da_cons (de_var 0) (da_cons (de_lst (da_cons (de_lst (da_cons (de_neg de_int) (da_cons de_int (da_cons de_int da_nil)))) (da_cons (de_lst (da_cons (de_neg de_int) (da_cons de_int (da_cons (de_neg de_int) da_nil)))) (da_cons (de_lst (da_cons (de_neg de_int) (da_cons de_int (da_cons de_int (da_cons (de_neg de_int) da_nil))))) (da_cons (de_ifExp (dt_lt (de_var 1) de_int) (de_lst (da_cons (de_neg de_int) (da_cons de_int (da_cons (de_neg de_int) da_nil)))) (de_lst (da_cons (de_neg de_int) (da_cons de_int da_nil)))) da_nil))))) da_nil))))
    (dss_cons (ds_setLcD (i := 5) (own := [("_law_place", 6)]) sc__law_some_book.nd rfl rfl rfl rfl (di_range1 (by rfl) T.b_range (da_cons (de_var 1) da_nil)) (blkOk_by (own := [("_law_place", 6)]) (N := ["_law_pen_here", "_law_places", "_law_wide", "_law_modulus", "_law_shifts", "_law_sides", "_law_place", "_law_moves", "_law_goals", "_law_lap", "_law_conditions"]) (sc := defScope s__law_some_book) (by decide +kernel)) (fun _ _ _ _ _ => (dg_name (i := 6) sc__law_some_book.nd rfl (by first | exact Or.inl rfl | exact Or.inr rfl))) (by decide) (fun _ _ _ _ _ => dts_nil) (fun _ _ _ _ _ => (de_call f__law_draw hr nog (by decide) (by rfl) (da_cons (de_var 0) (da_cons de_int da_nil)))))
    (dss_cons (ds_parOO (i := 7) (j := 8) (fun _ h => ps_par (i := 7) (j := 8) rfl sc__law_some_book.nd rfl rfl (by decide) rfl rfl h rfl) (dl_lst da_nil) (dl_lst da_nil))
    (dss_cons (ds_for PassesOwn.never rfl (di_range1 (by rfl) T.b_range (da_cons (de_add (de_var 1) (de_call f__law_draw hr nog (by decide) (by rfl) (da_cons (de_var 0) (da_cons (de_add (de_mulI de_int (de_var 1)) de_int) da_nil)))) da_nil)) (dg_name (i := 9) sc__law_some_book.nd rfl (by first | exact Or.inl rfl | exact Or.inr rfl))
    (dss_cons (ds_set (i := 6) sc__law_some_book.nd rfl (by first | exact Or.inl rfl | exact Or.inr rfl) (de_ifExp (dt_lt (de_var 9) (de_var 1)) (de_var 9) (de_call f__law_draw hr nog (by decide) (by rfl) (da_cons (de_var 0) (da_cons (de_var 1) da_nil)))))
    (dss_cons (ds_set (i := 10) sc__law_some_book.nd rfl (by first | exact Or.inl rfl | exact Or.inr rfl) (de_ifExp (dt_eqX (n := 0) E0 hr (by decide) (de_call f__law_draw hr nog (by decide) (by rfl) (da_cons (de_var 0) (da_cons de_int da_nil))) de_int) (de_call f__law_some_conditions hr nog (by decide) (by rfl) (da_cons (de_var 0) (da_cons (de_var 2) (da_cons (de_var 3) da_nil)))) (de_tup da_nil)))
    (dss_one (ds_append (i := 7) (fun _ h => pe_bm PySem.F.plainAttrs_list PySem.F.slot_list_append PySem.F.type_list_append mt_append (pv 7) (pa_cons h pa_nil)) (de_tup (da_cons (de_var 6) (da_cons (de_var 10) (da_cons (de_call f__law_pick hr nog (by decide) (by rfl) (da_cons (de_var 0) (da_cons (de_var 4) da_nil))) (da_cons (de_call f__law_draw hr nog (by decide) (by rfl) (da_cons (de_var 0) (da_cons (de_var 1) da_nil))) da_nil))))))))))
    (dss_cons (ds_for PassesOwn.never rfl (di_range1 (by rfl) T.b_range (da_cons (de_call f__law_pick hr nog (by decide) (by rfl) (da_cons (de_var 0) (da_cons (de_lst (da_cons de_int (da_cons de_int (da_cons de_int (da_cons de_int da_nil))))) da_nil))) da_nil)) (dg_name (i := 9) sc__law_some_book.nd rfl (by first | exact Or.inl rfl | exact Or.inr rfl))
    (dss_cons (ds_set (i := 6) sc__law_some_book.nd rfl (by first | exact Or.inl rfl | exact Or.inr rfl) (de_call f__law_draw hr nog (by decide) (by rfl) (da_cons (de_var 0) (da_cons (de_var 1) da_nil))))
    (dss_one (ds_append (i := 8) (fun _ h => pe_bm PySem.F.plainAttrs_list PySem.F.slot_list_append PySem.F.type_list_append mt_append (pv 8) (pa_cons h pa_nil)) (de_tup (da_cons (de_var 6) (da_cons (de_add (de_call f__law_some_conditions hr nog (by decide) (by rfl) (da_cons (de_var 0) (da_cons (de_var 2) (da_cons (de_var 3) da_nil)))) (de_call f__law_pick hr nog (by decide) (by rfl) (da_cons (de_var 0) (da_cons (de_lst (da_cons (de_tup da_nil) (da_cons (de_tup (da_cons (de_tup (da_cons de_str (da_cons de_int da_nil))) da_nil)) da_nil))) da_nil)))) da_nil)))))))
    (dss_one (ds_frz 7 (ds_frz 8 (ds_ret (de_dct (ns := ["sides", "moves", "goals"]) (dp_cons (de_var 5) (dp_cons (de_var 7) (dp_cons (de_var 8) dp_nil))) (by decide +kernel) (by decide)))))))))))))) fun ds m Q h => ?_
  · obtain ⟨rfl, _⟩ := h
    rfl
  · obtain ⟨rfl, hm, k⟩ := h
    refine ⟨4, rfl, by omega, by omega, by omega, fun p0 h0 h1 => ?_⟩
    refine ⟨4, rfl, by omega, by omega, by omega, fun wd w0 w1 => ?_⟩
    obtain ⟨n, hn, n0, n4⟩ : ∃ n : Nat, 1 + p0 = (n : Int) ∧ 0 < n ∧ n ≤ 4 := ⟨(1 + p0).toNat, by omega, by omega, by omega⟩
    rw [hn]
    refine cutS (k := ?k1) (fun ρ m' => ∃ md : Int, 1 ≤ md ∧ md ≤ 3 ∧ ρ = [.dat .pen, .dat (.int n), .dat (.int wd), .dat (.int md), .un, .un, .un, .un, .un, .un, .un] ∧ m' = m + 3) ?b1 fun tail => ?a1
    case a1 =>
      refine ite_yn (fun z => ?_) fun z => ?_
      all_goals
        refine ⟨show 5 ≤ sizeLine by decide, _, rfl, by decide, by decide, by omega, fun x hx => ?_⟩
        dsimp only
        refine tail _ _ ?_
        simp only [List.mem_cons, List.not_mem_nil, or_false] at hx
        rcases hx with rfl | rfl | rfl | rfl | rfl <;> exact ⟨_, by decide, by decide, rfl, rfl⟩
    rintro ρ m' ⟨md, md1, md3, rfl, rfl⟩
    refine cutS (k := ?k2) (fun ρ m' => ∃ sh : List Int, 0 < sh.length ∧ sh.length ≤ 4 ∧ ρ = [.dat .pen, .dat (.int n), .dat (.int wd), .dat (.int md), .dat (.lst (sh.map D.int)), .un, .un, .un, .un, .un, .un] ∧ m' = m + 4) ?b2 fun tail => ?a2
    case a2 =>
      refine ⟨show 3 ≤ sizeLine by decide, show 3 ≤ sizeLine by decide, show 4 ≤ sizeLine by decide, ?_⟩
      refine ite_yn (fun z => ?_) fun z => ?_
      · refine ⟨show 3 ≤ sizeLine by decide, show 4 ≤ sizeLine by decide, _, rfl, by decide, by decide, by omega, fun x hx => ?_⟩
        dsimp only
        refine tail _ _ ?_
        simp only [List.mem_cons, List.not_mem_nil, or_false] at hx
        rcases hx with rfl | rfl | rfl | rfl
        · exact ⟨[-1, 0, 1], by decide, by decide, rfl, rfl⟩
        · exact ⟨[-1, 1, -1], by decide, by decide, rfl, rfl⟩
        · exact ⟨[-1, 1, 0, -1], by decide, by decide, rfl, rfl⟩
        · exact ⟨[-2, 1, -1], by decide, by decide, rfl, rfl⟩
      · refine ⟨show 2 ≤ sizeLine by decide, show 4 ≤ sizeLine by decide, _, rfl, by decide, by decide, by omega, fun x hx => ?_⟩
        dsimp only
        refine tail _ _ ?_
        simp only [List.mem_cons, List.not_mem_nil, or_false] at hx
        rcases hx with rfl | rfl | rfl | rfl
        · exact ⟨[-1, 0, 1], by decide, by decide, rfl, rfl⟩
        · exact ⟨[-1, 1, -1], by decide, by decide, rfl, rfl⟩
        · exact ⟨[-1, 1, 0, -1], by decide, by decide, rfl, rfl⟩
        · exact ⟨[-1, 1], by decide, by decide, rfl, rfl⟩
    rintro ρ m' ⟨sh, sh0, sh4, rfl, rfl⟩
    refine ⟨⟨by omega, by omega⟩, by rw [rngD_len]; exact Nat.lt_of_le_of_lt n4 (by decide), IAll isSide (m + 4) 1, .zero, fun i d acc m' hd hI => ?_, fun ss m' hI => ?_⟩
    · obtain ⟨hi, rfl⟩ := rngD_at hd
      have h3 := hI.2.2
      refine ⟨2, rfl, by decide, by decide, by omega, fun x x0 x1 => hI.next ?_ (Nat.le_refl _)⟩
      have : x = 0 ∨ x = 1 := by omega
      rcases this with rfl | rfl
      · exact .inl rfl
      · exact .inr rfl
    rw [rngD_len] at hI
    obtain ⟨hss, hside, hm'⟩ := hI
    refine ⟨Nat.zero_le _, Nat.zero_le _, ?_⟩
    refine ⟨.inl (by decide), 2 * (n : Int) + 2, rfl, by omega, by omega, by omega, fun x x0 x1 => ?_⟩
    refine ⟨⟨by omega, by omega⟩, fun i ρ m2 => ∃ (ms : List D) (pl lap cn : Cell), ρ = [.dat .pen, .dat (.int n), .dat (.int wd), .dat (.int md), .dat (.lst (sh.map D.int)), .dat (.lst ss), pl, .own (.lst ms), .own (.lst []), lap, cn] ∧ ms.length = i ∧ (∀ x ∈ ms, goodM n x) ∧ m2 ≤ m + 10 + 12 * i, ⟨[], _, _, _, rfl, rfl, fun x hx => (by cases hx), by omega⟩, ?_, ?_⟩
    · rintro i d ρ m2 hd ⟨ms, pl, lap, cn, rfl, hl, hM, hm2⟩
      obtain ⟨hi, rfl⟩ := rngD_atI hd
      refine cutS (k := ?k3) (fun ρ m3 => ∃ p : Int, 0 ≤ p ∧ p < n ∧ ρ = [.dat .pen, .dat (.int n), .dat (.int wd), .dat (.int md), .dat (.lst (sh.map D.int)), .dat (.lst ss), .dat (.int p), .own (.lst ms), .own (.lst []), .dat (.int i), cn] ∧ m3 ≤ m2 + 1) ?b3 fun tail => ?a3
      case a3 =>
        refine ite_yn (fun z => ?_) fun z => ?_
        · refine wVar_at rfl ?_
          dsimp only
          refine tail _ _ ?_
          exact ⟨i, by omega, of_decide_eq_true z, rfl, by omega⟩
        · refine ⟨n, rfl, by omega, by omega, by omega, fun p p0 p1 => ?_⟩
          dsimp only
          refine tail _ _ ?_
          exact ⟨p, p0, p1, rfl, by omega⟩
      rintro ρ m3 ⟨p, p0, p1, rfl, hm3⟩
      refine cutS (k := ?k4) (fun ρ m4 => ∃ cs : List D, (∀ c ∈ cs, GoodC c) ∧ cs.length ≤ 2 ∧ ρ = [.dat .pen, .dat (.int n), .dat (.int wd), .dat (.int md), .dat (.lst (sh.map D.int)), .dat (.lst ss), .dat (.int p), .own (.lst ms), .own (.lst []), .dat (.int i), .dat (.tup cs)] ∧ m4 ≤ m2 + 8) ?b4 fun tail => ?a4
      case a4 =>
        refine ⟨2, rfl, by decide, by decide, by omega, fun y y0 y1 => ⟨rfl, Nat.zero_le _, ?_⟩⟩
        refine ite_yn (fun z => ?_) fun z => ?_
        · refine ⟨wd, md, rfl, w0, by omega, md1, by omega, by omega, fun cs m4 hc hl hm4 => ?_⟩
          dsimp only
          refine tail _ _ ?_
          exact ⟨cs, hc, hl, rfl, by omega⟩
        · refine ⟨Nat.zero_le _, ?_⟩
          dsimp only
          refine tail _ _ ?_
          exact ⟨[], fun c hc => (by cases hc), Nat.zero_le _, rfl, by omega⟩
      rintro ρ m4 ⟨cs, hc, hcl, rfl, hm4⟩
      refine ⟨_, rfl, by rw [List.length_map]; exact sh0, by rw [List.length_map]; omega, by omega, fun s hs => ?_⟩
      obtain ⟨si, _, rfl⟩ := List.mem_map.mp hs
      refine ⟨n, rfl, by omega, by omega, by omega, fun t t0 t1 => ⟨show 4 ≤ sizeLine by decide, by omega, ms ++ [.tup [.int p, .tup cs, .int si, .int t]], _, _, _, rfl, by rw [List.length_append, hl]; rfl, fun x hx => ?_, by omega⟩⟩
      rcases List.mem_append.mp hx with q | q
      · exact hM x q
      · rw [List.mem_singleton.mp q]
        exact ⟨p, cs, si, t, rfl, p0, p1, t0, t1, hc, by omega⟩
    rintro ρ m2 ⟨ms, pl, lap, cn, rfl, hl, hM, hm2⟩
    rw [rngD_lenI] at hl hm2
    refine ⟨show 4 ≤ sizeLine by decide, _, rfl, by decide, by decide, by omega, fun y hy => ?_⟩
    obtain ⟨g, rfl, g2⟩ : ∃ g : Nat, y = .int g ∧ g ≤ 2 := by
      simp only [List.mem_cons, List.not_mem_nil, or_false] at hy
      rcases hy with rfl | rfl | rfl | rfl
      · exact ⟨0, rfl, by decide⟩
      · exact ⟨1, rfl, by decide⟩
      · exact ⟨1, rfl, by decide⟩
      · exact ⟨2, rfl, by decide⟩
    refine ⟨⟨by omega, by omega⟩, fun i ρ m3 => ∃ (gs : List D) (pl lap : Cell), ρ = [.dat .pen, .dat (.int n), .dat (.int wd), .dat (.int md), .dat (.lst (sh.map D.int)), .dat (.lst ss), pl, .own (.lst ms), .own (.lst gs), lap, cn] ∧ gs.length = i ∧ (∀ x ∈ gs, goodG n x) ∧ m3 ≤ m2 + 2 + 10 * i, ⟨[], _, _, rfl, rfl, fun x hx => (by cases hx), by omega⟩, ?_, ?_⟩
    · rintro i d ρ m3 hd ⟨gs, pl, lap, rfl, hgl, hG, hm3⟩
      obtain ⟨hi, rfl⟩ := rngD_at hd
      refine ⟨n, rfl, by omega, by omega, by omega, fun p p0 p1 => ?_⟩
      refine ⟨wd, md, rfl, w0, by omega, md1, by omega, by omega, fun cs m4 hc hl hm4 => ⟨show 0 ≤ sizeLine by decide, show 2 ≤ sizeLine by decide, show 1 ≤ sizeLine by decide, show 2 ≤ sizeLine by decide, _, rfl, by decide, by decide, by omega, fun y hy => ?_⟩⟩
      obtain ⟨es, rfl, he, hel⟩ : ∃ es, y = .tup es ∧ (∀ c ∈ es, GoodC c) ∧ es.length ≤ 1 := by
        simp only [List.mem_cons, List.not_mem_nil, or_false] at hy
        rcases hy with rfl | rfl
        · exact ⟨[], rfl, fun c hc => (by cases hc), by decide⟩
        · refine ⟨_, rfl, fun c hc => ?_, by decide⟩
          rw [List.mem_singleton.mp hc]
          exact .inl ⟨"is", by decide, 0, rfl⟩
      refine ⟨by have : (1000 : Nat) ≤ sizeLine := by decide
                 omega, show 2 ≤ sizeLine by decide, by omega, gs ++ [.tup [.int p, .tup (cs ++ es)]], _, _, rfl, by rw [List.length_append, hgl]; rfl, fun x hx => ?_, by omega⟩
      rcases List.mem_append.mp hx with q | q
      · exact hG x q
      · rw [List.mem_singleton.mp q]
        refine ⟨p, cs ++ es, rfl, p0, p1, fun c hc2 => ?_, by rw [List.length_append]; omega⟩
        rcases List.mem_append.mp hc2 with q | q
        · exact hc c q
        · exact he c q
    rintro ρ m3 ⟨gs, pl, lap, rfl, hgl, hG, hm3⟩
    rw [rngD_len] at hgl hm3
    refine k ss ms gs _ ⟨by omega, by omega, hside, by omega, by rw [hss]; exact hM, by omega, by decide, by rw [hss]; exact hG⟩ (by omega) (by omega)
end
end DW

namespace DW
open PySem PySem.Spec L2

/-- a row as a tuple or as a list -/
def fwListed : FW := fun ds m Q => ∃ d es, ds = [.pen, d] ∧ (d = .lst es ∨ d = .tup es) ∧ m < 100000000000 ∧ Q (.tup es) (m + 1) ∧ Q (.lst es) (m + 1)
def fwTaking : FW := fun ds m Q => ds = [.pen] ∧ m < 1000000000 ∧ ∀ ss ms gs m', GoodB 20 ss ms gs → 0 < ms.length → m' ≤ m + 500 → Q (bookT ss ms gs) m'
def fwDrawn : FW := fun ds m Q => ds = [.pen] ∧ m < 900000000 ∧ ∀ ss ms gs m', GoodB 20 ss ms gs → 0 < ms.length → m' ≤ m + 600 → Q (bookT ss ms gs) m'
section
variable {P : Program} {w : World} {K : PySem.W.Frag} {TT : List (Addr × Str)} {mg : Str → Option Value} {base : Heap} {ad : Str → Addr}
abbrev s__law_taking_book : Stmt := topS 57
theorem sc__law_taking_book : FnScope ["_law_pen_here", "_law_takes", "_law_take", "_law_moves", "_law_place"] ["_law_pen_here"] (defScope s__law_taking_book) := ⟨rfl, rfl, rfl, by decide +kernel, rfl, by decide +kernel, by decide +kernel⟩
theorem ok__law_taking_book {f : Addr} {fd : FuncData} (F : Fun K "_law_taking_book" "_law_taking_book" s__law_taking_book f fd) {lev : Lev} (T : TB K mg ad) (f__law_draw : DFn false P w K TT mg base 1 "_law_draw" fwDraw) (f__law_pick : DFn false P w K TT mg base 2 "_law_pick" fwPick) (E0 : EqE P w K TT mg base lev 0) (N0 : NeE K lev) : FnG false P w K mg base CX0 5 f fd ["_law_pen_here"] (spD K TT fwTaking) := by
  refine fn_data (k := 4) F sc__law_taking_book (fun ds m Q h => ?_) (fun cdv A outer s H E p cc B hr hgs hcd => (dss_cons (ds_set (i := 1) sc__law_taking_book.nd rfl (by first | exact Or.inl rfl | exact Or.inr rfl) (de_add (DL.de (dl_lc (own := [("_law_take", 2)]) rfl sc__law_taking_book.nd (di_seq (de_lst (da_cons de_int (da_cons de_int (da_cons de_int da_nil))))) (blkOk_by (own := [("_law_take", 2)]) (N := ["_law_pen_here", "_law_takes", "_law_take", "_law_moves", "_law_place"]) (sc := defScope s__law_taking_book) (by decide +kernel)) (fun _ _ _ _ _ => (dg_name (i := 2) sc__law_taking_book.nd rfl (by first | exact Or.inl rfl | exact Or.inr rfl))) (by decide) (fun _ _ _ _ _ => (dts_one (dt_eqX (n := 0) E0 hr (by decide) (de_call f__law_draw hr nog (by decide) (by rfl) (da_cons (de_var 0) (da_cons de_int da_nil))) de_int))) (fun _ _ _ _ _ => (de_var 2)))) (de_lst (da_cons (de_call f__law_pick hr nog (by decide) (by rfl) (da_cons (de_var 0) (da_cons (de_lst (da_cons de_int (da_cons de_int da_nil))) da_nil))) da_nil))))
    (dss_cons (ds_setO (i := 3) sc__law_taking_book.nd rfl (by first | exact Or.inl rfl | exact Or.inr rfl) (dl_lst da_nil))
    (dss_cons (ds_for PassesOwn.never rfl (di_seq (de_var 1)) (dg_name (i := 2) sc__law_taking_book.nd rfl (by first | exact Or.inl rfl | exact Or.inr rfl))
    (dss_one (ds_for PassesOwn.never rfl (di_range1 (by rfl) T.b_range (da_cons de_int da_nil)) (dg_name (i := 4) sc__law_taking_book.nd rfl (by first | exact Or.inl rfl | exact Or.inr rfl))
    (dss_one (ds_append (i := 3) (fun _ h => pe_bm PySem.F.plainAttrs_list PySem.F.slot_list_append PySem.F.type_list_append mt_append (pv 3) (pa_cons h pa_nil)) (de_tup (da_cons (de_var 4) (da_cons (de_tup (da_cons (de_tup (da_cons de_str (da_cons (de_var 2) da_nil))) da_nil)) (da_cons (de_neg (de_var 2)) (da_cons (de_sub de_int (de_var 4)) da_nil))))))))))
    (dss_cons (ds_if (dt_eqX (n := 0) E0 hr (by decide) (de_call f__law_draw hr nog (by decide) (by rfl) (da_cons (de_var 0) (da_cons de_int da_nil))) de_int)
    (dss_one (ds_append (i := 3) (fun _ h => pe_bm PySem.F.plainAttrs_list PySem.F.slot_list_append PySem.F.type_list_append mt_append (pv 3) (pa_cons h pa_nil)) (de_tup (da_cons (de_call f__law_draw hr nog (by decide) (by rfl) (da_cons (de_var 0) (da_cons de_int da_nil))) (da_cons (de_call f__law_pick hr nog (by decide) (by rfl) (da_cons (de_var 0) (da_cons (de_lst (da_cons (de_tup da_nil) (da_cons (de_tup (da_cons (de_tup (da_cons de_str (da_cons de_int (da_cons de_int da_nil)))) da_nil)) da_nil))) da_nil))) (da_cons de_int (da_cons (de_call f__law_draw hr nog (by decide) (by rfl) (da_cons (de_var 0) (da_cons de_int da_nil))) da_nil)))))))
    dss_nil)
    (dss_one (ds_frz 3 (ds_ret (de_dct (ns := ["sides", "moves", "goals"]) (dp_cons (de_lst (da_cons de_int (da_cons de_int da_nil))) (dp_cons (de_var 3) (dp_cons (de_lst da_nil) dp_nil))) (by decide +kernel) (by decide)))))))))) fun ds m Q h => ?_
  · obtain ⟨rfl, _⟩ := h
    rfl
  · obtain ⟨rfl, hm, k⟩ := h
    refine cutS (k := ?k1) (fun ρ m1 => ∃ ts : List D, (∀ t ∈ ts, ∃ i : Int, t = .int i ∧ 1 ≤ i ∧ i ≤ 3) ∧ (ts.length ≤ 4 ∧ 0 < ts.length) ∧ ρ = [.dat .pen, .dat (.lst ts), .un, .un, .un] ∧ m1 ≤ m + 4) ?b1 fun tail => ?a1
    case a1 =>
      refine ⟨show 3 ≤ sizeLine by decide, show 3 < sizeLine by decide, fun i acc m1 => acc.length ≤ i ∧ (∀ t ∈ acc, ∃ i : Int, t = .int i ∧ 1 ≤ i ∧ i ≤ 3) ∧ m1 ≤ m + i, ⟨Nat.le_refl _, fun t h => (by cases h), Nat.le_refl _⟩, fun i d acc m1 hd hI => ?_, fun acc m1 hI => ?_⟩
      · obtain ⟨hl, hA, hm1⟩ := hI
        have hi : i < 3 := (List.getElem?_eq_some_iff.mp hd).1
        have hd2 : ∃ j : Int, d = .int j ∧ 1 ≤ j ∧ j ≤ 3 := by
          have := List.mem_of_getElem? hd
          simp only [List.mem_cons, List.not_mem_nil, or_false] at this
          rcases this with rfl | rfl | rfl <;> exact ⟨_, rfl, by decide, by decide⟩
        refine ⟨2, rfl, by decide, by decide, by omega, fun y y0 y1 => ⟨rfl, Nat.zero_le _, ?_⟩⟩
        refine ite_yn (fun z => ?_) fun z => ?_
        · refine ⟨by rw [List.length_append]; simp; omega, fun t ht => ?_, by omega⟩
          rcases List.mem_append.mp ht with q | q
          · exact hA t q
          · rw [List.mem_singleton.mp q]
            exact hd2
        · exact ⟨by omega, hA, by omega⟩
      · obtain ⟨hl, hA, hm1⟩ := hI
        have hl : acc.length ≤ 3 := hl
        have hm1 : m1 ≤ m + 3 := hm1
        refine ⟨show 2 ≤ sizeLine by decide, _, rfl, by decide, by decide, by omega, fun x hx => ⟨show 1 ≤ sizeLine by decide, sz (show acc.length + 1 ≤ 1000 by omega), ?_⟩⟩
        dsimp only
        refine tail _ _ ?_
        refine ⟨acc ++ [x], fun t ht => ?_, ⟨by rw [List.length_append]; simp; omega, by simp⟩, rfl, by omega⟩
        rcases List.mem_append.mp ht with q | q
        · exact hA t q
        · rw [List.mem_singleton.mp q]
          simp only [List.mem_cons, List.not_mem_nil, or_false] at hx
          rcases hx with rfl | rfl <;> exact ⟨_, rfl, by decide, by decide⟩
    rintro ρ m1 ⟨ts, ht, ⟨htl, ht0⟩, rfl, hm1⟩
    refine ⟨Nat.zero_le _, ?_⟩
    refine ⟨fun i ρ m2 => ∃ (ms : List D) (a b : Cell), ρ = [.dat .pen, .dat (.lst ts), a, .own (.lst ms), b] ∧ ms.length = 2 * i ∧ (∀ x ∈ ms, goodM 2 x) ∧ m2 = m1, ⟨[], _, _, rfl, rfl, fun x hx => (by cases hx), rfl⟩, ?_, ?_⟩
    · rintro i d ρ m2 hd ⟨ms, a, b, rfl, hl, hM, rfl⟩
      have hi : i < ts.length := (List.getElem?_eq_some_iff.mp hd).1
      obtain ⟨t, rfl, t1, t3⟩ := ht d (List.mem_of_getElem? hd)
      refine ⟨⟨by decide, by decide⟩, fun j ρ m3 => ∃ (ns : List D) (b : Cell), ρ = [.dat .pen, .dat (.lst ts), .dat (.int t), .own (.lst ns), b] ∧ ns.length = 2 * i + j ∧ (∀ x ∈ ns, goodM 2 x) ∧ m3 = m2, ⟨ms, _, rfl, hl, hM, rfl⟩, ?_, ?_⟩
      · rintro j e ρ m3 he ⟨ns, b, rfl, hl, hM, rfl⟩
        obtain ⟨hj, rfl⟩ := rngD_atI he
        refine ⟨show 2 ≤ sizeLine by decide, show 1 ≤ sizeLine by decide, show 4 ≤ sizeLine by decide, by omega, ns ++ [.tup [.int j, .tup [.tup [.str "least", .int t]], .int (-t), .int (1 - j)]], _, rfl, by rw [List.length_append, hl]; rfl, fun x hx => ?_, rfl⟩
        rcases List.mem_append.mp hx with q | q
        · exact hM x q
        · rw [List.mem_singleton.mp q]
          refine ⟨j, _, -t, 1 - j, rfl, by omega, by omega, by omega, by omega, fun c hc => ?_, (show 1 ≤ 3 by decide)⟩
          rw [List.mem_singleton.mp hc]
          exact .inl ⟨"least", by decide, t, rfl⟩
      · rintro ρ m3 ⟨ns, b, rfl, hl, hM, rfl⟩
        exact ⟨ns, _, _, rfl, by rw [hl, rngD_lenI]; rfl, hM, rfl⟩
    rintro ρ m2 ⟨ms, a, b, rfl, hl, hM, rfl⟩
    refine cutS (k := ?k2) (fun ρ m3 => ∃ ns : List D, ρ = [.dat .pen, .dat (.lst ts), a, .own (.lst ns), b] ∧ (ns.length ≤ 9 ∧ 0 < ns.length) ∧ (∀ x ∈ ns, goodM 2 x) ∧ m3 ≤ m + 8) ?b2 fun tail => ?a2
    case a2 =>
      refine ⟨2, rfl, by decide, by decide, by omega, fun y y0 y1 => ⟨rfl, Nat.zero_le _, ?_⟩⟩
      refine ite_yn (fun z => ?_) fun z => ?_
      · refine ⟨2, rfl, by decide, by decide, by omega, fun p p0 p1 => ⟨show 0 ≤ sizeLine by decide, show 3 ≤ sizeLine by decide, show 1 ≤ sizeLine by decide, show 2 ≤ sizeLine by decide, _, rfl, by decide, by decide, by omega, fun x hx => ?_⟩⟩
        refine ⟨2, rfl, by decide, by decide, by omega, fun q q0 q1 => ⟨show 4 ≤ sizeLine by decide, by omega, ?_⟩⟩
        refine tail _ _ ?_
        refine ⟨ms ++ [.tup [.int p, x, .int 1, .int q]], rfl, ⟨by rw [List.length_append]; simp; omega, by simp⟩, fun v hv => ?_, by omega⟩
        rcases List.mem_append.mp hv with u | u
        · exact hM v u
        · rw [List.mem_singleton.mp u]
          simp only [List.mem_cons, List.not_mem_nil, or_false] at hx
          rcases hx with rfl | rfl
          · exact ⟨p, _, 1, q, rfl, p0, p1, q0, q1, fun c hc => (by cases hc), by decide⟩
          · refine ⟨p, _, 1, q, rfl, p0, p1, q0, q1, fun c hc => ?_, by decide⟩
            rw [List.mem_singleton.mp hc]
            exact .inr ⟨2, 1, by decide, by decide, rfl⟩
      · refine tail _ _ ?_
        exact ⟨ms, rfl, ⟨by omega, by omega⟩, hM, by omega⟩
    rintro ρ m3 ⟨ns, rfl, hn, hN, hm3⟩
    refine ⟨show 2 ≤ sizeLine by decide, show 0 ≤ sizeLine by decide, ?_⟩
    refine k [.int 0, .int 1] ns [] m3 ⟨by decide, by decide, fun s hs => ?_, by omega, hN, by decide, by decide, fun x hx => (by cases hx)⟩ hn.2 (by omega)
    simp only [List.mem_cons, List.not_mem_nil, or_false] at hs
    exact hs
abbrev s__law_drawn_book : Stmt := topS 58
theorem sc__law_drawn_book : FnScope ["_law_pen_here"] ["_law_pen_here"] (defScope s__law_drawn_book) := ⟨rfl, rfl, rfl, by decide +kernel, rfl, by decide +kernel, by decide +kernel⟩
theorem ok__law_drawn_book {f : Addr} {fd : FuncData} (F : Fun K "_law_drawn_book" "_law_drawn_book" s__law_drawn_book f fd) (T : TB K mg ad) (f__law_draw : DFn false P w K TT mg base 1 "_law_draw" fwDraw) (f__law_taking_book : DFn false P w K TT mg base 5 "_law_taking_book" fwTaking) (f__law_some_book : DFn false P w K TT mg base 5 "_law_some_book" fwBook) : FnG false P w K mg base CX0 6 f fd ["_law_pen_here"] (spD K TT fwDrawn) := by
  refine fn_data (k := 5) F sc__law_drawn_book (fun ds m Q h => ?_) (fun cdv A outer s H E p cc B hr hgs hcd => (dss_one (ds_ret (de_ifExp (dt_lt (de_call f__law_draw hr nog (by decide) (by rfl) (da_cons (de_var 0) (da_cons de_int da_nil))) de_int) (de_call f__law_taking_book hr nog (by decide) (by rfl) (da_cons (de_var 0) da_nil)) (de_call f__law_some_book hr nog (by decide) (by rfl) (da_cons (de_var 0) da_nil)))))) fun ds m Q h => ?_
  · obtain ⟨rfl, _⟩ := h
    rfl
  · obtain ⟨rfl, hm, k⟩ := h
    refine ⟨5, rfl, by decide, by decide, by omega, fun y y0 y1 => ?_⟩
    refine ite_yn (fun z => ?_) fun z => ?_
    · exact ⟨rfl, by omega, fun ss ms gs m' hg h0 hm' => k ss ms gs m' hg h0 (by omega)⟩
    · exact ⟨rfl, by omega, fun ss ms gs m' hg h0 hm' => k ss ms gs m' hg h0 (by omega)⟩
abbrev s__law_listed : Stmt := topS 59
theorem sc__law_listed : FnScope ["_law_pen_here", "_law_row"] ["_law_pen_here", "_law_row"] (defScope s__law_listed) := ⟨rfl, rfl, rfl, by decide +kernel, rfl, by decide +kernel, by decide +kernel⟩
theorem ok__law_listed {f : Addr} {fd : FuncData} (F : Fun K "_law_listed" "_law_listed" s__law_listed f fd) (T : TB K mg ad) (f__law_pick : DFn false P w K TT mg base 2 "_law_pick" fwPick) : FnG false P w K mg base CX0 3 f fd ["_law_pen_here", "_law_row"] (spD K TT fwListed) := by
  refine fn_data (k := 2) F sc__law_listed (fun ds m Q h => ?_) (fun cdv A outer s H E p cc B hr hgs hcd => (dss_one (ds_ret (de_call f__law_pick hr nog (by decide) (by rfl) (da_cons (de_var 0) (da_cons (de_lst (da_cons (de_callTy call_tuple_of rd_tuple (by rfl) T.b_tuple (by decide +kernel) (da_cons (de_var 1) da_nil)) (da_cons (DL.de (dl_listc (by rfl) T.b_list (da_cons (de_var 1) da_nil))) da_nil))) da_nil)))))) fun ds m Q h => ?_
  · obtain ⟨d, es, rfl, _⟩ := h
    rfl
  · obtain ⟨d, es, rfl, hd, hm, k1, k2⟩ := h
    rcases hd with rfl | rfl
    all_goals
      refine ⟨show 2 ≤ sizeLine by decide, _, rfl, (show 0 < 2 by decide), (show 2 < 1073741824 by decide), by omega, fun x hx => ?_⟩
      simp only [List.mem_cons, List.not_mem_nil, or_false] at hx
      rcases hx with rfl | rfl
      · exact k1
      · exact k2
end
end DW

namespace DW
open PySem PySem.Spec L2

section
variable {ad : Str → Addr} {cs : List Addr}
theorem okTA_mk : ∀ {ds : List D}, (∀ x ∈ ds, x.okT cs = true) → okTA cs ds = true
  | [], _ => rfl
  | d :: ds, h => by
    rw [okTA, h d (List.mem_cons_self ..), okTA_mk fun x hx => h x (List.mem_cons_of_mem _ hx)]
    rfl
theorem okT_lst {ds : List D} (h : ∀ x ∈ ds, x.okT cs = true) (hl : ds.length < 10000) : (D.lst ds).okT cs = true := by
  rw [D.okT, okTA_mk h, decide_eq_true hl]
  rfl
theorem okT_tup {ds : List D} (h : ∀ x ∈ ds, x.okT cs = true) (hl : ds.length < 10000) : (D.tup ds).okT cs = true := okT_lst h hl
theorem rdepA_le {n : Nat} : ∀ {ds : List D}, (∀ x ∈ ds, x.rdep ≤ n) → rdepA ds ≤ n
  | [], _ => Nat.zero_le _
  | d :: ds, h => by
    rw [rdepA]
    exact Nat.max_le.mpr ⟨h d (List.mem_cons_self ..), rdepA_le fun x hx => h x (List.mem_cons_of_mem _ hx)⟩
/-- a thing that tupled() turns to c -/
def Lx (cs : List Addr) (x c : D) : Prop := x.tupled = c ∧ x.okT cs = true ∧ x.rdep ≤ 1
theorem flat_in {es : List D} (h : ∀ x ∈ es, (∃ i, x = .int i) ∨ ∃ s, x = .str s ∧ PyData.strOk s = true) (hl : es.length ≤ 3) : Lx cs (.tup es) (.tup es) ∧ Lx cs (.lst es) (.tup es) := by
  have e : es.map D.tupled = es := by
    rw [← List.map_id es, List.map_map]
    refine List.map_congr_left fun x hx => ?_
    rcases h x hx with ⟨i, rfl⟩ | ⟨s, rfl, _⟩ <;> rfl
  have ok : ∀ x ∈ es, x.okT cs = true := fun x hx => by
    rcases h x hx with ⟨i, rfl⟩ | ⟨s, rfl, hs⟩
    · rfl
    · exact hs
  have rd : rdepA es ≤ 0 := rdepA_le fun x hx => by
    rcases h x hx with ⟨i, rfl⟩ | ⟨s, rfl, _⟩ <;> exact Nat.le_refl _
  exact ⟨⟨by rw [D.tupled, tupledA_map, e], okT_tup ok (by omega), Nat.succ_le_succ rd⟩, by rw [D.tupled, tupledA_map, e], okT_lst ok (by omega), Nat.succ_le_succ rd⟩
theorem goodC_es {c : D} (h : GoodC c) : ∃ es, c = .tup es ∧ Lx cs (.tup es) c ∧ Lx cs (.lst es) c := by
  rcases h with ⟨w, hw, a, rfl⟩ | ⟨a, b, b0, b1, rfl⟩
  · have := flat_in (cs := cs) (es := [.str w, .int a]) (fun x hx => by
      simp only [List.mem_cons, List.not_mem_nil, or_false] at hx
      rcases hx with rfl | rfl
      · exact .inr ⟨w, rfl, (words_ok w hw).1⟩
      · exact .inl ⟨_, rfl⟩) (show 2 ≤ 3 by decide)
    exact ⟨_, rfl, this⟩
  · have := flat_in (cs := cs) (es := [.str "rest", .int a, .int b]) (fun x hx => by
      simp only [List.mem_cons, List.not_mem_nil, or_false] at hx
      rcases hx with rfl | rfl | rfl
      · exact .inr ⟨_, rfl, by decide +kernel⟩
      · exact .inl ⟨_, rfl⟩
      · exact .inl ⟨_, rfl⟩) (show 3 ≤ 3 by decide)
    exact ⟨_, rfl, this⟩
theorem goodC_ok {c : D} (h : GoodC c) : c.okT cs = true := by
  obtain ⟨es, rfl, h1, _⟩ := goodC_es (cs := cs) h
  exact h1.2.1
theorem goodC_cond {c : D} (h : GoodC c) : c.isCond = true := by
  rcases h with ⟨w, hw, a, rfl⟩ | ⟨a, b, b0, b1, rfl⟩
  · have hne : w ≠ "rest" := by
      have := (words_ok w hw).2
      simpa using this
    have hin : wordsL.any (fun x => x == w) = true := List.any_eq_true.mpr ⟨w, hw, by simp⟩
    rw [cond_eq, if_neg hne, hin]
    rfl
  · rw [cond_eq, if_pos rfl]
    show (true && (decide (0 ≤ b) && decide (b < a))) = true
    rw [decide_eq_true b0, decide_eq_true b1]
    rfl
def mvOf (ad : Str → Addr) : D → D
  | .tup [p, c, s, t] => moveD ad p c s t
  | d => d
def glOf (ad : Str → Addr) : D → D
  | .tup [p, c] => goalD ad p c
  | d => d
theorem ix_yes {n : Nat} {p : Int} (h0 : 0 ≤ p) (h1 : p < n) : (D.int p).isIx n = true := by
  rw [D.isIx, decide_eq_true h0, decide_eq_true h1]
  rfl
theorem conds_yes {cs : List D} (h : ∀ c ∈ cs, GoodC c) : (D.tup cs).isConds = true := List.all_eq_true.mpr fun c hc => goodC_cond (h c hc)
theorem mv_yes {n : Nat} {x : D} (h : goodM n x) : isMv ad n (mvOf ad x) = true := by
  obtain ⟨p, cs, s, t, rfl, p0, p1, t0, t1, hc, _⟩ := h
  show (decide (ad "Move" = ad "Move") && ((D.int p).isIx n && ((D.tup cs).isConds && (true && (D.int t).isIx n)))) = true
  rw [decide_eq_true rfl, ix_yes p0 p1, ix_yes t0 t1, conds_yes hc]
  rfl
theorem gl_yes {n : Nat} {x : D} (h : goodG n x) : isGl ad n (glOf ad x) = true := by
  obtain ⟨p, cs, rfl, p0, p1, hc, _⟩ := h
  show (decide (ad "Goal" = ad "Goal") && ((D.int p).isIx n && (D.tup cs).isConds)) = true
  rw [decide_eq_true rfl, ix_yes p0 p1, conds_yes hc]
  rfl
theorem mv_in {n : Nat} {x : D} (h : goodM n x) : MvIn ad (mvOf ad x) := by
  obtain ⟨p, cs, s, t, rfl, p0, p1, t0, t1, hc, hl⟩ := h
  exact ⟨decide_eq_true (List.mem_cons_self ..), fun _ => ⟨_, _, _, _, rfl, rfl, okT_tup (fun c h => goodC_ok (hc c h)) (by omega), rfl, rfl⟩⟩
theorem gl_in {n : Nat} {x : D} (h : goodG n x) : GlIn ad (glOf ad x) := by
  obtain ⟨p, cs, rfl, p0, p1, hc, hl⟩ := h
  exact ⟨decide_eq_true (List.mem_cons_of_mem _ (List.mem_cons_self ..)), fun _ => ⟨_, _, rfl, rfl, okT_tup (fun c h => goodC_ok (hc c h)) (by omega)⟩⟩
end
def fwMadeM (ad : Str → Addr) : FW := fun ds m Q => ∃ n x, ds = [.pen, x] ∧ goodM n x ∧ m < 10000000000 ∧ ∀ m', m' ≤ m + 4 → Q (mvOf ad x) m'
def fwMadeG (ad : Str → Addr) : FW := fun ds m Q => ∃ n x, ds = [.pen, x] ∧ goodG n x ∧ m < 10000000000 ∧ ∀ m', m' ≤ m + 4 → Q (glOf ad x) m'
abbrev bookO (ad : Str → Addr) (ss ms gs : List D) : D := .obj (ad "Book") [("sides", .tup ss), ("moves", .tup (ms.map (mvOf ad))), ("goals", .tup (gs.map (glOf ad))), ("places", .int ss.length)]
def fwMadeB (ad : Str → Addr) : FW := fun ds m Q => ∃ ss ms gs, ds = [.pen, bookT ss ms gs] ∧ GoodB 60 ss ms gs ∧ m < 5000000000 ∧ ∀ m', m' ≤ m + 400 → Q (bookO ad ss ms gs) m'
def fwTold (ad : Str → Addr) : FW := fun ds m Q => ∃ ss ms gs, ds = [bookO ad ss ms gs] ∧ GoodB 60 ss ms gs ∧ Q (bookT ss ms gs) m
/-- what is gathered turns to cs -/
abbrev IL (ad : Str → Addr) (cs : List D) (m : Nat) : Nat → List D → Nat → Prop := fun i acc m' => acc.map D.tupled = cs.take i ∧ acc.length = i ∧ (∀ x ∈ acc, x.okT (csB ad) = true ∧ x.rdep ≤ 1) ∧ m' = m + i
theorem IL.next {ad : Str → Addr} {cs acc : List D} {m i m1 : Nat} {c y : D} (hc : cs[i]? = some c) (h : IL ad cs m i acc m1) (hy : Lx (csB ad) y c) : IL ad cs m (i + 1) (acc ++ [y]) (m1 + 1) := by
  obtain ⟨h1, h2, h3, h4⟩ := h
  obtain ⟨q1, q2, q3⟩ := hy
  refine ⟨by rw [List.map_append, h1, List.take_add_one, hc, ← q1]; rfl, by rw [List.length_append, h2]; rfl, fun x hx => ?_, by omega⟩
  rcases mem_snoc hx with q | rfl
  · exact h3 x q
  · exact ⟨q2, q3⟩
section
variable {P : Program} {w : World} {K : PySem.W.Frag} {TT : List (Addr × Str)} {mg : Str → Option Value} {base : Heap} {ad : Str → Addr}
abbrev s__law_made_move : Stmt := topS 60
theorem sc__law_made_move : FnScope ["_law_pen_here", "_law_move", "_law_conditions", "_law_condition"] ["_law_pen_here", "_law_move"] (defScope s__law_made_move) := ⟨rfl, rfl, rfl, by decide +kernel, rfl, by decide +kernel, by decide +kernel⟩
theorem ok__law_made_move {f : Addr} {fd : FuncData} (F : Fun K "_law_made_move" "_law_made_move" s__law_made_move f fd) (T : TB K mg ad) (f__law_listed : DFn false P w K TT mg base 3 "_law_listed" fwListed) (mk_Move : MkI P w K TT mg base 7 "Move" (ad "Move") (fiMove ad)) : FnG false P w K mg base CX0 9 f fd ["_law_pen_here", "_law_move"] (spD K TT (fwMadeM ad)) := by
  refine fn_data (k := 8) F sc__law_made_move (fun ds m Q h => ?_) (fun cdv A outer s H E p cc B hr hgs hcd => (dss_cons (ds_setLcD (i := 2) (own := [("_law_condition", 3)]) sc__law_made_move.nd rfl rfl rfl rfl (di_seq (de_sub2 hr (de_var 1) de_int (fun _ _ => rfl))) (blkOk_by (own := [("_law_condition", 3)]) (N := ["_law_pen_here", "_law_move", "_law_conditions", "_law_condition"]) (sc := defScope s__law_made_move) (by decide +kernel)) (fun _ _ _ _ _ => (dg_name (i := 3) sc__law_made_move.nd rfl (by first | exact Or.inl rfl | exact Or.inr rfl))) (by decide) (fun _ _ _ _ _ => dts_nil) (fun _ _ _ _ _ => (de_call f__law_listed hr nog (by decide) (by rfl) (da_cons (de_var 0) (da_cons (de_var 3) da_nil)))))
    (dss_one (ds_ret (de_mkI mk_Move hr (by decide) (by rfl) (da_cons (de_sub2 hr (de_var 1) de_int (fun _ _ => rfl)) (da_cons (de_call f__law_listed hr nog (by decide) (by rfl) (da_cons (de_var 0) (da_cons (de_var 2) da_nil))) (da_cons (de_sub2 hr (de_var 1) de_int (fun _ _ => rfl)) (da_cons (de_sub2 hr (de_var 1) de_int (fun _ _ => rfl)) da_nil))))))))) fun ds m Q h => ?_
  · obtain ⟨n, x, rfl, _⟩ := h
    rfl
  · obtain ⟨n, x, rfl, ⟨p, cs, s, t, rfl, p0, p1, t0, t1, hc, hl⟩, hm, k⟩ := h
    refine .inl ⟨_, atI_pos (by decide) rfl, szl (by omega), IL ad cs m, ⟨rfl, rfl, fun x h => (by cases h), rfl⟩, fun i c acc m1 hd hI => ?_, fun acc m1 hI => ?_⟩
    · have hx := hc c (List.mem_of_getElem? hd)
      have hi : i < cs.length := (List.getElem?_eq_some_iff.mp hd).1
      obtain ⟨es, rfl, l1, l2⟩ := goodC_es (cs := csB ad) hx
      have h4 := hI.2.2.2
      exact ⟨_, es, rfl, .inr rfl, by omega, hI.next hd l1, hI.next hd l2⟩
    obtain ⟨h1, h2, h3, h4⟩ := hI
    rw [List.take_length] at h1
    have ok := fun x hx => (h3 x hx).1
    have rd : rdepA acc ≤ 1 := rdepA_le fun x hx => (h3 x hx).2
    refine .inl ⟨_, atI_pos (by decide) rfl, .lst acc, acc, rfl, .inl rfl, by omega, ?_, ?_⟩
    · refine .inl ⟨_, atI_pos (by decide) rfl, .inl ⟨_, atI_pos (by decide) rfl, _, _, _, _, rfl, okT_tup ok (by omega), by show rdepA acc + 1 ≤ 4; omega, ?_⟩⟩
      rw [D.tupled, tupledA_map, h1]
      exact k _ (by omega)
    · refine .inl ⟨_, atI_pos (by decide) rfl, .inl ⟨_, atI_pos (by decide) rfl, _, _, _, _, rfl, okT_lst ok (by omega), by show rdepA acc + 1 ≤ 4; omega, ?_⟩⟩
      rw [D.tupled, tupledA_map, h1]
      exact k _ (by omega)
abbrev s__law_made_goal : Stmt := topS 61
theorem sc__law_made_goal : FnScope ["_law_pen_here", "_law_goal", "_law_condition"] ["_law_pen_here", "_law_goal"] (defScope s__law_made_goal) := ⟨rfl, rfl, rfl, by decide +kernel, rfl, by decide +kernel, by decide +kernel⟩
theorem ok__law_made_goal {f : Addr} {fd : FuncData} (F : Fun K "_law_made_goal" "_law_made_goal" s__law_made_goal f fd) (T : TB K mg ad) (f__law_listed : DFn false P w K TT mg base 3 "_law_listed" fwListed) (mk_Goal : MkI P w K TT mg base 7 "Goal" (ad "Goal") (fiGoal ad)) : FnG false P w K mg base CX0 9 f fd ["_law_pen_here", "_law_goal"] (spD K TT (fwMadeG ad)) := by
  refine fn_data (k := 8) F sc__law_made_goal (fun ds m Q h => ?_) (fun cdv A outer s H E p cc B hr hgs hcd => (dss_one (ds_ret (de_mkI mk_Goal hr (by decide) (by rfl) (da_cons (de_sub2 hr (de_var 1) de_int (fun _ _ => rfl)) (da_cons (de_call f__law_listed hr nog (by decide) (by rfl) (da_cons (de_var 0) (da_cons (DL.de (dl_lc (own := [("_law_condition", 2)]) rfl sc__law_made_goal.nd (di_seq (de_sub2 hr (de_var 1) de_int (fun _ _ => rfl))) (blkOk_by (own := [("_law_condition", 2)]) (N := ["_law_pen_here", "_law_goal", "_law_condition"]) (sc := defScope s__law_made_goal) (by decide +kernel)) (fun _ _ _ _ _ => (dg_name (i := 2) sc__law_made_goal.nd rfl (by first | exact Or.inl rfl | exact Or.inr rfl))) (by decide) (fun _ _ _ _ _ => dts_nil) (fun _ _ _ _ _ => (de_call f__law_listed hr nog (by decide) (by rfl) (da_cons (de_var 0) (da_cons (de_var 2) da_nil)))))) da_nil))) da_nil)))))) fun ds m Q h => ?_
  · obtain ⟨n, x, rfl, _⟩ := h
    rfl
  · obtain ⟨n, x, rfl, ⟨p, cs, rfl, p0, p1, hc, hl⟩, hm, k⟩ := h
    refine .inl ⟨_, atI_pos (by decide) rfl, .inl ⟨_, atI_pos (by decide) rfl, szl (by omega), IL ad cs m, ⟨rfl, rfl, fun x h => (by cases h), rfl⟩, fun i c acc m1 hd hI => ?_, fun acc m1 hI => ?_⟩⟩
    · have hx := hc c (List.mem_of_getElem? hd)
      have hi : i < cs.length := (List.getElem?_eq_some_iff.mp hd).1
      obtain ⟨es, rfl, l1, l2⟩ := goodC_es (cs := csB ad) hx
      have h4 := hI.2.2.2
      exact ⟨_, es, rfl, .inr rfl, by omega, hI.next hd l1, hI.next hd l2⟩
    obtain ⟨h1, h2, h3, h4⟩ := hI
    rw [List.take_length] at h1
    have ok := fun x hx => (h3 x hx).1
    have rd : rdepA acc ≤ 1 := rdepA_le fun x hx => (h3 x hx).2
    refine ⟨.lst acc, acc, rfl, .inl rfl, by omega, ?_, ?_⟩
    · refine ⟨_, _, rfl, okT_tup ok (by omega), by show rdepA acc + 1 ≤ 4; omega, ?_⟩
      rw [D.tupled, tupledA_map, h1]
      exact k _ (by omega)
    · refine ⟨_, _, rfl, okT_lst ok (by omega), by show rdepA acc + 1 ≤ 4; omega, ?_⟩
      rw [D.tupled, tupledA_map, h1]
      exact k _ (by omega)
end
end DW

namespace DW
open PySem PySem.Spec L2

/-- f of each so far, the draws it may have taken -/
abbrev IMk (f : D → D) (ms : List D) (m c : Nat) : Nat → List D → Nat → Prop := fun i acc m' => acc = (ms.take i).map f ∧ m' ≤ m + c * i
theorem IMk.next {f : D → D} {ms acc : List D} {m c i m1 m2 : Nat} {x y : D} (hx : ms[i]? = some x) (h : IMk f ms m c i acc m1) (hy : y = f x) (hm : m2 ≤ m1 + c) : IMk f ms m c (i + 1) (acc ++ [y]) m2 := by
  obtain ⟨rfl, h2⟩ := h
  refine ⟨?_, by rw [Nat.mul_add]; omega⟩
  rw [List.take_add_one, hx, List.map_append, hy]
  rfl
theorem faultS_no {ss : List D} {s : D} (hs : s = .lst ss ∨ s = .tup ss) (h0 : 0 < ss.length) (h : ∀ x ∈ ss, isSide x) : faultS s = none := by
  have e : (firstNo (D.isIx 2) 0 ss).map (fun i => D.int i) = none := by
    rw [firstNo_no (List.all_eq_true.mpr fun x hx => by
      rcases h x hx with rfl | rfl <;> rfl)]
    rfl
  rcases hs with rfl | rfl
  · rw [faultS, if_pos ⟨rfl, by show ss.length ≠ 0; omega⟩]
    exact e
  · rw [faultS, if_pos ⟨rfl, by show ss.length ≠ 0; omega⟩]
    exact e
theorem faultR_no {f : D → Bool} {xs : List D} {d : D} (hd : d = .lst xs ∨ d = .tup xs) (h : ∀ x ∈ xs, f x = true) : faultR f d = none := by
  have e : (firstNo f 0 xs).map (fun i => D.int i) = none := by
    rw [firstNo_no (List.all_eq_true.mpr h)]
    rfl
  rcases hd with rfl | rfl
  · rw [faultR, if_pos (show (D.lst xs).isRow = true from rfl)]
    exact e
  · rw [faultR, if_pos (show (D.tup xs).isRow = true from rfl)]
    exact e
theorem rows_eq {xs : List D} {d : D} (hd : d = .lst xs ∨ d = .tup xs) : rows d = xs := by rcases hd with rfl | rfl <;> rfl
theorem row_known {cs : List Addr} {xs : List D} {d : D} (hd : d = .lst xs ∨ d = .tup xs) : d.known cs = true := by rcases hd with rfl | rfl <;> rfl
theorem side_ok {cs : List Addr} {ss : List D} {s : D} (hs : s = .lst ss ∨ s = .tup ss) (h4 : ss.length ≤ 20) (h : ∀ x ∈ ss, isSide x) : s.okT cs = true := by
  have ok : ∀ x ∈ ss, x.okT cs = true := fun x hx => by rcases h x hx with rfl | rfl <;> rfl
  rcases hs with rfl | rfl
  · exact okT_lst ok (by omega)
  · exact okT_tup ok (by omega)
theorem book_good {ad : Str → Addr} {L : Nat} {ss ms gs : List D} {s mv g : D} {m : Nat} {Q : List (Str × D) → Nat → Prop} {QX : Addr → List (Str × D) → Nat → Prop} (G : GoodB L ss ms gs) (hs : s = .lst ss ∨ s = .tup ss) (hm : mv = .lst (ms.map (mvOf ad)) ∨ mv = .tup (ms.map (mvOf ad))) (hg : g = .lst (gs.map (glOf ad)) ∨ g = .tup (gs.map (glOf ad)))
    (q : Q [("sides", .tup ss), ("moves", .tup (ms.map (mvOf ad))), ("goals", .tup (gs.map (glOf ad))), ("places", .int ss.length)] m) : fiBook ad [s, mv, g] m Q QX := by
  have mi : ∀ x ∈ ms.map (mvOf ad), MvIn ad x ∧ isMv ad (ss.length : Int) x = true := fun x hx => by
    obtain ⟨y, hy, rfl⟩ := List.mem_map.mp hx
    exact ⟨mv_in (G.hm y hy), mv_yes (G.hm y hy)⟩
  have gi : ∀ x ∈ gs.map (glOf ad), GlIn ad x ∧ isGl ad (ss.length : Int) x = true := fun x hx => by
    obtain ⟨y, hy, rfl⟩ := List.mem_map.mp hx
    exact ⟨gl_in (G.hg y hy), gl_yes (G.hg y hy)⟩
  refine ⟨s, mv, g, rfl, side_ok hs (by have := G.s4; have := G.lim; omega) G.hs, row_known hm, fun x hx => (mi x (by rw [rows_eq hm] at hx; exact hx)).1, row_known hg, fun x hx => (gi x (by rw [rows_eq hg] at hx; exact hx)).1, ?_⟩
  unfold bookF bookFs
  rw [faultS_no hs G.s0 G.hs, rows_eq hs, rows_eq hm, rows_eq hg, faultR_no hm fun x hx => (mi x hx).2, faultR_no hg fun x hx => (gi x hx).2]
  exact q
section
variable {P : Program} {w : World} {K : PySem.W.Frag} {TT : List (Addr × Str)} {mg : Str → Option Value} {base : Heap} {ad : Str → Addr}
abbrev s__law_made_book : Stmt := topS 62
theorem sc__law_made_book : FnScope ["_law_pen_here", "_law_book", "_law_moves", "_law_move", "_law_goals", "_law_goal"] ["_law_pen_here", "_law_book"] (defScope s__law_made_book) := ⟨rfl, rfl, rfl, by decide +kernel, rfl, by decide +kernel, by decide +kernel⟩
theorem ok__law_made_book {f : Addr} {fd : FuncData} (F : Fun K "_law_made_book" "_law_made_book" s__law_made_book f fd) (T : TB K mg ad) (f__law_listed : DFn false P w K TT mg base 3 "_law_listed" fwListed) (f__law_made_move : DFn false P w K TT mg base 9 "_law_made_move" (fwMadeM ad)) (f__law_made_goal : DFn false P w K TT mg base 9 "_law_made_goal" (fwMadeG ad)) (mk_Book : MkIX P w K TT mg base 6 "Book" (ad "Book") (fiBook ad)) : FnG false P w K mg base CX0 10 f fd ["_law_pen_here", "_law_book"] (spD K TT (fwMadeB ad)) := by
  refine fn_data (k := 9) F sc__law_made_book (fun ds m Q h => ?_) (fun cdv A outer s H E p cc B hr hgs hcd => (dss_cons (ds_setLcD (i := 2) (own := [("_law_move", 3)]) sc__law_made_book.nd rfl rfl rfl rfl (di_seq (de_sub2 hr (de_var 1) de_str (fun _ _ => rfl))) (blkOk_by (own := [("_law_move", 3)]) (N := ["_law_pen_here", "_law_book", "_law_moves", "_law_move", "_law_goals", "_law_goal"]) (sc := defScope s__law_made_book) (by decide +kernel)) (fun _ _ _ _ _ => (dg_name (i := 3) sc__law_made_book.nd rfl (by first | exact Or.inl rfl | exact Or.inr rfl))) (by decide) (fun _ _ _ _ _ => dts_nil) (fun _ _ _ _ _ => (de_call f__law_made_move hr nog (by decide) (by rfl) (da_cons (de_var 0) (da_cons (de_var 3) da_nil)))))
    (dss_cons (ds_setLcD (i := 4) (own := [("_law_goal", 5)]) sc__law_made_book.nd rfl rfl rfl rfl (di_seq (de_sub2 hr (de_var 1) de_str (fun _ _ => rfl))) (blkOk_by (own := [("_law_goal", 5)]) (N := ["_law_pen_here", "_law_book", "_law_moves", "_law_move", "_law_goals", "_law_goal"]) (sc := defScope s__law_made_book) (by decide +kernel)) (fun _ _ _ _ _ => (dg_name (i := 5) sc__law_made_book.nd rfl (by first | exact Or.inl rfl | exact Or.inr rfl))) (by decide) (fun _ _ _ _ _ => dts_nil) (fun _ _ _ _ _ => (de_call f__law_made_goal hr nog (by decide) (by rfl) (da_cons (de_var 0) (da_cons (de_var 5) da_nil)))))
    (dss_one (ds_ret (de_mkI0 mk_Book hr (by decide) (by rfl) (da_cons (de_call f__law_listed hr nog (by decide) (by rfl) (da_cons (de_var 0) (da_cons (de_sub2 hr (de_var 1) de_str (fun _ _ => rfl)) da_nil))) (da_cons (de_call f__law_listed hr nog (by decide) (by rfl) (da_cons (de_var 0) (da_cons (de_var 2) da_nil))) (da_cons (de_call f__law_listed hr nog (by decide) (by rfl) (da_cons (de_var 0) (da_cons (de_var 4) da_nil))) da_nil))))))))) fun ds m Q h => ?_
  · obtain ⟨ss, ms, gs, rfl, _⟩ := h
    rfl
  · obtain ⟨ss, ms, gs, rfl, G, hm, k⟩ := h
    have g1 := G.ml
    have g2 := G.gl
    refine .inr ⟨_, rfl, szl (by omega), IMk (mvOf ad) ms m 4, ⟨rfl, Nat.le_refl _⟩, fun i x acc m1 hd hI => ?_, fun acc m1 hI => ?_⟩
    · have hi : i < ms.length := (List.getElem?_eq_some_iff.mp hd).1
      have h4 := hI.2
      exact ⟨_, x, rfl, G.hm x (List.mem_of_getElem? hd), by omega, fun m2 h2 => hI.next hd rfl h2⟩
    obtain ⟨rfl, h2⟩ := hI
    rw [List.take_length]
    refine .inr ⟨_, rfl, szl (by omega), IMk (glOf ad) gs m1 4, ⟨rfl, Nat.le_refl _⟩, fun i x acc m2 hd hI => ?_, fun acc m2 hI => ?_⟩
    · have hi : i < gs.length := (List.getElem?_eq_some_iff.mp hd).1
      have h4 := hI.2
      exact ⟨_, x, rfl, G.hg x (List.mem_of_getElem? hd), by omega, fun m2 h2 => hI.next hd rfl h2⟩
    obtain ⟨rfl, h3⟩ := hI
    rw [List.take_length]
    refine .inr ⟨_, rfl, _, ss, rfl, .inl rfl, by omega, ?_, ?_⟩
    all_goals
      refine ⟨_, ms.map (mvOf ad), rfl, .inl rfl, by omega, ?_, ?_⟩
      all_goals
        refine ⟨_, gs.map (glOf ad), rfl, .inl rfl, by omega, ?_, ?_⟩
        all_goals
          refine book_good (ad := ad) (Q := fun fs m2 => Q (.obj (ad "Book") fs) m2) G (by first | exact .inl rfl | exact .inr rfl) (by first | exact .inl rfl | exact .inr rfl) (by first | exact .inl rfl | exact .inr rfl) (k _ (by omega))
end
end DW

namespace DW
open PySem PySem.Spec L2

/-- does the count keep the condition -/
def condH (n : Int) : List D → Bool
  | [.str w, .int k] => if w = "least" then decide (n ≥ k) else if w = "most" then decide (n ≤ k) else if w = "is" then n == k else !(n == k)
  | [.str _, .int k, .int r] => (n - r) % k == 0
  | _ => false
/-- a condition, as a tuple or as a list -/
def CIn (x : D) : Prop := ∃ es, (x = .lst es ∨ x = .tup es) ∧ GoodC (.tup es)
def allH (n : Int) (xs : List D) : Bool := xs.all fun x => condH n (rows x)
def fwCondH : FW := fun ds m Q => ∃ d n, ds = [d, .int n] ∧ CIn d ∧ Q (.bl (condH n (rows d))) m
def fwAllH : FW := fun ds m Q => ∃ d xs n, ds = [d, .int n] ∧ (d = .lst xs ∨ d = .tup xs) ∧ (∀ x ∈ xs, CIn x) ∧ Q (.bl (allH n xs)) m
def fwNeedW (ad : Str → Addr) : FWX := fun ds m Q QX => ∃ w d, ds = [.str w, d] ∧ d.known (csB ad) = true ∧ if d.isWhole = true then Q .non m else QX (ad "BadNumber") [("value", d), ("what", .str w)] m
def fwNeedP (ad : Str → Addr) : FWX := fun ds m Q QX => ∃ (fs : List (Str × D)) (n : Int) (d : D), ds = [.obj (ad "Book") fs, d] ∧ fs.lookup ("places" : Str) = some (.int n) ∧ d.known (csB ad) = true ∧ if d.isIx n = true then Q .non m else QX (ad "BadPlace") [("value", d)] m
def fwNeedSt (ad : Str → Addr) : FWX := fun ds m Q QX => ∃ (fs : List (Str × D)) (n : Int) (d c : D), ds = [.obj (ad "Book") fs, d, c] ∧ fs.lookup ("places" : Str) = some (.int n) ∧ d.known (csB ad) = true ∧ c.known (csB ad) = true ∧
  if d.isIx n = true then (if c.isWhole = true then Q .non m else QX (ad "BadNumber") [("value", c), ("what", .str "count")] m) else QX (ad "BadPlace") [("value", d)] m
def fwHolds (ad : Str → Addr) : FWX := fun ds m Q QX => ∃ d c, ds = [d, c] ∧ c.known (csB ad) = true ∧ (c.isWhole = false → QX (ad "BadNumber") [("value", c), ("what", .str "count")] m) ∧ ∀ n, c = .int n → ∃ xs, (d = .lst xs ∨ d = .tup xs) ∧ (∀ x ∈ xs, CIn x) ∧ Q (.bl (allH n xs)) m
section
variable {P : Program} {w : World} {K : PySem.W.Frag} {TT : List (Addr × Str)} {mg : Str → Option Value} {base : Heap} {ad : Str → Addr}
abbrev s_need_whole : Stmt := topS 14
theorem sc_need_whole : FnScope ["what", "value"] ["what", "value"] (defScope s_need_whole) := ⟨rfl, rfl, rfl, by decide +kernel, rfl, by decide +kernel, by decide +kernel⟩
theorem ok_need_whole {f : Addr} {fd : FuncData} (F : Fun K "need_whole" "need_whole" s_need_whole f fd) (T : TB K mg ad) (f_is_whole : DFn false P w K TT mg base 1 "is_whole" (fwWhole (csB ad))) (mk_BadNumber : MkX P w K mg base "BadNumber" (ad "BadNumber") ["what", "value"]) : FnOk P w K mg base (L2.CX P w) 3 f fd ["what", "value"] (spDX K TT (fwNeedW ad)) := by
  refine fn_dataX (k := 2) F sc_need_whole (fun ds m Q QX h => ?_) (fun cdv A outer s H E p cc B W wx hr tk hW hcd => (dss_one (ds_if (dt_not (dt_val (de_call f_is_whole hr nog (by decide) (by rfl) (da_cons (de_var 1) da_nil))))
    (dss_one (ds_raise mk_BadNumber rfl tk hW hr (by decide) (by rfl) (da_cons (de_var 0) (da_cons (de_var 1) da_nil))))
    dss_nil))) fun ds m Q QX h => ?_
  · obtain ⟨w1, d, rfl, _⟩ := h
    rfl
  · obtain ⟨w1, d, rfl, hk, hQ⟩ := h
    refine ⟨d, rfl, hk, ?_⟩
    refine ite_yn (fun z => ?_) fun z => ?_
    · rw [if_neg (by rw [notT z]; decide)] at hQ
      exact ⟨rfl, hQ⟩
    · rw [if_pos (notF z)] at hQ
      exact hQ
abbrev s_need_place : Stmt := topS 15
theorem sc_need_place : FnScope ["book", "place"] ["book", "place"] (defScope s_need_place) := ⟨rfl, rfl, rfl, by decide +kernel, rfl, by decide +kernel, by decide +kernel⟩
theorem ok_need_place {f : Addr} {fd : FuncData} (F : Fun K "need_place" "need_place" s_need_place f fd) (T : TB K mg ad) (f_is_index : DFn false P w K TT mg base 2 "is_index" (fwIndex (csB ad))) (mk_BadPlace : MkX P w K mg base "BadPlace" (ad "BadPlace") ["value"]) : FnOk P w K mg base (L2.CX P w) 3 f fd ["book", "place"] (spDX K TT (fwNeedP ad)) := by
  refine fn_dataX (k := 2) F sc_need_place (fun ds m Q QX h => ?_) (fun cdv A outer s H E p cc B W wx hr tk hW hcd => (dss_one (ds_if (dt_not (dt_val (de_call f_is_index hr nog (by decide) (by rfl) (da_cons (de_var 1) (da_cons (de_fld (K := K) rfl (de_var 0)) da_nil)))))
    (dss_one (ds_raise mk_BadPlace rfl tk hW hr (by decide) (by rfl) (da_cons (de_var 1) da_nil)))
    dss_nil))) fun ds m Q QX h => ?_
  · obtain ⟨fs, n, d, rfl, _⟩ := h
    rfl
  · obtain ⟨fs, n, d, rfl, hl, hk, hQ⟩ := h
    refine ⟨_, _, _, rfl, T.cl "Book" (by decide), T.na ("Book", "places") (by decide), hl, d, n, rfl, hk, ?_⟩
    refine ite_yn (fun z => ?_) fun z => ?_
    · rw [if_neg (by rw [notT z]; decide)] at hQ
      exact ⟨rfl, hQ⟩
    · rw [if_pos (notF z)] at hQ
      exact hQ
abbrev s_need_state : Stmt := topS 16
theorem sc_need_state : FnScope ["book", "place", "n"] ["book", "place", "n"] (defScope s_need_state) := ⟨rfl, rfl, rfl, by decide +kernel, rfl, by decide +kernel, by decide +kernel⟩
theorem ok_need_state {f : Addr} {fd : FuncData} (F : Fun K "need_state" "need_state" s_need_state f fd) (T : TB K mg ad) (f_need_place : DFnX P w K TT mg base 3 "need_place" (fwNeedP ad)) (f_need_whole : DFnX P w K TT mg base 3 "need_whole" (fwNeedW ad)) : FnOk P w K mg base (L2.CX P w) 4 f fd ["book", "place", "n"] (spDX K TT (fwNeedSt ad)) := by
  refine fn_dataX (k := 3) F sc_need_state (fun ds m Q QX h => ?_) (fun cdv A outer s H E p cc B W wx hr tk hW hcd => (dss_cons (ds_expr (de_callX f_need_place tk hW hr (by decide) (by rfl) (da_cons (de_var 0) (da_cons (de_var 1) da_nil))))
    (dss_one (ds_expr (de_callX f_need_whole tk hW hr (by decide) (by rfl) (da_cons de_str (da_cons (de_var 2) da_nil))))))) fun ds m Q QX h => ?_
  · obtain ⟨fs, n, d, c, rfl, _⟩ := h
    rfl
  · obtain ⟨fs, n, d, c, rfl, hl, hk, hc, hQ⟩ := h
    refine ⟨fs, n, d, rfl, hl, hk, ?_⟩
    refine ite_yn (fun z => ?_) fun z => ?_
    · rw [if_pos z] at hQ
      exact ⟨_, c, rfl, hc, hQ⟩
    · rw [if_neg (by rw [z]; decide)] at hQ
      exact hQ
abbrev s_condition_holds : Stmt := topS 29
theorem sc_condition_holds : FnScope ["condition", "n", "word", "k"] ["condition", "n"] (defScope s_condition_holds) := ⟨rfl, rfl, rfl, by decide +kernel, rfl, by decide +kernel, by decide +kernel⟩
theorem ok_condition_holds {f : Addr} {fd : FuncData} (F : Fun K "condition_holds" "condition_holds" s_condition_holds f fd) {lev : Lev} (T : TB K mg ad) (E0 : EqE P w K TT mg base lev 0) (N0 : NeE K lev) : FnG false P w K mg base CX0 2 f fd ["condition", "n"] (spD K TT fwCondH) := by
  refine fn_data (k := 1) F sc_condition_holds (fun ds m Q h => ?_) (fun cdv A outer s H E p cc B hr hgs hcd => (dss_cons (ds_set (i := 2) sc_condition_holds.nd rfl (by first | exact Or.inl rfl | exact Or.inr rfl) (de_sub2 hr (de_var 0) de_int (fun _ _ => rfl)))
    (dss_cons (ds_set (i := 3) sc_condition_holds.nd rfl (by first | exact Or.inl rfl | exact Or.inr rfl) (de_sub2 hr (de_var 0) de_int (fun _ _ => rfl)))
    (dss_cons (ds_if (dt_eqX (n := 0) E0 hr (by decide) (de_var 2) de_str)
    (dss_one (ds_ret (de_ge (de_var 1) (de_var 3))))
    dss_nil)
    (dss_cons (ds_if (dt_eqX (n := 0) E0 hr (by decide) (de_var 2) de_str)
    (dss_one (ds_ret (de_le (de_var 1) (de_var 3))))
    dss_nil)
    (dss_cons (ds_if (dt_eqX (n := 0) E0 hr (by decide) (de_var 2) de_str)
    (dss_one (ds_ret (de_eqX (n := 0) E0 hr (by decide) (de_var 1) (de_var 3))))
    dss_nil)
    (dss_cons (ds_if (dt_eqX (n := 0) E0 hr (by decide) (de_var 2) de_str)
    (dss_one (ds_ret (de_neX (n := 0) E0 N0 hr (by decide) (de_var 1) (de_var 3))))
    dss_nil)
    (dss_one (ds_ret (de_eqX (n := 0) E0 hr (by decide) (de_mod (de_sub (de_var 1) (de_sub2 hr (de_var 0) de_int (fun _ _ => rfl))) (de_var 3)) de_int)))))))))) fun ds m Q h => ?_
  · obtain ⟨d, n, rfl, _⟩ := h
    rfl
  · obtain ⟨d, n, rfl, ⟨es, hd, hg⟩, hQ⟩ := h
    rw [rows_eq hd] at hQ
    rcases hg with ⟨w1, hw, a, e⟩ | ⟨a, b, b0, b1, e⟩
    · injection e with e
      subst e
      simp only [wordsL, List.mem_cons, List.not_mem_nil, or_false] at hw
      rcases hd with rfl | rfl
      all_goals
        refine .inl ⟨_, atI_pos (by decide) rfl, .inl ⟨_, atI_pos (by decide) rfl, ?_⟩⟩
        rcases hw with rfl | rfl | rfl | rfl
        · exact ⟨pl_cmp (by decide +kernel) (by decide +kernel), Nat.zero_le _, ite_y (by decide +kernel) hQ⟩
        · exact ⟨pl_cmp (by decide +kernel) (by decide +kernel), Nat.zero_le _, ite_n (by decide +kernel) ⟨pl_cmp (by decide +kernel) (by decide +kernel), Nat.zero_le _, ite_y (by decide +kernel) hQ⟩⟩
        · exact ⟨pl_cmp (by decide +kernel) (by decide +kernel), Nat.zero_le _, ite_n (by decide +kernel) ⟨pl_cmp (by decide +kernel) (by decide +kernel), Nat.zero_le _, ite_n (by decide +kernel) ⟨pl_cmp (by decide +kernel) (by decide +kernel), Nat.zero_le _, ite_y (by decide +kernel) ⟨rfl, Nat.zero_le _, hQ⟩⟩⟩⟩
        · exact ⟨pl_cmp (by decide +kernel) (by decide +kernel), Nat.zero_le _, ite_n (by decide +kernel) ⟨pl_cmp (by decide +kernel) (by decide +kernel), Nat.zero_le _, ite_n (by decide +kernel) ⟨pl_cmp (by decide +kernel) (by decide +kernel), Nat.zero_le _, ite_n (by decide +kernel) ⟨pl_cmp (by decide +kernel) (by decide +kernel), Nat.zero_le _, ite_y (by decide +kernel) ⟨rfl, Nat.zero_le _, hQ⟩⟩⟩⟩⟩
    · injection e with e
      subst e
      rcases hd with rfl | rfl
      all_goals
        refine .inl ⟨_, atI_pos (by decide) rfl, .inl ⟨_, atI_pos (by decide) rfl, ?_⟩⟩
        refine ⟨pl_cmp (by decide +kernel) (by decide +kernel), Nat.zero_le _, ite_n (by decide +kernel) ⟨pl_cmp (by decide +kernel) (by decide +kernel), Nat.zero_le _, ite_n (by decide +kernel) ⟨pl_cmp (by decide +kernel) (by decide +kernel), Nat.zero_le _, ite_n (by decide +kernel) ⟨pl_cmp (by decide +kernel) (by decide +kernel), Nat.zero_le _, ite_n (by decide +kernel) ?_⟩⟩⟩⟩
        refine .inl ⟨_, atI_pos (by decide) rfl, ?_⟩
        exact ⟨by omega, rfl, Nat.zero_le _, hQ⟩
abbrev s_all_hold : Stmt := topS 30
theorem sc_all_hold : FnScope ["conditions", "n", "condition"] ["conditions", "n"] (defScope s_all_hold) := ⟨rfl, rfl, rfl, by decide +kernel, rfl, by decide +kernel, by decide +kernel⟩
theorem ok_all_hold {f : Addr} {fd : FuncData} (F : Fun K "all_hold" "all_hold" s_all_hold f fd) (T : TB K mg ad) (f_condition_holds : DFn false P w K TT mg base 2 "condition_holds" fwCondH) : FnG false P w K mg base CX0 3 f fd ["conditions", "n"] (spD K TT fwAllH) := by
  refine fn_data (k := 2) F sc_all_hold (fun ds m Q h => ?_) (fun cdv A outer s H E p cc B hr hgs hcd => (dss_cons (ds_for PassesOwn.never rfl (di_seq (de_var 0)) (dg_name (i := 2) sc_all_hold.nd rfl (by first | exact Or.inl rfl | exact Or.inr rfl))
    (dss_one (ds_if (dt_not (dt_val (de_call f_condition_holds hr nog (by decide) (by rfl) (da_cons (de_var 2) (da_cons (de_var 1) da_nil)))))
    (dss_one (ds_ret de_bl))
    dss_nil)))
    (dss_one (ds_ret de_bl)))) fun ds m Q h => ?_
  · obtain ⟨d, xs, n, rfl, _⟩ := h
    rfl
  · obtain ⟨d, xs, n, rfl, hd, hx, hQ⟩ := h
    rcases hd with rfl | rfl
    all_goals
      refine ⟨fun i ρ m' => (∃ d0 c1, ρ = [d0, .dat (.int n), c1]) ∧ m' = m ∧ allH n (xs.take i) = true, ⟨⟨_, _, rfl⟩, rfl, rfl⟩, ?_, ?_⟩
      · rintro i x ρ m' hi ⟨⟨d0, c1, rfl⟩, rfl, hall⟩
        refine ⟨x, n, rfl, hx x (List.mem_of_getElem? hi), ?_⟩
        refine ite_yn (fun z => ?_) fun z => ?_
        · have : allH n xs = false := by
            rw [← Bool.not_eq_true, allH, List.all_eq_true]
            intro q
            have := q x (List.mem_of_getElem? hi)
            rw [notT z] at this
            cases this
          rw [this] at hQ
          exact hQ
        · exact ⟨⟨_, _, rfl⟩, rfl, take_all hi hall (notF z)⟩
      · rintro ρ m' ⟨⟨d0, c1, rfl⟩, rfl, hall⟩
        rw [List.take_length] at hall
        rw [hall] at hQ
        exact hQ
end
end DW

namespace DW
open PySem PySem.Spec L2

/-- a row's move is open at this place and count -/
def mvHit (p k : Int) : D → Bool
  | .tup [.int q, .tup cs, _, _] => q == p && allH k cs
  | _ => false
def glHit (p k : Int) : D → Bool
  | .tup [.int q, .tup cs] => q == p && allH k cs
  | _ => false
def openF (p k : Int) : Nat → List D → List D
  | _, [] => []
  | i, x :: xs => if mvHit p k x = true then .int (i : Int) :: openF p k (i + 1) xs else openF p k (i + 1) xs
theorem openF_drop {p k : Int} {ms : List D} {i : Nat} {x : D} (h : ms[i]? = some x) : openF p k i (ms.drop i) = if mvHit p k x = true then .int (i : Int) :: openF p k (i + 1) (ms.drop (i + 1)) else openF p k (i + 1) (ms.drop (i + 1)) := by
  obtain ⟨hi, rfl⟩ := List.getElem?_eq_some_iff.mp h
  rw [List.drop_eq_getElem_cons hi, openF]
theorem cin_of {cs : List D} (h : ∀ c ∈ cs, GoodC c) : ∀ x ∈ cs, CIn x := fun x hx => by
  obtain ⟨es, rfl, _⟩ := goodC_es (cs := []) (h x hx)
  exact ⟨es, .inr rfl, h _ hx⟩
/-- what is asked of place and count first -/
def askF (ad : Str → Addr) (n : Int) (d c : D) (QX : Addr → List (Str × D) → Nat → Prop) (m : Nat) (ok : Int → Int → Prop) : Prop :=
  (d.isIx n = false → QX (ad "BadPlace") [("value", d)] m) ∧ (d.isIx n = true → c.isWhole = false → QX (ad "BadNumber") [("value", c), ("what", .str "count")] m) ∧ ∀ p k, d = .int p → c = .int k → d.isIx n = true → ok p k
def fwOpen (ad : Str → Addr) : FWX := fun ds m Q QX => ∃ ss ms gs d c, ds = [bookO ad ss ms gs, d, c] ∧ GoodB 60 ss ms gs ∧ d.known (csB ad) = true ∧ c.known (csB ad) = true ∧ askF ad ss.length d c QX m fun p k => Q (.tup (openF p k 0 ms)) m
def fwIsGoal (ad : Str → Addr) : FWX := fun ds m Q QX => ∃ ss ms gs d c, ds = [bookO ad ss ms gs, d, c] ∧ GoodB 60 ss ms gs ∧ d.known (csB ad) = true ∧ c.known (csB ad) = true ∧ askF ad ss.length d c QX m fun p k => Q (.bl (gs.any (glHit p k))) m
section
variable {P : Program} {w : World} {K : PySem.W.Frag} {TT : List (Addr × Str)} {mg : Str → Option Value} {base : Heap} {ad : Str → Addr}
abbrev s_open_moves : Stmt := topS 31
theorem sc_open_moves : FnScope ["book", "place", "n", "index", "move"] ["book", "place", "n"] (defScope s_open_moves) := ⟨rfl, rfl, rfl, by decide +kernel, rfl, by decide +kernel, by decide +kernel⟩
theorem ok_open_moves {f : Addr} {fd : FuncData} (F : Fun K "open_moves" "open_moves" s_open_moves f fd) {lev : Lev} (T : TB K mg ad) (f_need_state : DFnX P w K TT mg base 4 "need_state" (fwNeedSt ad)) (f_all_hold : DFn false P w K TT mg base 3 "all_hold" fwAllH) (E0 : EqE P w K TT mg base lev 0) (N0 : NeE K lev) : FnOk P w K mg base (L2.CX P w) 5 f fd ["book", "place", "n"] (spDX K TT (fwOpen ad)) := by
  refine fn_dataX (k := 4) F sc_open_moves (fun ds m Q QX h => ?_) (fun cdv A outer s H E p cc B W wx hr tk hW hcd => (dss_cons (ds_expr (de_callX f_need_state tk hW hr (by decide) (by rfl) (da_cons (de_var 0) (da_cons (de_var 1) (da_cons (de_var 2) da_nil)))))
    (dss_one (ds_ret (de_callTy call_tuple_of rd_tuple (by rfl) T.b_tuple (by decide +kernel) (da_cons (DL.de (dl_lc (own := [("index", 3), ("move", 4)]) rfl sc_open_moves.nd (di_enu (by rfl) T.b_enumerate (da_cons (de_fld (K := K) rfl (de_var 0)) da_nil)) (blkOk_by (own := [("index", 3), ("move", 4)]) (N := ["book", "place", "n", "index", "move"]) (sc := defScope s_open_moves) (by decide +kernel)) (fun _ _ _ _ _ => (dg_tup (n := 2) rfl (dgs_cons (dg_name (i := 3) sc_open_moves.nd rfl (by first | exact Or.inl rfl | exact Or.inr rfl)) (dgs_cons (dg_name (i := 4) sc_open_moves.nd rfl (by first | exact Or.inl rfl | exact Or.inr rfl)) dgs_nil)))) (by decide) (fun _ _ _ _ _ => (dts_one (DTw.dt (dtw_and (dt_eqX (n := 0) E0 hr (by decide) (de_fld (K := K) rfl (de_var 4)) (de_var 1)) (dtw_and1 (dt_val (de_call f_all_hold hr nog (by decide) (by rfl) (da_cons (de_fld (K := K) rfl (de_var 4)) (da_cons (de_var 2) da_nil))))))))) (fun _ _ _ _ _ => (de_var 3)))) da_nil)))))) fun ds m Q QX h => ?_
  · obtain ⟨ss, ms, gs, d, c, rfl, _⟩ := h
    rfl
  · obtain ⟨ss, ms, gs, d, c, rfl, G, hd, hc, f1, f2, f3⟩ := h
    have cb := T.cl "Book" (by decide)
    have ml := G.ml
    have gl := G.gl
    refine ⟨_, _, d, c, rfl, rfl, hd, hc, ite_yn (fun z => ite_yn (fun y => ?_) fun y => f2 z y) fun z => f1 z⟩
    obtain ⟨p, rfl⟩ : ∃ p, d = .int p := by cases d <;> first | exact ⟨_, rfl⟩ | cases z
    obtain ⟨k, rfl⟩ : ∃ k, c = .int k := by cases c <;> first | exact ⟨_, rfl⟩ | cases y
    have hQ := f3 p k rfl rfl z
    refine ⟨_, _, _, rfl, cb, T.na ("Book", "moves") (by decide), rfl, szl (by rw [enumD_len, List.length_map]; omega), fun i acc m' => acc ++ openF p k i (ms.drop i) = openF p k 0 ms ∧ m' = m, ⟨rfl, rfl⟩, fun i x acc m' hx hI => ?_, fun acc m' hI => ?_⟩
    · obtain ⟨y, hy, rfl⟩ := enumD_at hx
      rw [List.getElem?_map] at hy
      obtain ⟨r, hr, rfl⟩ := Option.map_eq_some_iff.mp hy
      obtain ⟨h1, rfl⟩ := hI
      rw [openF_drop hr] at h1
      obtain ⟨q, cs, s, t, rfl, _, _, _, _, hcs, _⟩ := G.hm r (List.mem_of_getElem? hr)
      have cm := T.cl "Move" (by decide)
      refine ⟨rfl, rfl, _, _, _, rfl, cm, T.na ("Move", "place") (by decide), rfl, rfl, Nat.zero_le _, ite_yn (fun u => ?_) fun u => ?_⟩
      · refine ⟨_, _, _, rfl, cm, T.na ("Move", "conditions") (by decide), rfl, _, cs, k, rfl, .inr rfl, cin_of hcs, ite_yn (fun v => ?_) fun v => ?_⟩
        · rw [if_pos (show mvHit p k _ = true by rw [mvHit, v, Bool.and_true]; exact u)] at h1
          exact ⟨by rw [List.append_assoc]; exact h1, rfl⟩
        · rw [if_neg (by rw [mvHit, v, Bool.and_false]; decide)] at h1
          exact ⟨h1, rfl⟩
      · rw [if_neg (by rw [mvHit, show (q == p) = false from u, Bool.false_and]; decide)] at h1
        exact ⟨h1, rfl⟩
    · obtain ⟨h1, rfl⟩ := hI
      rw [enumD_len, List.length_map, List.drop_length, openF, List.append_nil] at h1
      rw [h1]
      exact hQ
end
end DW

namespace DW
open PySem PySem.Spec L2

def fwStuck (ad : Str → Addr) : FWX := fun ds m Q QX => ∃ ss ms gs d c, ds = [bookO ad ss ms gs, d, c] ∧ GoodB 60 ss ms gs ∧ d.known (csB ad) = true ∧ c.known (csB ad) = true ∧ askF ad ss.length d c QX m fun p k => Q (.bl (!gs.any (glHit p k) && (openF p k 0 ms).isEmpty)) m
/-- what a move leads to -/
def mvTo (k : Int) : D → D
  | .tup [_, _, .int s, .int t] => .tup [.int t, .int (k + s)]
  | _ => .non
def mvHolds (k : Int) : D → Bool
  | .tup [_, .tup cs, _, _] => allH k cs
  | _ => false
def fwAfter (ad : Str → Addr) : FWX := fun ds m Q QX => ∃ ss ms gs d c, ds = [bookO ad ss ms gs, d, c] ∧ GoodB 60 ss ms gs ∧ d.known (csB ad) = true ∧ c.known (csB ad) = true ∧
  (c.isWhole = false → QX (ad "BadNumber") [("value", c), ("what", .str "count")] m) ∧ ∀ k, c = .int k → (d.isIx ms.length = false → QX (ad "NoMove") [("value", d)] m) ∧ ∀ i r, d = .int i → 0 ≤ i → ms[i.toNat]? = some r → if mvHolds k r = true then Q (mvTo k r) m else QX (ad "NoMove") [("value", d)] m
section
variable {P : Program} {w : World} {K : PySem.W.Frag} {TT : List (Addr × Str)} {mg : Str → Option Value} {base : Heap} {ad : Str → Addr}
end
end DW

namespace DW
open PySem PySem.Spec L2

def fwLH : FW := fwAllH
def fwLOpen : FW := fun ds m Q => ∃ ss ms gs p k, ds = [bookT ss ms gs, .int p, .int k] ∧ GoodB 60 ss ms gs ∧ Q (.lst (openF p k 0 ms)) m
section
variable {P : Program} {w : World} {K : PySem.W.Frag} {TT : List (Addr × Str)} {mg : Str → Option Value} {base : Heap} {ad : Str → Addr}
abbrev s__law_open : Stmt := topS 52
theorem sc__law_open : FnScope ["_law_book", "_law_place", "_law_n", "_law_found", "_law_index", "_law_move"] ["_law_book", "_law_place", "_law_n"] (defScope s__law_open) := ⟨rfl, rfl, rfl, by decide +kernel, rfl, by decide +kernel, by decide +kernel⟩
theorem ok__law_open {f : Addr} {fd : FuncData} (F : Fun K "_law_open" "_law_open" s__law_open f fd) {lev : Lev} (T : TB K mg ad) (f__law_holds : DFn false P w K TT mg base 3 "_law_holds" fwAllH) (E0 : EqE P w K TT mg base lev 0) (N0 : NeE K lev) : FnG false P w K mg base CX0 4 f fd ["_law_book", "_law_place", "_law_n"] (spD K TT fwLOpen) := by
  refine fn_data (k := 3) F sc__law_open (fun ds m Q h => ?_) (fun cdv A outer s H E p cc B hr hgs hcd => (dss_cons (ds_setO (i := 3) sc__law_open.nd rfl (by first | exact Or.inl rfl | exact Or.inr rfl) (dl_lst da_nil))
    (dss_cons (ds_for PassesOwn.never rfl (di_enu (by rfl) T.b_enumerate (da_cons (de_sub2 hr (de_var 0) de_str (fun _ _ => rfl)) da_nil)) (dg_tup (n := 2) rfl (dgs_cons (dg_name (i := 4) sc__law_open.nd rfl (by first | exact Or.inl rfl | exact Or.inr rfl)) (dgs_cons (dg_name (i := 5) sc__law_open.nd rfl (by first | exact Or.inl rfl | exact Or.inr rfl)) dgs_nil)))
    (dss_one (ds_if (DTw.dt (dtw_and (dt_eqX (n := 0) E0 hr (by decide) (de_sub2 hr (de_var 5) de_int (fun _ _ => rfl)) (de_var 1)) (dtw_and1 (dt_val (de_call f__law_holds hr nog (by decide) (by rfl) (da_cons (de_sub2 hr (de_var 5) de_int (fun _ _ => rfl)) (da_cons (de_var 2) da_nil)))))))
    (dss_one (ds_append (i := 3) (fun _ h => pe_bm PySem.F.plainAttrs_list PySem.F.slot_list_append PySem.F.type_list_append mt_append (pv 3) (pa_cons h pa_nil)) (de_var 4)))
    dss_nil)))
    (dss_one (ds_frz 3 (ds_ret (de_var 3))))))) fun ds m Q h => ?_
  · obtain ⟨ss, ms, gs, p, k, rfl, _⟩ := h
    rfl
  · obtain ⟨ss, ms, gs, p, k, rfl, G, hQ⟩ := h
    have ml := G.ml
    refine ⟨Nat.zero_le _, .inr ⟨_, rfl, fun i ρ m' => (∃ acc c1 c2, ρ = [.dat (bookT ss ms gs), .dat (.int p), .dat (.int k), .own (.lst acc), c1, c2] ∧ acc ++ openF p k i (ms.drop i) = openF p k 0 ms ∧ acc.length ≤ i) ∧ m' = m, ⟨⟨[], _, _, rfl, rfl, Nat.le_refl _⟩, rfl⟩, ?_, ?_⟩⟩
    · rintro i x ρ m' hx ⟨⟨acc, c1, c2, rfl, h1, hl⟩, rfl⟩
      obtain ⟨y, hy, rfl⟩ := enumD_at hx
      have hi : i < ms.length := (List.getElem?_eq_some_iff.mp hy).1
      rw [openF_drop hy] at h1
      obtain ⟨q, cs, s, t, rfl, _, _, _, _, hcs, _⟩ := G.hm y (List.mem_of_getElem? hy)
      refine ⟨rfl, rfl, .inl ⟨_, atI_pos (by decide) rfl, rfl, Nat.zero_le _, ite_yn (fun u => ?_) fun u => ?_⟩⟩
      · refine .inl ⟨_, atI_pos (by decide) rfl, _, cs, k, rfl, .inr rfl, cin_of hcs, ite_yn (fun v => ?_) fun v => ?_⟩
        · rw [if_pos (show mvHit p k (.tup [.int q, .tup cs, .int s, .int t]) = true by rw [mvHit, v, Bool.and_true]; exact u)] at h1
          exact ⟨by omega, ⟨acc ++ [.int i], _, _, rfl, by rw [List.append_assoc]; exact h1, by rw [List.length_append]; simp; omega⟩, rfl⟩
        · rw [if_neg (by rw [mvHit, v, Bool.and_false]; decide)] at h1
          exact ⟨⟨acc, _, _, rfl, h1, by omega⟩, rfl⟩
      · rw [if_neg (by rw [mvHit, show (q == p) = false from u, Bool.false_and]; decide)] at h1
        exact ⟨⟨acc, _, _, rfl, h1, by omega⟩, rfl⟩
    · rintro ρ m' ⟨⟨acc, c1, c2, rfl, h1, hl⟩, rfl⟩
      rw [enumD_len, List.drop_length, openF, List.append_nil] at h1
      rw [h1]
      exact hQ
end
end DW

namespace DW
open PySem PySem.Spec L2

section
theorem pl_pair' {w : Str} {i : D} (hw : PyData.strOk w = true) (hi : i.pl = true) : (D.tup [.str w, i]).pl = true := by
  rw [D.pl, plA, plA, plA, hi, D.pl, hw]
  rfl
theorem plA_mk : ∀ {ds : List D}, (∀ x ∈ ds, x.pl = true) → plA ds = true
  | [], _ => rfl
  | d :: ds, h => by
    rw [plA, h d (List.mem_cons_self ..), plA_mk fun x hx => h x (List.mem_cons_of_mem _ hx)]
    rfl
theorem depA_le {n : Nat} : ∀ {ds : List D}, (∀ x ∈ ds, x.dep ≤ n) → depA ds ≤ n
  | [], _ => Nat.zero_le _
  | d :: ds, h => by
    rw [depA]
    exact Nat.max_le.mpr ⟨h d (List.mem_cons_self ..), depA_le fun x hx => h x (List.mem_cons_of_mem _ hx)⟩
theorem eqbA_refl : ∀ {ds : List D}, (∀ x ∈ ds, x.eqb x = true) → eqbA ds ds = true
  | [], _ => by rw [eqbA]
  | d :: ds, h => by
    rw [eqbA, h d (List.mem_cons_self ..), eqbA_refl fun x hx => h x (List.mem_cons_of_mem _ hx)]
    rfl
theorem plA_mem {x : D} : ∀ {ds : List D}, plA ds = true → x ∈ ds → x.pl = true
  | d :: ds, g, h => by
    rw [plA, Bool.and_eq_true] at g
    rcases List.mem_cons.mp h with rfl | h
    · exact g.1
    · exact plA_mem g.2 h
mutual
theorem eqb_refl : ∀ {d : D}, d.pl = true → d.eqb d = true
  | .non, _ => by rw [D.eqb]
  | .bl _, _ => by rw [D.eqb]; simp
  | .int _, _ => by rw [D.eqb]; simp
  | .str _, _ => by rw [D.eqb]; simp
  | .lst ds, h => by
    rw [D.pl] at h
    rw [D.eqb]
    exact eqb_reflA h
  | .tup ds, h => by
    rw [D.pl] at h
    rw [D.eqb]
    exact eqb_reflA h
  | .obj _ _, h => by simp [D.pl] at h
  | .exc _ _, h => by simp [D.pl] at h
  | .dct _, h => by simp [D.pl] at h
  | .pen, h => by simp [D.pl] at h
  | .opq, h => by simp [D.pl] at h
  | .gf _, h => by simp [D.pl] at h
theorem eqb_reflA : ∀ {ds : List D}, plA ds = true → eqbA ds ds = true
  | [], _ => by rw [eqbA]
  | d :: ds, h => by
    rw [plA, Bool.and_eq_true] at h
    rw [eqbA, eqb_refl h.1, eqb_reflA h.2]
    rfl
end
variable {lev : Lev}
theorem cmpA_app : ∀ {ds es : List D}, (∀ x ∈ ds, cmpOk lev x x = true) → cmpA lev ds (ds ++ es) = true
  | [], _, _ => by simp [cmpA]
  | d :: ds, es, h => by
    rw [List.cons_append, cmpA, h d (List.mem_cons_self ..), cmpA_app fun x hx => h x (List.mem_cons_of_mem _ hx)]
    rfl
theorem cmpA_refl {ds : List D} (h : ∀ x ∈ ds, cmpOk lev x x = true) : cmpA lev ds ds = true := by
  have := cmpA_app (es := []) h
  rwa [List.append_nil] at this
theorem needA_le {n : Nat} : ∀ {ds : List D}, (∀ x ∈ ds, x.need lev ≤ n) → needA lev ds ≤ n
  | [], _ => Nat.zero_le _
  | d :: ds, h => by
    rw [needA]
    exact Nat.max_le.mpr ⟨h d (List.mem_cons_self ..), needA_le fun x hx => h x (List.mem_cons_of_mem _ hx)⟩
theorem goodC_pl {c : D} (h : GoodC c) : c.pl = true ∧ c.dep ≤ 1 := by
  rcases h with ⟨w, hw, a, rfl⟩ | ⟨a, b, b0, b1, rfl⟩
  · exact ⟨pl_pair' (words_ok w hw).1 rfl, Nat.le_refl _⟩
  · refine ⟨?_, Nat.le_refl _⟩
    show (PyData.strOk "rest" && true) = true
    decide +kernel
theorem conds_pl {cs : List D} (h : ∀ c ∈ cs, GoodC c) : (D.tup cs).pl = true ∧ (D.tup cs).dep ≤ 2 := by
  refine ⟨by rw [D.pl]; exact plA_mk fun c hc => (goodC_pl (h c hc)).1, ?_⟩
  show depA cs + 1 ≤ 2
  have := depA_le (n := 1) fun c hc => (goodC_pl (h c hc)).2
  omega
theorem goodM_pl {n : Nat} {x : D} (h : goodM n x) : x.pl = true ∧ x.dep ≤ 3 := by
  obtain ⟨p, cs, s, t, rfl, _, _, _, _, hc, _⟩ := h
  obtain ⟨h1, h2⟩ := conds_pl hc
  refine ⟨?_, ?_⟩
  · show (true && ((D.tup cs).pl && true)) = true
    rw [h1]
    rfl
  · show max 0 (max (D.tup cs).dep (max 0 (max 0 0))) + 1 ≤ 3
    omega
theorem goodG_pl {n : Nat} {x : D} (h : goodG n x) : x.pl = true ∧ x.dep ≤ 3 := by
  obtain ⟨p, cs, rfl, _, _, hc, _⟩ := h
  obtain ⟨h1, h2⟩ := conds_pl hc
  refine ⟨?_, ?_⟩
  · show (true && ((D.tup cs).pl && true)) = true
    rw [h1]
    rfl
  · show max 0 (max (D.tup cs).dep 0) + 1 ≤ 3
    omega
theorem GoodB.mono {L L' : Nat} {ss ms gs : List D} (G : GoodB L ss ms gs) (h : L ≤ L') (h2 : L' ≤ 100 := by decide) : GoodB L' ss ms gs := ⟨G.s0, Nat.le_trans G.s4 h, G.hs, Nat.le_trans G.ml h, G.hm, Nat.le_trans G.gl h, h2, G.hg⟩
theorem side_pl {s : D} (h : isSide s) : s.pl = true ∧ s.dep ≤ 0 := by rcases h with rfl | rfl <;> exact ⟨rfl, Nat.le_refl _⟩
theorem bookT_same {L : Nat} {ss ms gs : List D} (G : GoodB L ss ms gs) {f : Bool → Bool} {Q : D → Prop} (q : Q (.bl (f true))) : eqXD f lev 8 (bookT ss ms gs) (bookT ss ms gs) Q := by
  have p1 : (D.lst ss).pl = true := by rw [D.pl]; exact plA_mk fun x hx => (side_pl (G.hs x hx)).1
  have p2 : (D.lst ms).pl = true := by rw [D.pl]; exact plA_mk fun x hx => (goodM_pl (G.hm x hx)).1
  have p3 : (D.lst gs).pl = true := by rw [D.pl]; exact plA_mk fun x hx => (goodG_pl (G.hg x hx)).1
  have d1 : depA ss ≤ 0 := depA_le fun x hx => (side_pl (G.hs x hx)).2
  have d2 : depA ms ≤ 3 := depA_le fun x hx => (goodM_pl (G.hm x hx)).2
  have d3 : depA gs ≤ 3 := depA_le fun x hx => (goodG_pl (G.hg x hx)).2
  refine ⟨?_, Nat.zero_le _, ?_⟩
  · rw [cmpOk, plF, plF, plF, plF, p1, p2, p3]
    have q1 : (D.lst ss).dep ≤ 60 := by show depA ss + 1 ≤ 60; omega
    have q2 : (D.lst ms).dep ≤ 60 := by show depA ms + 1 ≤ 60; omega
    have q3 : (D.lst gs).dep ≤ 60 := by show depA gs + 1 ≤ 60; omega
    have e1 : ([("sides", D.lst ss), ("moves", D.lst ms), ("goals", D.lst gs)] : List (Str × D)).all (fun f => decide (f.2.dep ≤ 60)) = true := by
      show (decide ((D.lst ss).dep ≤ 60) && (decide ((D.lst ms).dep ≤ 60) && (decide ((D.lst gs).dep ≤ 60) && true))) = true
      rw [decide_eq_true q1, decide_eq_true q2, decide_eq_true q3]
      rfl
    have e2 : decide ((([("sides", D.lst ss), ("moves", D.lst ms), ("goals", D.lst gs)] : List (Str × D)).map (·.1)).Nodup) = true := by
      show decide ((["sides", "moves", "goals"] : List Str).Nodup) = true
      decide +kernel
    rw [e1, e2]
    simp only [Bool.and_true, Bool.true_and, decide_true]
  · have : (bookT ss ms gs).eqb (bookT ss ms gs) = true := by
      rw [D.eqb, eqbF_cons, eqbF_cons, eqbF_cons, eqb_refl p1, eqb_refl p2, eqb_refl p3, eqbF]
      rfl
    rw [this]
    exact q
end
end DW

namespace DW
open PySem PySem.Spec L2

def fwLGoal : FW := fun ds m Q => ∃ ss ms gs p k, ds = [bookT ss ms gs, .int p, .int k] ∧ GoodB 60 ss ms gs ∧ Q (.bl (gs.any (glHit p k))) m
section
variable {P : Program} {w : World} {K : PySem.W.Frag} {TT : List (Addr × Str)} {mg : Str → Option Value} {base : Heap} {ad : Str → Addr}
abbrev s__law_is_goal : Stmt := topS 53
theorem sc__law_is_goal : FnScope ["_law_book", "_law_place", "_law_n", "_law_goal"] ["_law_book", "_law_place", "_law_n"] (defScope s__law_is_goal) := ⟨rfl, rfl, rfl, by decide +kernel, rfl, by decide +kernel, by decide +kernel⟩
theorem ok__law_is_goal {f : Addr} {fd : FuncData} (F : Fun K "_law_is_goal" "_law_is_goal" s__law_is_goal f fd) {lev : Lev} (T : TB K mg ad) (f__law_holds : DFn false P w K TT mg base 3 "_law_holds" fwAllH) (E5 : EqE P w K TT mg base lev 5) (N0 : NeE K lev) : FnG false P w K mg base CX0 7 f fd ["_law_book", "_law_place", "_law_n"] (spD K TT fwLGoal) := by
  refine fn_data (k := 6) F sc__law_is_goal (fun ds m Q h => ?_) (fun cdv A outer s H E p cc B hr hgs hcd => (dss_one (ds_ret (de_neX (n := 5) E5 N0 hr (by decide) (DL.de (dl_lc (own := [("_law_goal", 3)]) rfl sc__law_is_goal.nd (di_seq (de_sub2 hr (de_var 0) de_str (fun _ _ => rfl))) (blkOk_by (own := [("_law_goal", 3)]) (N := ["_law_book", "_law_place", "_law_n", "_law_goal"]) (sc := defScope s__law_is_goal) (by decide +kernel)) (fun _ _ _ _ _ => (dg_name (i := 3) sc__law_is_goal.nd rfl (by first | exact Or.inl rfl | exact Or.inr rfl))) (by decide) (fun _ _ _ _ _ => (dts_one (DTw.dt (dtw_and (dt_eqX (n := 5) E5 hr (by decide) (de_sub2 hr (de_var 3) de_int (fun _ _ => rfl)) (de_var 1)) (dtw_and1 (dt_val (de_call f__law_holds hr nog (by decide) (by rfl) (da_cons (de_sub2 hr (de_var 3) de_int (fun _ _ => rfl)) (da_cons (de_var 2) da_nil))))))))) (fun _ _ _ _ _ => (de_var 3)))) (de_lst da_nil))))) fun ds m Q h => ?_
  · obtain ⟨ss, ms, gs, p, k, rfl, _⟩ := h
    rfl
  · obtain ⟨ss, ms, gs, p, k, rfl, G, hQ⟩ := h
    have gl := G.gl
    refine .inr ⟨_, rfl, szl (by omega), fun i acc m' => (∀ x ∈ acc, x ∈ gs) ∧ acc.isEmpty = !(gs.take i).any (glHit p k) ∧ m' = m, ⟨fun x hx => (by cases hx), rfl, rfl⟩, fun i x acc m' hx hI => ?_, fun acc m' hI => ?_⟩
    · obtain ⟨h1, h2, rfl⟩ := hI
      have hm := List.mem_of_getElem? hx
      have nx : ∀ b, glHit p k x = b → (gs.take (i + 1)).any (glHit p k) = ((gs.take i).any (glHit p k) || b) := fun b hb => by
        rw [List.take_add_one, hx, List.any_append, ← hb]
        simp
      obtain ⟨q, cs, rfl, _, _, hcs, _⟩ := G.hg x hm
      have no : glHit p k (.tup [.int q, .tup cs]) = false → acc.isEmpty = !(gs.take (i + 1)).any (glHit p k) := fun z => by rw [nx _ z, Bool.or_false]; exact h2
      refine .inl ⟨_, atI_pos (by decide) rfl, rfl, Nat.zero_le _, ite_yn (fun u => ?_) fun u => ?_⟩
      · refine .inl ⟨_, atI_pos (by decide) rfl, _, cs, k, rfl, .inr rfl, cin_of hcs, ite_yn (fun v => ?_) fun v => ?_⟩
        · refine ⟨fun y hy => ?_, ?_, rfl⟩
          · rcases mem_snoc hy with z | rfl
            · exact h1 y z
            · exact hm
          · rw [nx true (by rw [glHit, v, Bool.and_true]; exact u), Bool.or_true]
            cases acc <;> rfl
        · exact ⟨h1, no (by rw [glHit, v, Bool.and_false]), rfl⟩
      · exact ⟨h1, no (by rw [glHit, show (q == p) = false from u, Bool.false_and]), rfl⟩
    · obtain ⟨h1, h2, rfl⟩ := hI
      rw [List.take_length] at h2
      have pl : (D.lst acc).pl = true := by rw [D.pl]; exact plA_mk fun x hx => (goodG_pl (G.hg x (h1 x hx))).1
      have dp : depA acc ≤ 3 := depA_le fun x hx => (goodG_pl (G.hg x (h1 x hx))).2
      refine ⟨Nat.zero_le _, pl_cmp pl rfl, by rw [need_dep pl]; show depA acc + 1 ≤ 5; omega, ?_⟩
      have e : (D.lst acc).eqb (.lst []) = acc.isEmpty := by cases acc <;> (rw [D.eqb, eqbA] <;> simp)
      rw [e, h2, Bool.not_not]
      exact hQ
end
end DW

namespace DW
open PySem PySem.Spec L2

theorem condH_eq {n k : Int} {w : Str} : condH n [.str w, .int k] = if w = "least" then decide (n ≥ k) else if w = "most" then decide (n ≤ k) else if w = "is" then n == k else !(n == k) := rfl
theorem condH_least {n k : Int} : condH n [.str "least", .int k] = decide (n ≥ k) := by rw [condH_eq, if_pos rfl]
theorem condH_most {n k : Int} : condH n [.str "most", .int k] = decide (n ≤ k) := by rw [condH_eq, if_neg (by decide +kernel), if_pos rfl]
theorem condH_is {n k : Int} : condH n [.str "is", .int k] = (n == k) := by rw [condH_eq, if_neg (by decide +kernel), if_neg (by decide +kernel), if_pos rfl]
theorem condH_not {n k : Int} : condH n [.str "not", .int k] = !(n == k) := by rw [condH_eq, if_neg (by decide +kernel), if_neg (by decide +kernel), if_neg (by decide +kernel)]
theorem condH_rest {n k r : Int} {w : Str} : condH n [.str w, .int k, .int r] = ((n - r) % k == 0) := rfl
def fwIs : FW := fun ds m Q => ∃ a b, ds = [.bl a, .bl b] ∧ Q (.bl (a == b)) m
section
variable {P : Program} {w : World} {K : PySem.W.Frag} {TT : List (Addr × Str)} {mg : Str → Option Value} {base : Heap} {ad : Str → Addr}
abbrev s__law_holds : Stmt := topS 51
theorem sc__law_holds : FnScope ["_law_conditions", "_law_n", "_law_condition", "_law_word", "_law_k"] ["_law_conditions", "_law_n"] (defScope s__law_holds) := ⟨rfl, rfl, rfl, by decide +kernel, rfl, by decide +kernel, by decide +kernel⟩
theorem ok__law_holds {f : Addr} {fd : FuncData} (F : Fun K "_law_holds" "_law_holds" s__law_holds f fd) {lev : Lev} (T : TB K mg ad) (E0 : EqE P w K TT mg base lev 0) (N0 : NeE K lev) : FnG false P w K mg base CX0 3 f fd ["_law_conditions", "_law_n"] (spD K TT fwAllH) := by
  refine fn_data (k := 2) F sc__law_holds (fun ds m Q h => ?_) (fun cdv A outer s H E p cc B hr hgs hcd => (dss_cons (ds_for PassesOwn.never rfl (di_seq (de_var 0)) (dg_name (i := 2) sc__law_holds.nd rfl (by first | exact Or.inl rfl | exact Or.inr rfl))
    (dss_cons (ds_par2 (i := 3) (j := 4) (fun _ h => ps_par (i := 3) (j := 4) rfl sc__law_holds.nd rfl rfl (by decide) rfl rfl h rfl) (da_cons (de_sub2 hr (de_var 2) de_int (fun _ _ => rfl)) (da_cons (de_sub2 hr (de_var 2) de_int (fun _ _ => rfl)) da_nil)))
    (dss_cons (ds_if (DTw.dt (dtw_or (DTw.dt (dtw_and (dt_eqX (n := 0) E0 hr (by decide) (de_var 3) de_str) (dtw_and1 (dt_neX (n := 0) E0 N0 hr (by decide) (de_mod (de_callTy call_int1 rd_int (by rfl) T.b_int (by decide +kernel) (da_cons (de_sub (de_var 1) (de_sub2 hr (de_var 2) de_int (fun _ _ => rfl))) da_nil)) (de_var 4)) de_int)))) (dtw_or1 (DTw.dt (dtw_and (dt_eqX (n := 0) E0 hr (by decide) (de_var 3) de_str) (dtw_and1 (dt_lt (de_var 1) (de_var 4))))))))
    (dss_one (ds_ret de_bl))
    dss_nil)
    (dss_one (ds_if (DTw.dt (dtw_or (DTw.dt (dtw_and (dt_eqX (n := 0) E0 hr (by decide) (de_var 3) de_str) (dtw_and1 (dt_gt (de_var 1) (de_var 4))))) (dtw_or (DTw.dt (dtw_and (dt_eqX (n := 0) E0 hr (by decide) (de_var 3) de_str) (dtw_and1 (dt_neX (n := 0) E0 N0 hr (by decide) (de_var 1) (de_var 4))))) (dtw_or1 (DTw.dt (dtw_and (dt_eqX (n := 0) E0 hr (by decide) (de_var 3) de_str) (dtw_and1 (dt_eqX (n := 0) E0 hr (by decide) (de_var 1) (de_var 4)))))))))
    (dss_one (ds_ret de_bl))
    dss_nil)))))
    (dss_one (ds_ret de_bl)))) fun ds m Q h => ?_
  · obtain ⟨d, xs, n, rfl, _⟩ := h
    rfl
  · obtain ⟨d, xs, n, rfl, hd, hx, hQ⟩ := h
    have stop : ∀ (i : Nat) (x : D), xs[i]? = some x → condH n (rows x) = false → Q (.bl false) m := fun i x hi hf => by
      have : allH n xs = false := by
        rw [← Bool.not_eq_true, allH, List.all_eq_true]
        intro q
        have := q x (List.mem_of_getElem? hi)
        rw [hf] at this
        cases this
      rw [this] at hQ
      exact hQ
    rcases hd with rfl | rfl
    all_goals
      refine ⟨fun i ρ m' => (∃ d0 c1 c2 c3, ρ = [d0, .dat (.int n), c1, c2, c3]) ∧ m' = m ∧ allH n (xs.take i) = true, ⟨⟨_, _, _, _, rfl⟩, rfl, rfl⟩, ?_, ?_⟩
      · rintro i x ρ m' hi ⟨⟨d0, c1, c2, c3, rfl⟩, rfl, hall⟩
        obtain ⟨es, hd, hg⟩ := hx x (List.mem_of_getElem? hi)
        have stop := stop i x hi
        have go : condH n (rows x) = true → allH n (xs.take (i + 1)) = true := fun z => take_all hi hall z
        rw [rows_eq hd] at stop go
        rcases hg with ⟨w1, hw, a, e⟩ | ⟨a, b, b0, b1, e⟩
        · injection e with e
          subst e
          simp only [wordsL, List.mem_cons, List.not_mem_nil, or_false] at hw
          rcases hd with rfl | rfl
          all_goals
            refine .inl ⟨_, atI_pos (by decide) rfl, .inl ⟨_, atI_pos (by decide) rfl, ?_⟩⟩
            rcases hw with rfl | rfl | rfl | rfl
            · rw [condH_least] at stop go
              refine ⟨pl_cmp (by decide +kernel) (by decide +kernel), Nat.zero_le _, ite_n (by decide +kernel) (ite_n (by decide +kernel) ⟨pl_cmp (by decide +kernel) (by decide +kernel), Nat.zero_le _, ite_y (by decide +kernel) (ite_yn (fun z => stop (decide_eq_false ?_)) fun z => ?_)⟩)⟩
              · have := of_decide_eq_true z
                omega
              · have z := of_decide_eq_false z
                exact ⟨pl_cmp (by decide +kernel) (by decide +kernel), Nat.zero_le _, ite_n (by decide +kernel) (ite_n (by decide +kernel) ⟨pl_cmp (by decide +kernel) (by decide +kernel), Nat.zero_le _, ite_n (by decide +kernel) (ite_n (by decide +kernel) ⟨pl_cmp (by decide +kernel) (by decide +kernel), Nat.zero_le _, ite_n (by decide +kernel) ⟨⟨_, _, _, _, rfl⟩, rfl, go (decide_eq_true (by omega))⟩⟩)⟩)⟩
            · rw [condH_most] at stop go
              refine ⟨pl_cmp (by decide +kernel) (by decide +kernel), Nat.zero_le _, ite_n (by decide +kernel) (ite_n (by decide +kernel) ⟨pl_cmp (by decide +kernel) (by decide +kernel), Nat.zero_le _, ite_n (by decide +kernel) ?_⟩)⟩
              refine ⟨pl_cmp (by decide +kernel) (by decide +kernel), Nat.zero_le _, ite_y (by decide +kernel) (ite_yn (fun z => stop (decide_eq_false ?_)) fun z => ?_)⟩
              · have := of_decide_eq_true z
                omega
              · have z := of_decide_eq_false z
                exact ⟨pl_cmp (by decide +kernel) (by decide +kernel), Nat.zero_le _, ite_n (by decide +kernel) (ite_n (by decide +kernel) ⟨pl_cmp (by decide +kernel) (by decide +kernel), Nat.zero_le _, ite_n (by decide +kernel) ⟨⟨_, _, _, _, rfl⟩, rfl, go (decide_eq_true (by omega))⟩⟩)⟩
            · rw [condH_is] at stop go
              refine ⟨pl_cmp (by decide +kernel) (by decide +kernel), Nat.zero_le _, ite_n (by decide +kernel) (ite_n (by decide +kernel) ⟨pl_cmp (by decide +kernel) (by decide +kernel), Nat.zero_le _, ite_n (by decide +kernel) ?_⟩)⟩
              refine ⟨pl_cmp (by decide +kernel) (by decide +kernel), Nat.zero_le _, ite_n (by decide +kernel) (ite_n (by decide +kernel) ⟨pl_cmp (by decide +kernel) (by decide +kernel), Nat.zero_le _, ite_y (by decide +kernel) ⟨rfl, Nat.zero_le _, ite_yn (fun z => stop (notT z)) fun z => ?_⟩⟩)⟩
              exact ⟨pl_cmp (by decide +kernel) (by decide +kernel), Nat.zero_le _, ite_n (by decide +kernel) ⟨⟨_, _, _, _, rfl⟩, rfl, go (notF z)⟩⟩
            · rw [condH_not] at stop go
              refine ⟨pl_cmp (by decide +kernel) (by decide +kernel), Nat.zero_le _, ite_n (by decide +kernel) (ite_n (by decide +kernel) ⟨pl_cmp (by decide +kernel) (by decide +kernel), Nat.zero_le _, ite_n (by decide +kernel) ?_⟩)⟩
              refine ⟨pl_cmp (by decide +kernel) (by decide +kernel), Nat.zero_le _, ite_n (by decide +kernel) (ite_n (by decide +kernel) ⟨pl_cmp (by decide +kernel) (by decide +kernel), Nat.zero_le _, ite_n (by decide +kernel) (ite_n (by decide +kernel) ⟨pl_cmp (by decide +kernel) (by decide +kernel), Nat.zero_le _, ite_y (by decide +kernel) ⟨rfl, Nat.zero_le _, ite_yn (fun z => stop ?_) fun z => ⟨⟨_, _, _, _, rfl⟩, rfl, go ?_⟩⟩⟩)⟩)⟩
              · rw [show (n == a) = true from z]
                rfl
              · rw [show (n == a) = false from z]
                rfl
        · injection e with e
          subst e
          rw [condH_rest] at stop go
          have b2 : 0 < a := by omega
          rcases hd with rfl | rfl
          all_goals
            refine .inl ⟨_, atI_pos (by decide) rfl, .inl ⟨_, atI_pos (by decide) rfl, ?_⟩⟩
            refine ⟨pl_cmp (by decide +kernel) (by decide +kernel), Nat.zero_le _, ite_y (by decide +kernel) (.inl ⟨_, atI_pos (by decide) rfl, ⟨by omega, rfl, Nat.zero_le _, ite_yn (fun z => stop (notT z)) fun z => ?_⟩⟩)⟩
            exact ⟨pl_cmp (by decide +kernel) (by decide +kernel), Nat.zero_le _, ite_n (by decide +kernel) ⟨pl_cmp (by decide +kernel) (by decide +kernel), Nat.zero_le _, ite_n (by decide +kernel) (ite_n (by decide +kernel) ⟨pl_cmp (by decide +kernel) (by decide +kernel), Nat.zero_le _, ite_n (by decide +kernel) (ite_n (by decide +kernel) ⟨pl_cmp (by decide +kernel) (by decide +kernel), Nat.zero_le _, ite_n (by decide +kernel) ⟨⟨_, _, _, _, rfl⟩, rfl, go (notF z)⟩⟩)⟩)⟩⟩
      · rintro ρ m' ⟨⟨d0, c1, c2, c3, rfl⟩, rfl, hall⟩
        rw [List.take_length] at hall
        rw [hall] at hQ
        exact hQ
end
end DW

namespace DW
open PySem PySem.Spec L2

section
variable {K : PySem.W.Frag} {mg : Str → Option Value} {ad : Str → Addr}
theorem cmp_obj {C : Addr} {fs gs : List (Str × D)} (hp : 0 < levB ad C) (h1 : cmpF (levB ad) fs gs = true) (h2 : needF (levB ad) fs < levB ad C) (h3 : okB ad C fs gs = true) : cmpOk (levB ad) (.obj C fs) (.obj C gs) = true := by
  have h3' : (levB ad).ok C fs gs = true := h3
  rw [cmpOk, h1, h3', decide_eq_true hp, decide_eq_true h2]
  simp
theorem cmpF_mk {lev : Lev} {f : Str} {x y : D} {fs gs : List (Str × D)} (h : cmpOk lev x y = true) (r : cmpF lev fs gs = true) : cmpF lev ((f, x) :: fs) ((f, y) :: gs) = true := by
  rw [cmpF, h, r, decide_eq_true rfl]
  rfl
theorem needF_mk {lev : Lev} {f : Str} {x : D} {fs : List (Str × D)} {n : Nat} (h : x.need lev < n) (r : needF lev fs < n) : needF lev ((f, x) :: fs) < n := by
  show max (x.need lev) (needF lev fs) < n
  omega
theorem cmp_move {p c s t p' c' s' t' : D} (h1 : p.pl = true) (h2 : c.pl = true) (h3 : s.pl = true) (h4 : t.pl = true) (k1 : p'.pl = true) (k2 : c'.pl = true) (k3 : s'.pl = true) (k4 : t'.pl = true) (d1 : p.dep ≤ 5) (d2 : c.dep ≤ 5) (d3 : s.dep ≤ 5) (d4 : t.dep ≤ 5) : cmpOk (levB ad) (moveD ad p c s t) (moveD ad p' c' s' t') = true := by
  refine cmp_obj (by rw [lev_M]; decide) (cmpF_mk (pl_cmp h1 k1) (cmpF_mk (pl_cmp h2 k2) (cmpF_mk (pl_cmp h3 k3) (cmpF_mk (pl_cmp h4 k4) (by rw [cmpF]))))) ?_ ?_
  · rw [lev_M]
    exact needF_mk (by rw [need_dep h1]; omega) (needF_mk (by rw [need_dep h2]; omega) (needF_mk (by rw [need_dep h3]; omega) (needF_mk (by rw [need_dep h4]; omega) (show 0 < 6 by decide))))
  · unfold okB
    rw [if_pos rfl]
    exact decide_eq_true rfl
theorem cmp_goal (T : TB K mg ad) {p c p' c' : D} (h1 : p.pl = true) (h2 : c.pl = true) (k1 : p'.pl = true) (k2 : c'.pl = true) (d1 : p.dep ≤ 5) (d2 : c.dep ≤ 5) : cmpOk (levB ad) (goalD ad p c) (goalD ad p' c') = true := by
  refine cmp_obj (by rw [lev_G]; decide) (cmpF_mk (pl_cmp h1 k1) (cmpF_mk (pl_cmp h2 k2) (by rw [cmpF]))) ?_ ?_
  · rw [lev_G]
    exact needF_mk (by rw [need_dep h1]; omega) (needF_mk (by rw [need_dep h2]; omega) (show 0 < 6 by decide))
  · unfold okB
    rw [if_neg (Ne.symm T.ne.1), if_pos rfl]
    exact decide_eq_true rfl
theorem eq_move {p c s t : D} (h1 : p.pl = true) (h2 : c.pl = true) (h3 : s.pl = true) (h4 : t.pl = true) : (moveD ad p c s t).eqb (moveD ad p c s t) = true := by
  rw [eqb_obj, eqbF_cons, eqbF_cons, eqbF_cons, eqbF_cons, eqb_refl h1, eqb_refl h2, eqb_refl h3, eqb_refl h4, eqbF]
  rfl
theorem eq_goal {p c : D} (h1 : p.pl = true) (h2 : c.pl = true) : (goalD ad p c).eqb (goalD ad p c) = true := by
  rw [eqb_obj, eqbF_cons, eqbF_cons, eqb_refl h1, eqb_refl h2, eqbF]
  rfl
theorem mv_self {n : Nat} {x : D} (h : goodM n x) : cmpOk (levB ad) (mvOf ad x) (mvOf ad x) = true ∧ (mvOf ad x).eqb (mvOf ad x) = true ∧ (mvOf ad x).need (levB ad) = 6 := by
  obtain ⟨p, cs, s, t, rfl, _, _, _, _, hc, _⟩ := h
  obtain ⟨h1, h2⟩ := conds_pl hc
  exact ⟨cmp_move rfl h1 rfl rfl rfl h1 rfl rfl (Nat.zero_le _) (by omega) (Nat.zero_le _) (Nat.zero_le _), eq_move rfl h1 rfl rfl, lev_M⟩
theorem gl_self (T : TB K mg ad) {n : Nat} {x : D} (h : goodG n x) : cmpOk (levB ad) (glOf ad x) (glOf ad x) = true ∧ (glOf ad x).eqb (glOf ad x) = true ∧ (glOf ad x).need (levB ad) = 6 := by
  obtain ⟨p, cs, rfl, _, _, hc, _⟩ := h
  obtain ⟨h1, h2⟩ := conds_pl hc
  exact ⟨cmp_goal T rfl h1 rfl h1 (Nat.zero_le _) (by omega), eq_goal rfl h1, lev_G⟩
theorem okB_book (T : TB K mg ad) {s m g n s' m' g' n' : D} (h : (!s.eqb s' || n.eqb n') = true) : okB ad (ad "Book") [("sides", s), ("moves", m), ("goals", g), ("places", n)] [("sides", s'), ("moves", m'), ("goals", g'), ("places", n')] = true := by
  unfold okB
  rw [if_neg (Ne.symm T.ne.2.1), if_neg (Ne.symm T.ne.2.2), if_neg T.np.2.2]
  show (decide ((["sides", "moves", "goals", "places"] : List Str) = (["sides", "moves", "goals", "places"] : List Str)) && (!s.eqb s' || n.eqb n')) = true
  rw [h, decide_eq_true rfl]
  rfl
theorem eqbA_len : ∀ {ds es : List D}, ds.length ≠ es.length → eqbA ds es = false
  | [], [], h => absurd rfl h
  | [], _ :: _, _ => by rw [eqbA] <;> simp
  | _ :: _, [], _ => by rw [eqbA] <;> simp
  | d :: ds, e :: es, h => by
    rw [eqbA, eqbA_len (ds := ds) (es := es) (by simpa using h), Bool.and_false]
/-- a book beside another -/
theorem book_cmp (T : TB K mg ad) {L : Nat} {ss ms gs ss' M' G' : List D} (G : GoodB L ss ms gs) (c1 : cmpA (levB ad) ss ss' = true) (c2 : cmpA (levB ad) (ms.map (mvOf ad)) M' = true) (c3 : cmpA (levB ad) (gs.map (glOf ad)) G' = true) (hn : (D.tup ss).eqb (.tup ss') = true → (ss.length : Int) = ss'.length) {f : Bool → Bool} {Q : D → Prop} {b : Bool}
    (hb : (eqbA ss ss' && (eqbA (ms.map (mvOf ad)) M' && (eqbA (gs.map (glOf ad)) G' && ((ss.length : Int) == ss'.length)))) = b) (q : Q (.bl (f b))) : eqXD f (levB ad) 8 (bookO ad ss ms gs) (.obj (ad "Book") [("sides", .tup ss'), ("moves", .tup M'), ("goals", .tup G'), ("places", .int ss'.length)]) Q := by
  refine ⟨cmp_obj (by rw [lev_B T]; decide) (cmpF_mk (by rw [cmpOk]; exact c1) (cmpF_mk (by rw [cmpOk]; exact c2) (cmpF_mk (by rw [cmpOk]; exact c3) (cmpF_mk (pl_cmp rfl rfl) (by rw [cmpF]))))) ?_ (okB_book T ?_), ?_, ?_⟩
  · rw [lev_B T]
    have n1 : needA (levB ad) ss ≤ 0 := needA_le fun x hx => by rcases G.hs x hx with rfl | rfl <;> exact Nat.le_refl _
    have n2 : needA (levB ad) (ms.map (mvOf ad)) ≤ 6 := needA_le fun x hx => by
      obtain ⟨y, hy, rfl⟩ := List.mem_map.mp hx
      exact Nat.le_of_eq (mv_self (G.hm y hy)).2.2
    have n3 : needA (levB ad) (gs.map (glOf ad)) ≤ 6 := needA_le fun x hx => by
      obtain ⟨y, hy, rfl⟩ := List.mem_map.mp hx
      exact Nat.le_of_eq (gl_self T (G.hg y hy)).2.2
    exact needF_mk (by show needA _ ss + 1 < 8; omega) (needF_mk (by show needA _ _ + 1 < 8; omega) (needF_mk (by show needA _ _ + 1 < 8; omega) (needF_mk (show 0 < 8 by decide) (show 0 < 8 by decide))))
  · cases e : (D.tup ss).eqb (.tup ss') with
    | false => rfl
    | true =>
      rw [D.eqb, hn e]
      simp
  · exact Nat.le_of_eq (lev_B T)
  · have : (bookO ad ss ms gs).eqb (.obj (ad "Book") [("sides", .tup ss'), ("moves", .tup M'), ("goals", .tup G'), ("places", .int ss'.length)]) = b := by
      rw [eqb_obj, eqbF_cons, eqbF_cons, eqbF_cons, eqbF_cons, eqbF, Bool.and_true, D.eqb, D.eqb, D.eqb, D.eqb]
      exact hb
    rw [this]
    exact q
end
end DW

namespace DW
open PySem PySem.Spec L2
section
variable {P : Program} {w : World} {K : PySem.W.Frag} {TT : List (Addr × Str)} {mg : Str → Option Value} {base : Heap} {ad : Str → Addr}
end
end DW

namespace DW
open PySem PySem.Spec L2
open LamX

def fwFar : FW := fun ds m Q => ds = [.pen] ∧ m < 100000000000 ∧ ∀ (i : Int) m', i.natAbs < 10 ^ 59 → m' ≤ m + 20 → Q (.int i) m'
def fwAfterR (ad : Str → Addr) : FW := fun ds m Q => ∃ ss ms gs n, ds = [bookT ss ms gs, bookO ad ss ms gs, .int n] ∧ GoodB 60 ss ms gs ∧ Q (.bl true) m
def fwStateR (ad : Str → Addr) : FW := fun ds m Q => ∃ ss ms gs p k, ds = [bookT ss ms gs, bookO ad ss ms gs, .int p, .int k] ∧ GoodB 60 ss ms gs ∧ 0 ≤ p ∧ p < ss.length ∧ Q (.bl true) m
theorem cmp_eqX {lev : Lev} {n : Nat} {d e : D} {f : Bool → Bool} {Q : D → Prop} (hd : d.pl = true) (he : e.pl = true) (hn : d.dep ≤ n) (q : Q (.bl (f (d.eqb e)))) : eqXD f lev n d e Q := ⟨pl_cmp hd he, by rw [need_dep hd]; exact hn, q⟩
theorem cmp_self {lev : Lev} {n : Nat} {d : D} {f : Bool → Bool} {Q : D → Prop} (hd : d.pl = true) (hn : d.dep ≤ n) (q : Q (.bl (f true))) : eqXD f lev n d d Q := cmp_eqX hd hd hn (by rw [eqb_refl hd]; exact q)
theorem openF_int {p k : Int} : ∀ {ms : List D} {i : Nat} {x : D}, x ∈ openF p k i ms → ∃ j : Int, x = .int j
  | [], _, _, h => by cases h
  | y :: ys, i, x, h => by
    rw [openF] at h
    split at h
    · rcases List.mem_cons.mp h with rfl | h
      · exact ⟨_, rfl⟩
      · exact openF_int h
    · exact openF_int h
theorem ints_pl {xs : List D} (h : ∀ x ∈ xs, ∃ j : Int, x = .int j) : (D.tup xs).pl = true ∧ (D.tup xs).dep ≤ 1 := by
  refine ⟨?_, ?_⟩
  · rw [D.pl]
    exact plA_mk fun x hx => by obtain ⟨j, rfl⟩ := h x hx; rfl
  · show depA xs + 1 ≤ 1
    have := depA_le (n := 0) fun x hx => by obtain ⟨j, rfl⟩ := h x hx; exact Nat.le_refl _
    omega
theorem tupNil_eqb {xs : List D} : (D.tup xs).eqb (.tup []) = xs.isEmpty := by cases xs <;> (rw [D.eqb, eqbA] <;> simp)
section
variable {P : Program} {w : World} {K : PySem.W.Frag} {TT : List (Addr × Str)} {mg : Str → Option Value} {base : Heap} {ad : Str → Addr}
abbrev s__law_far : Stmt := topS 50
theorem sc__law_far : FnScope ["_law_pen_here", "_law_sign", "_law_many", "_law_far_here", "_law_lap"] ["_law_pen_here"] (defScope s__law_far) := ⟨rfl, rfl, rfl, by decide +kernel, rfl, by decide +kernel, by decide +kernel⟩
theorem ok__law_far {f : Addr} {fd : FuncData} (F : Fun K "_law_far" "_law_far" s__law_far f fd) (T : TB K mg ad) (f__law_draw : DFn false P w K TT mg base 1 "_law_draw" fwDraw) (f__law_pick : DFn false P w K TT mg base 2 "_law_pick" fwPick) : FnG false P w K mg base CX0 3 f fd ["_law_pen_here"] (spD K TT fwFar) := by
  refine fn_data (k := 2) F sc__law_far (fun ds m Q h => ?_) (fun cdv A outer s H E p cc B hr hgs hcd => (dss_cons (ds_par3 (i := 1) (j := 2) (l := 3) (fun _ h => ps_par3 (i := 1) (j := 2) (l := 3) rfl sc__law_far.nd rfl rfl rfl (by decide) (by decide) (by decide) rfl rfl rfl h rfl) (da_cons (de_sub de_int (de_mulI de_int (de_call f__law_draw hr nog (by decide) (by rfl) (da_cons (de_var 0) (da_cons de_int da_nil))))) (da_cons (de_call f__law_pick hr nog (by decide) (by rfl) (da_cons (de_var 0) (da_cons (de_lst (da_cons de_int (da_cons de_int (da_cons de_int (da_cons de_int (da_cons de_int da_nil)))))) da_nil))) (da_cons (de_call f__law_draw hr nog (by decide) (by rfl) (da_cons (de_var 0) (da_cons de_int da_nil))) da_nil))))
    (dss_cons (ds_for PassesOwn.never rfl (di_range1 (by rfl) T.b_range (da_cons (de_var 2) da_nil)) (dg_name (i := 4) sc__law_far.nd rfl (by first | exact Or.inl rfl | exact Or.inr rfl))
    (dss_one (ds_set (i := 3) sc__law_far.nd rfl (by first | exact Or.inl rfl | exact Or.inr rfl) (de_add (de_mulI (de_var 3) (de_pow de_int de_int)) (de_call f__law_draw hr nog (by decide) (by rfl) (da_cons (de_var 0) (da_cons (de_pow de_int de_int) da_nil)))))))
    (dss_one (ds_ret (de_mulI (de_var 1) (de_var 3))))))) fun ds m Q h => ?_
  · obtain ⟨rfl, _⟩ := h
    rfl
  · obtain ⟨rfl, hm, k⟩ := h
    refine ⟨2, rfl, by decide, by decide, by omega, fun a a0 a1 => ⟨.inl ⟨by decide, by decide⟩, show 5 ≤ sizeLine by decide, _, rfl, by decide, by decide, by omega, fun x hx => ⟨40, rfl, by decide, by decide, by omega, fun b b0 b1 => ?_⟩⟩⟩
    obtain ⟨n, rfl, n0, n1⟩ : ∃ n : Int, x = .int n ∧ 0 ≤ n ∧ n ≤ 9 := by
      simp only [List.mem_cons, List.not_mem_nil, or_false] at hx
      rcases hx with rfl | rfl | rfl | rfl | rfl <;> exact ⟨_, rfl, by decide, by decide⟩
    have ln : (rngD 0 n).length = n.toNat := by rw [rngD_lenI]
    refine ⟨⟨by omega, by omega⟩, fun i ρ m' => (∃ b c1, 0 ≤ b ∧ b < 40 * 1000000 ^ i ∧ ρ = [.dat .pen, .dat (.int (1 - 2 * a)), .dat (.int n), .dat (.int b), c1]) ∧ m' ≤ m + 1 + 1 + 1 + i, ⟨⟨b, _, b0, by simpa using b1, rfl⟩, by omega⟩, ?_, ?_⟩
    · rintro i x ρ m' hx ⟨⟨b, c1, b0, b1, rfl⟩, hm'⟩
      have hi : i < n.toNat := by
        have := (List.getElem?_eq_some_iff.mp hx).1
        omega
      refine ⟨⟨by decide, by decide, by decide⟩, .inr ⟨by decide, by decide⟩, ⟨by decide, by decide, by decide⟩, (10 : Int) ^ (6 : Int).toNat, rfl, by decide, by decide, by omega, fun c c0 c1 => ?_⟩
      have e6 : (10 : Int) ^ (6 : Int).toNat = 1000000 := by decide
      refine ⟨⟨_, _, ?_, ?_, rfl⟩, by omega⟩
      · rw [e6]
        omega
      · rw [e6] at c1 ⊢
        rw [Int.pow_succ, ← Int.mul_assoc]
        omega
    · rintro ρ m' ⟨⟨b, c1, b0, b1, rfl⟩, hm'⟩
      have b2 : b < 40 * 1000000 ^ 9 := by
        have : (1000000 : Int) ^ (rngD 0 n).length ≤ 1000000 ^ 9 := by
          have l9 : (rngD 0 n).length ≤ 9 := by omega
          generalize (rngD 0 n).length = q at l9
          have : q = 0 ∨ q = 1 ∨ q = 2 ∨ q = 3 ∨ q = 4 ∨ q = 5 ∨ q = 6 ∨ q = 7 ∨ q = 8 ∨ q = 9 := by omega
          rcases this with rfl | rfl | rfl | rfl | rfl | rfl | rfl | rfl | rfl | rfl <;> decide
        omega
      refine ⟨.inl ⟨by omega, by omega⟩, k _ _ ?_ ?_⟩
      · rw [Int.natAbs_mul]
        have h1 : (1 - 2 * a).natAbs ≤ 1 := by omega
        have h2 : b.natAbs < 10 ^ 59 := by
          have : (40 : Int) * 1000000 ^ 9 < 10 ^ 59 := by decide
          omega
        exact Nat.lt_of_le_of_lt (Nat.le_trans (Nat.mul_le_mul_right _ h1) (Nat.le_of_eq (Nat.one_mul _))) h2
      · omega
end
end DW

namespace DW
open PySem PySem.Spec L2
open LamX

theorem pl_tri {w v : Str} {i : D} (hw : PyData.strOk w = true) (hv : PyData.strOk v = true) (hi : i.pl = true) : (D.tup [.str w, .str v, i]).pl = true := by
  rw [D.pl, plA, plA, plA, plA, hi, D.pl, D.pl, hw, hv]
  rfl
def fwRefR (ad : Str → Addr) : FW := fun ds m Q => ∃ ss ms gs, ds = [.pen, bookO ad ss ms gs] ∧ GoodB 60 ss ms gs ∧ m < 10000000000 ∧ ∀ m', Q (.bl true) m'
theorem ix_self {n : Int} : (D.int n).isIx n = false := by
  rw [D.isIx, show decide (n < n) = false from decide_eq_false (Int.lt_irrefl n), Bool.and_false]
/-- the three defs that a place and a count are asked of -/
def threeS (ad : Str → Addr) (a : Addr) : Option FWX := if a = ad "open_moves" then some (fwOpen ad) else if a = ad "is_goal" then some (fwIsGoal ad) else if a = ad "is_stuck" then some (fwStuck ad) else none
theorem three_ask {ad : Str → Addr} {a : Addr} {fw : FWX} (h : threeS ad a = some fw) {ss ms gs : List D} (G : GoodB 60 ss ms gs) {d c : D} {m : Nat} {Q : D → Nat → Prop} {QX : Addr → List (Str × D) → Nat → Prop} (hd : d.known (csB ad) = true) (hc : c.known (csB ad) = true)
    (f1 : d.isIx ss.length = false → QX (ad "BadPlace") [("value", d)] m) (f2 : d.isIx ss.length = true → c.isWhole = false → QX (ad "BadNumber") [("value", c), ("what", .str "count")] m) (f3 : d.isIx ss.length = true → c.isWhole = false) : fw [bookO ad ss ms gs, d, c] m Q QX := by
  have no : ∀ ok : Int → Int → Prop, ∀ p k, d = .int p → c = .int k → d.isIx ss.length = true → ok p k := fun ok p k e1 e2 e3 => by
    have := f3 e3
    rw [e2] at this
    cases this
  unfold threeS at h
  split at h
  · cases h; exact ⟨ss, ms, gs, d, c, rfl, G, hd, hc, f1, f2, no _⟩
  · split at h
    · cases h; exact ⟨ss, ms, gs, d, c, rfl, G, hd, hc, f1, f2, no _⟩
    · split at h
      · cases h; exact ⟨ss, ms, gs, d, c, rfl, G, hd, hc, f1, f2, no _⟩
      · cases h
theorem three_at {ad : Str → Addr} {a : Addr} (h : a = ad "open_moves" ∨ a = ad "is_goal" ∨ a = ad "is_stuck") : ∃ fw, threeS ad a = some fw := by
  unfold threeS
  by_cases h1 : a = ad "open_moves"
  · exact ⟨_, if_pos h1⟩
  · by_cases h2 : a = ad "is_goal"
    · exact ⟨_, by rw [if_neg h1, if_pos h2]⟩
    · exact ⟨_, by rw [if_neg h1, if_neg h2, if_pos ((h.resolve_left h1).resolve_left h2)]⟩
section
variable {P : Program} {w : World} {K : PySem.W.Frag} {TT : List (Addr × Str)} {mg : Str → Option Value} {base : Heap} {ad : Str → Addr}
end
end DW

namespace DW
open PySem PySem.Spec L2

theorem openF_mem {p k : Int} : ∀ {ms : List D} {i : Nat} {x : D}, x ∈ openF p k i ms → ∃ (j : Nat) (y : D), x = .int ((i + j : Nat) : Int) ∧ ms[j]? = some y ∧ mvHit p k y = true
  | [], _, _, h => by cases h
  | y :: ys, i, x, h => by
    rw [openF] at h
    split at h
    · rename_i hy
      rcases List.mem_cons.mp h with rfl | h
      · exact ⟨0, y, rfl, rfl, hy⟩
      · obtain ⟨j, z, rfl, h1, h2⟩ := openF_mem h
        exact ⟨j + 1, z, by congr 1; omega, by simpa using h1, h2⟩
    · obtain ⟨j, z, rfl, h1, h2⟩ := openF_mem h
      exact ⟨j + 1, z, by congr 1; omega, by simpa using h1, h2⟩
def shf : D → Int
  | .tup [_, _, .int s, _] => s
  | _ => 0
def tgt : D → Int
  | .tup [_, _, _, .int t] => t
  | _ => 0
theorem mvHit_holds {p k : Int} {N : Nat} {x : D} (g : goodM N x) (h : mvHit p k x = true) : mvHolds k x = true := by
  obtain ⟨q, cs, s, t, rfl, _⟩ := g
  have h : (q == p && allH k cs) = true := h
  rw [Bool.and_eq_true] at h
  exact h.2
theorem mvTo_eq {k : Int} {N : Nat} {x : D} (g : goodM N x) : mvTo k x = .tup [.int (tgt x), .int (k + shf x)] := by
  obtain ⟨q, cs, s, t, rfl, _⟩ := g
  rfl
theorem bl_self {lev : Lev} {n : Nat} (b : Bool) : cmpOk lev (.bl b) (.bl b) = true ∧ (D.bl b).need lev ≤ n ∧ (D.bl b).eqb (.bl b) = true := ⟨rfl, Nat.zero_le _, by rw [D.eqb]; simp⟩
theorem int_self {lev : Lev} {n : Nat} (b : Int) : cmpOk lev (.int b) (.int b) = true ∧ (D.int b).need lev ≤ n ∧ (D.int b).eqb (.int b) = true := ⟨rfl, Nat.zero_le _, by rw [D.eqb]; simp⟩
theorem pl_self {lev : Lev} {n : Nat} {d : D} (h : d.pl = true) (hd : d.dep ≤ n) : cmpOk lev d d = true ∧ d.need lev ≤ n ∧ d.eqb d = true := ⟨pl_cmp h h, by rw [need_dep h]; exact hd, eqb_refl h⟩
theorem openF_len {p k : Int} : ∀ {xs : List D} {i : Nat}, (openF p k i xs).length ≤ xs.length
  | [], _ => Nat.le_refl _
  | x :: xs, i => by
    rw [openF]
    have := openF_len (p := p) (k := k) (xs := xs) (i := i + 1)
    split
    · rw [List.length_cons, List.length_cons]
      omega
    · rw [List.length_cons]
      omega
section
variable {K : PySem.W.Frag} {mg : Str → Option Value} {ad : Str → Addr}
theorem rowM_self {N : Nat} {ms : List D} (h : ∀ x ∈ ms, goodM N x) : cmpOk (levB ad) (.tup (ms.map (mvOf ad))) (.tup (ms.map (mvOf ad))) = true ∧ (D.tup (ms.map (mvOf ad))).need (levB ad) ≤ 8 ∧ (D.tup (ms.map (mvOf ad))).eqb (.tup (ms.map (mvOf ad))) = true := by
  have a : ∀ x ∈ ms.map (mvOf ad), cmpOk (levB ad) x x = true ∧ x.eqb x = true ∧ x.need (levB ad) = 6 := fun x hx => by
    obtain ⟨y, hy, rfl⟩ := List.mem_map.mp hx
    exact mv_self (h y hy)
  refine ⟨by rw [cmpOk]; exact cmpA_refl fun x hx => (a x hx).1, ?_, by rw [D.eqb]; exact eqbA_refl fun x hx => (a x hx).2.1⟩
  have := needA_le (lev := levB ad) (n := 6) fun x hx => Nat.le_of_eq (a x hx).2.2
  show needA _ _ + 1 ≤ 8
  omega
theorem rowG_self (T : TB K mg ad) {N : Nat} {gs : List D} (h : ∀ x ∈ gs, goodG N x) : cmpOk (levB ad) (.tup (gs.map (glOf ad))) (.tup (gs.map (glOf ad))) = true ∧ (D.tup (gs.map (glOf ad))).need (levB ad) ≤ 8 ∧ (D.tup (gs.map (glOf ad))).eqb (.tup (gs.map (glOf ad))) = true := by
  have a : ∀ x ∈ gs.map (glOf ad), cmpOk (levB ad) x x = true ∧ x.eqb x = true ∧ x.need (levB ad) = 6 := fun x hx => by
    obtain ⟨y, hy, rfl⟩ := List.mem_map.mp hx
    exact gl_self T (h y hy)
  refine ⟨by rw [cmpOk]; exact cmpA_refl fun x hx => (a x hx).1, ?_, by rw [D.eqb]; exact eqbA_refl fun x hx => (a x hx).2.1⟩
  have := needA_le (lev := levB ad) (n := 6) fun x hx => Nat.le_of_eq (a x hx).2.2
  show needA _ _ + 1 ≤ 8
  omega
theorem rowS_self {lev : Lev} {n : Nat} {ss : List D} (h : ∀ x ∈ ss, isSide x) : cmpOk lev (.tup ss) (.tup ss) = true ∧ (D.tup ss).need lev ≤ n + 1 ∧ (D.tup ss).eqb (.tup ss) = true := by
  obtain ⟨a, b⟩ := ints_pl (xs := ss) fun x hx => by rcases h x hx with rfl | rfl <;> exact ⟨_, rfl⟩
  exact pl_self a (by omega)
theorem book_self (T : TB K mg ad) {L : Nat} {ss ms gs : List D} (G : GoodB L ss ms gs) : cmpOk (levB ad) (bookO ad ss ms gs) (bookO ad ss ms gs) = true ∧ (bookO ad ss ms gs).need (levB ad) ≤ 8 ∧ (bookO ad ss ms gs).eqb (bookO ad ss ms gs) = true := by
  obtain ⟨a1, a2, a3⟩ := rowS_self (lev := levB ad) (n := 0) G.hs
  obtain ⟨b1, b2, b3⟩ := rowM_self (ad := ad) G.hm
  obtain ⟨c1, c2, c3⟩ := rowG_self T G.hg
  obtain ⟨x, y, z⟩ := book_cmp T (f := id) (Q := fun d => d = .bl true) G (by rw [cmpOk] at a1; exact a1) (by rw [cmpOk] at b1; exact b1) (by rw [cmpOk] at c1; exact c1) (fun _ => rfl) (b := true) (by
    rw [D.eqb] at a3 b3 c3
    rw [a3, b3, c3]
    simp) rfl
  refine ⟨x, y, ?_⟩
  have z : D.bl ((bookO ad ss ms gs).eqb (bookO ad ss ms gs)) = .bl true := z
  injection z
end

def plc : D → Int
  | .obj _ fs => match fs.lookup ("place" : Str) with
    | some (.int p) => p
    | _ => -1
  | _ => -1
def rowsOf (n : Nat) (xs : List D) : List (List D) := (List.range n).map fun (k : Nat) => xs.filter fun d => plc d == (k : Int)
theorem rowsOf_at {n k : Nat} {xs : List D} (h : k < n) : (rowsOf n xs)[k]? = some (xs.filter fun d => plc d == (k : Int)) := by
  rw [rowsOf, List.getElem?_map, List.getElem?_range h]
  rfl
theorem rowsOf_snoc {n k : Nat} {xs : List D} {x : D} (h : plc x = (k : Int)) (hk : k < n) : (rowsOf n xs).set k ((xs.filter fun d => plc d == (k : Int)) ++ [x]) = rowsOf n (xs ++ [x]) := by
  refine List.ext_getElem? fun j => ?_
  by_cases e : k = j
  · subst e
    rw [List.getElem?_set_self (by rw [rowsOf, List.length_map, List.length_range]; exact hk), rowsOf_at hk, List.filter_append, List.filter_cons_of_pos (by rw [h]; simp)]
    rfl
  · rw [List.getElem?_set_ne e]
    by_cases hj : j < n
    · rw [rowsOf_at hj, rowsOf_at hj, List.filter_append, List.filter_cons_of_neg (by rw [h]; simp; omega), List.filter_nil, List.append_nil]
    · rw [List.getElem?_eq_none (by rw [rowsOf, List.length_map, List.length_range]; omega), List.getElem?_eq_none (by rw [rowsOf, List.length_map, List.length_range]; omega)]
def fwByPl (ad : Str → Addr) : FW := fun ds m Q => ∃ (rules : D) (xs : List D) (n : Nat), ds = [rules, .int (n : Int)] ∧ (rules = .lst xs ∨ rules = .tup xs) ∧ n ≤ 1000 ∧ xs.length ≤ 1000 ∧
  (∀ x ∈ xs, ∃ C fs p, x = .obj C fs ∧ (C = ad "Move" ∨ C = ad "Goal") ∧ fs.lookup ("place" : Str) = some (.int p) ∧ 0 ≤ p ∧ p < n) ∧ Q (.lst ((rowsOf n xs).map D.lst)) m
def gHold (n : Int) : D → Bool
  | .obj _ [(_, _), (_, .tup cs)] => allH n cs
  | _ => false
def fwSomeH (ad : Str → Addr) : FW := fun ds m Q => ∃ (xs : List D) (n : Int), ds = [.lst xs, .int n] ∧ (∀ x ∈ xs, ∃ N y, x = glOf ad y ∧ goodG N y) ∧ Q (.bl (xs.any (gHold n))) m
theorem some_eq {ad : Str → Addr} {N : Nat} {p n : Int} : ∀ {gs : List D}, (∀ x ∈ gs, goodG N x) → ((gs.map (glOf ad)).filter fun d => plc d == p).any (gHold n) = gs.any (glHit p n)
  | [], _ => rfl
  | x :: gs, h => by
    obtain ⟨q, cs, rfl, _⟩ := h x (List.mem_cons_self ..)
    have ih := some_eq (ad := ad) (p := p) (n := n) (gs := gs) fun y hy => h y (List.mem_cons_of_mem _ hy)
    rw [List.map_cons, List.any_cons, ← ih]
    have e : plc (glOf ad (.tup [.int q, .tup cs])) = q := rfl
    by_cases hq : q = p
    · rw [List.filter_cons_of_pos (by rw [e, hq]; simp), List.any_cons]
      show (allH n cs || _) = ((q == p && allH n cs) || _)
      rw [hq, beq_self_eq_true, Bool.true_and]
    · rw [List.filter_cons_of_neg (by rw [e]; simp; exact hq)]
      show _ = ((q == p && allH n cs) || _)
      rw [beq_eq_false_iff_ne.mpr hq, Bool.false_and, Bool.false_or]
def stepB (ms gs : List D) (p k : Int) (d : D) : Bool := d.isIx ms.length && (!gs.any (glHit p k) && (match d with
  | .int i => match ms[i.toNat]? with
    | some x => mvHit p k x
    | none => false
  | _ => false))
def stepTo (ms : List D) (k : Int) (d : D) : Int × Int := match d with
  | .int i => match ms[i.toNat]? with
    | some x => (tgt x, k + shf x)
    | none => (0, 0)
  | _ => (0, 0)
def walkS (ms gs : List D) : Int → Int → List D → List (Int × Int)
  | p, k, [] => [(p, k)]
  | p, k, d :: r => if stepB ms gs p k d = true then (p, k) :: walkS ms gs (stepTo ms k d).1 (stepTo ms k d).2 r else [(p, k)]
abbrev stD (s : Int × Int) : D := .tup [.int s.1, .int s.2]
theorem tgt_in {N : Nat} {x : D} (g : goodM N x) : 0 ≤ tgt x ∧ tgt x < N := by
  obtain ⟨q, cs, s, t, rfl, _, _, h3, h4, _⟩ := g
  exact ⟨h3, h4⟩
theorem step_at {N : Nat} {ms gs : List D} (hm : ∀ x ∈ ms, goodM N x) {p k : Int} {d : D} (h : stepB ms gs p k d = true) : ∃ (i : Nat) (x : D), d = .int (i : Int) ∧ ms[i]? = some x ∧ mvHit p k x = true ∧ stepTo ms k d = (tgt x, k + shf x) ∧ gs.any (glHit p k) = false := by
  unfold stepB at h
  rw [Bool.and_eq_true, Bool.and_eq_true] at h
  obtain ⟨h1, h2, h3⟩ := h
  obtain ⟨i, rfl⟩ : ∃ i, d = .int i := by cases d <;> first | exact ⟨_, rfl⟩ | cases h1
  have h1 : (decide (0 ≤ i) && decide (i < ms.length)) = true := h1
  rw [Bool.and_eq_true] at h1
  have i0 := of_decide_eq_true h1.1
  have i1 := of_decide_eq_true h1.2
  obtain ⟨j, rfl⟩ : ∃ j : Nat, i = (j : Int) := ⟨i.toNat, by omega⟩
  have e : ms[((j : Int)).toNat]? = some (ms[j]'(by omega)) := by
    rw [Int.toNat_natCast]
    exact List.getElem?_eq_getElem (by omega)
  simp only [e] at h3
  exact ⟨j, _, rfl, List.getElem?_eq_getElem (by omega), h3, by unfold stepTo; simp only [e], notT h2⟩
theorem walk_in {N : Nat} {ms gs : List D} (hm : ∀ x ∈ ms, goodM N x) : ∀ {its : List D} {p k : Int}, 0 ≤ p → p < N → ∀ s ∈ walkS ms gs p k its, 0 ≤ s.1 ∧ s.1 < N
  | [], p, k, h0, h1, s, hs => by
    rw [walkS] at hs
    rw [List.mem_singleton.mp hs]
    exact ⟨h0, h1⟩
  | d :: r, p, k, h0, h1, s, hs => by
    rw [walkS] at hs
    split at hs
    · rename_i hb
      rcases List.mem_cons.mp hs with rfl | hs
      · exact ⟨h0, h1⟩
      · obtain ⟨i, x, rfl, hx, _, e, _⟩ := step_at hm hb
        obtain ⟨a, b⟩ := tgt_in (hm x (List.mem_of_getElem? hx))
        exact walk_in hm (by rw [e]; exact a) (by rw [e]; exact b) s hs
    · rw [List.mem_singleton.mp hs]
      exact ⟨h0, h1⟩
theorem walk_len {ms gs : List D} : ∀ {its : List D} {p k : Int}, 0 < (walkS ms gs p k its).length ∧ (walkS ms gs p k its).length ≤ its.length + 1
  | [], p, k => by rw [walkS]; exact ⟨Nat.succ_pos _, Nat.le_refl _⟩
  | d :: r, p, k => by
    rw [walkS]
    split
    · have := (walk_len (ms := ms) (gs := gs) (its := r) (p := (stepTo ms k d).1) (k := (stepTo ms k d).2)).2
      rw [List.length_cons, List.length_cons]
      omega
    · rw [List.length_cons, List.length_cons]
      exact ⟨Nat.succ_pos _, by simp⟩
def fwStates (ad : Str → Addr) : FW := fun ds m Q => ∃ (ss ms gs : List D) (p n : Int) (row : D) (its : List D), ds = [bookO ad ss ms gs, .int p, .int n, row] ∧ GoodB 60 ss ms gs ∧ 0 ≤ p ∧ p < ss.length ∧ (row = .lst its ∨ row = .tup its) ∧ (∀ x ∈ its, x.known (csB ad) = true) ∧ its.length ≤ 1000 ∧ Q (.lst ((walkS ms gs p n its).map stD)) m
def sdI (ss : List D) (p : Int) : Int := match ss[p.toNat]? with
  | some (.int s) => s
  | _ => 0
def endE (ss ms gs : List D) (p n : Int) : D := if gs.any (glHit p n) = true then .int 0 else if (openF p n 0 ms).isEmpty = true then .int (1 - sdI ss p) else .non
def endC (ms gs : List D) (p n : Int) : List D := if gs.any (glHit p n) = true then [] else if (openF p n 0 ms).isEmpty = true then [] else openF p n 0 ms
def endT (ss ms gs : List D) (p n : Int) : D := if gs.any (glHit p n) = true then .non else if (openF p n 0 ms).isEmpty = true then .non else .int (sdI ss p)
def fwEnd (ad : Str → Addr) : FW := fun ds m Q => ∃ (ss ms gs : List D) (p n : Int), ds = [bookO ad ss ms gs, .tup [.int p, .int n]] ∧ GoodB 60 ss ms gs ∧ 0 ≤ p ∧ p < ss.length ∧ Q (.tup [endE ss ms gs p n, .tup (endC ms gs p n)]) m
theorem side_at {ss : List D} (hs : ∀ x ∈ ss, isSide x) {p : Int} (h0 : 0 ≤ p) (h1 : p < ss.length) : atI ss p = some (.int (sdI ss p)) := by
  have hl : p.toNat < ss.length := by omega
  refine atI_pos h0 ?_
  unfold sdI
  rw [List.getElem?_eq_getElem hl]
  rcases hs _ (List.getElem_mem hl) with e | e <;> rw [e]
section
variable {P : Program} {w : World} {K : PySem.W.Frag} {TT : List (Addr × Str)} {mg : Str → Option Value} {base : Heap} {ad : Str → Addr}
abbrev s_by_place : Stmt := topS 33
theorem sc_by_place : FnScope ["rules", "places", "rows", "place", "rule"] ["rules", "places"] (defScope s_by_place) := ⟨rfl, rfl, rfl, by decide +kernel, rfl, by decide +kernel, by decide +kernel⟩
theorem ok_by_place {f : Addr} {fd : FuncData} (F : Fun K "by_place" "by_place" s_by_place f fd) {lev : Lev} (T : TB K mg ad) : FnG false P w K mg base CX0 1 f fd ["rules", "places"] (spD K TT (fwByPl ad)) := by
  refine fn_data (k := 0) F sc_by_place (fun ds m Q h => ?_) (fun cdv A outer s H E p cc B hr hgs hcd => (dss_rowsBy (i := 2) (jx := 3) (own := [("place", 3)]) sc_by_place.nd rfl rfl rfl rfl PassesOwn.never (di_range1 (by rfl) T.b_range (da_cons (de_var 1) da_nil)) (blkOk_by (own := [("place", 3)]) (N := ["rules", "places", "rows", "place", "rule"]) (sc := defScope s_by_place) (by decide +kernel)) (fun _ _ _ _ _ => (dg_name (i := 3) sc_by_place.nd rfl (by first | exact Or.inl rfl | exact Or.inr rfl))) (by decide) (di_seq (de_var 0)) (dg_name (i := 4) sc_by_place.nd rfl (by first | exact Or.inl rfl | exact Or.inr rfl)) (by decide) (de_fld (K := K) rfl (de_var 4)) (de_var 4) (fun _ _ h1 h2 => pe_bm PySem.F.plainAttrs_list PySem.F.slot_list_append PySem.F.type_list_append mt_append (pe_ix ix_seq (pv 2) h1 (fun _ _ => rfl)) (pa_cons h2 pa_nil))
    (dss_one (ds_ret (de_var 2))))) fun ds m Q h => ?_
  · obtain ⟨rules, xs, n, rfl, _⟩ := h
    rfl
  · obtain ⟨rules, xs, n, rfl, hr, hn, hl, hx, hQ⟩ := h
    have noo : ∀ c3 c4 : Cell, (∀ es, c3 ≠ .own es) → (∀ es, c4 ≠ .own es) → NoOwn [.dat rules, .dat (.int (n : Int)), .un, c3, c4] := fun c3 c4 h3 h4 j es e => by
      match j, e with
      | 0, e => cases e
      | 1, e => cases e
      | 2, e => cases e
      | 3, e => exact h3 es (Option.some.inj e)
      | 4, e => exact h4 es (Option.some.inj e)
    have key : wRowsBy 2 (wRng1 (wCons (wVar 1) wNil)) (wSeqI (wVar 0)) (gN 4) (wFld K "place" (wVar 4)) (wVar 4) (wRet (wVar 2)) { nx := fun _ m => Q .non m, rt := Q } [.dat rules, .dat (.int (n : Int)), .un, .un, .un] m := by
      refine ⟨noo _ _ (fun _ z => nomatch z) (fun _ z => nomatch z), (show 2 < 5 by decide), ⟨by omega, by omega⟩, by rw [rngD_len]; omega, ?_⟩
      have inner : ∃ I : Nat → List (List D) → DW.Env → Nat → Prop, I 0 (List.replicate (rngD 0 (n : Int)).length []) [.dat rules, .dat (.int (n : Int)), .un, .un, .un] m ∧ (∀ j rs ρ' m', I j rs ρ' m' → NoOwn ρ') ∧
          (∀ j d rs ρ' m', xs[j]? = some d → I j rs ρ' m' → gN 4 d ρ' fun ρ2 => NoOwn ρ2 ∧ wFld K "place" (wVar 4) ρ2 m' fun k m3 => ∃ (kk : Nat) (r : List D), k = .int (kk : Int) ∧ rs[kk]? = some r ∧ r.length < 10000000 ∧ wVar 4 ρ2 m3 fun y m4 => I (j + 1) (rs.set kk (r ++ [y])) ρ2 m4) ∧
          ∀ rs ρ' m', I xs.length rs ρ' m' → wRet (wVar 2) { nx := fun _ m => Q .non m, rt := Q } (ρ'.set 2 (.dat (.lst (rs.map D.lst)))) m' := by
        refine ⟨fun j rs ρ' m' => (∃ c4 : Cell, ρ' = [.dat rules, .dat (.int (n : Int)), .un, .un, c4] ∧ ∀ es, c4 ≠ .own es) ∧ m' = m ∧ rs = rowsOf n (xs.take j), ⟨⟨_, rfl, fun _ z => nomatch z⟩, rfl, ?_⟩, ?_, ?_, ?_⟩
        · rw [rngD_len]
          refine List.ext_getElem? fun j => ?_
          by_cases hj : j < n
          · rw [rowsOf_at hj, List.getElem?_replicate, if_pos hj]
            rfl
          · rw [List.getElem?_eq_none (by rw [List.length_replicate]; omega), List.getElem?_eq_none (by rw [rowsOf, List.length_map, List.length_range]; omega)]
        · rintro j rs ρ' m' ⟨⟨c4, rfl, h4⟩, _⟩
          exact noo _ _ (fun _ z => nomatch z) h4
        · rintro j d rs ρ' m' hd ⟨⟨c4, rfl, h4⟩, rfl, rfl⟩
          obtain ⟨C, fs, p, rfl, hC, hp, p0, p1⟩ := hx d (List.mem_of_getElem? hd)
          obtain ⟨k, rfl⟩ : ∃ k : Nat, p = (k : Int) := ⟨p.toNat, by omega⟩
          have cl : Cls K C ∧ NoAttr K C "place" := by
            rcases hC with rfl | rfl
            · exact ⟨T.cl "Move" (by decide), T.na ("Move", "place") (by decide)⟩
            · exact ⟨T.cl "Goal" (by decide), T.na ("Goal", "place") (by decide)⟩
          have pe : plc (.obj C fs) = (k : Int) := by
            show (match fs.lookup ("place" : Str) with | some (.int p) => p | _ => -1) = _
            rw [hp]
          refine ⟨noo _ _ (fun _ z => nomatch z) (fun _ z => nomatch z), C, fs, _, rfl, cl.1, cl.2, hp, k, _, rfl, rowsOf_at (by omega), ?_, ⟨_, rfl, fun _ z => nomatch z⟩, rfl, ?_⟩
          · have := List.length_filter_le (fun d => plc d == (k : Int)) (xs.take j)
            rw [List.length_take] at this
            omega
          · rw [rowsOf_snoc pe (by omega), List.take_add_one, hd]
            rfl
        · rintro rs ρ' m' ⟨⟨c4, rfl, h4⟩, rfl, rfl⟩
          rw [List.take_length]
          exact hQ
      rcases hr with rfl | rfl
      · exact inner
      · exact inner
    exact key
abbrev s_some_holds : Stmt := topS 34
theorem sc_some_holds : FnScope ["goals", "n", "goal"] ["goals", "n"] (defScope s_some_holds) := ⟨rfl, rfl, rfl, by decide +kernel, rfl, by decide +kernel, by decide +kernel⟩
theorem ok_some_holds {f : Addr} {fd : FuncData} (F : Fun K "some_holds" "some_holds" s_some_holds f fd) (T : TB K mg ad) (f_all_hold : DFn false P w K TT mg base 3 "all_hold" fwAllH) : FnG false P w K mg base CX0 4 f fd ["goals", "n"] (spD K TT (fwSomeH ad)) := by
  refine fn_data (k := 3) F sc_some_holds (fun ds m Q h => ?_) (fun cdv A outer s H E p cc B hr hgs hcd => (dss_cons (ds_for PassesOwn.never rfl (di_seq (de_var 0)) (dg_name (i := 2) sc_some_holds.nd rfl (by first | exact Or.inl rfl | exact Or.inr rfl))
    (dss_one (ds_if (dt_val (de_call f_all_hold hr nog (by decide) (by rfl) (da_cons (de_fld (K := K) rfl (de_var 2)) (da_cons (de_var 1) da_nil))))
    (dss_one (ds_ret de_bl))
    dss_nil)))
    (dss_one (ds_ret de_bl)))) fun ds m Q h => ?_
  · obtain ⟨xs, n, rfl, _⟩ := h
    rfl
  · obtain ⟨xs, n, rfl, hx, hQ⟩ := h
    have cg := T.cl "Goal" (by decide)
    refine ⟨fun i ρ m' => (∃ c2, ρ = [.dat (.lst xs), .dat (.int n), c2]) ∧ m' = m ∧ (xs.take i).any (gHold n) = false, ⟨⟨_, rfl⟩, rfl, rfl⟩, ?_, ?_⟩
    · rintro i x ρ m' hi ⟨⟨c2, rfl⟩, rfl, hA⟩
      obtain ⟨N, y, rfl, q, cs, rfl, _, _, hc, _⟩ := hx x (List.mem_of_getElem? hi)
      refine ⟨_, _, _, rfl, cg, T.na ("Goal", "conditions") (by decide), rfl, _, cs, n, rfl, .inr rfl, cin_of hc, ite_yn (fun z => ?_) fun z => ?_⟩
      · have : xs.any (gHold n) = true := List.any_eq_true.mpr ⟨_, List.mem_of_getElem? hi, z⟩
        rw [this] at hQ
        exact hQ
      · refine ⟨⟨_, rfl⟩, rfl, ?_⟩
        rw [List.take_add_one, hi, List.any_append, hA]
        show (false || (allH n cs || false)) = false
        rw [z]
        rfl
    · rintro ρ m' ⟨⟨c2, rfl⟩, rfl, hA⟩
      rw [List.take_length] at hA
      rw [hA] at hQ
      exact hQ
end
end DW

namespace DW
open PySem PySem.Spec L2

theorem goals_row {ad : Str → Addr} {N n : Nat} {gs : List D} {p : Int} (h0 : 0 ≤ p) (h1 : p < n) : atI ((rowsOf n (gs.map (glOf ad))).map D.lst) p = some (.lst ((gs.map (glOf ad)).filter fun d => plc d == p)) := by
  obtain ⟨k, rfl⟩ : ∃ k : Nat, p = (k : Int) := ⟨p.toNat, by omega⟩
  refine atI_pos h0 ?_
  rw [Int.toNat_natCast, List.getElem?_map, rowsOf_at (by omega)]
  rfl
theorem goals_good {ad : Str → Addr} {N : Nat} {gs : List D} (h : ∀ x ∈ gs, goodG N x) {f : D → Bool} : ∀ x ∈ (gs.map (glOf ad)).filter f, ∃ N y, x = glOf ad y ∧ goodG N y := fun x hx => by
  obtain ⟨y, hy, rfl⟩ := List.mem_map.mp (List.mem_filter.mp hx).1
  exact ⟨N, y, rfl, h y hy⟩
theorem walk_stop {ms gs : List D} {p k : Int} {d : D} {r : List D} (h : stepB ms gs p k d = false) : walkS ms gs p k (d :: r) = [(p, k)] := by
  rw [walkS, if_neg (by rw [h]; decide)]
theorem walk_go {ms gs : List D} {p k : Int} {d : D} {r : List D} (h : stepB ms gs p k d = true) : walkS ms gs p k (d :: r) = (p, k) :: walkS ms gs (stepTo ms k d).1 (stepTo ms k d).2 r := by
  rw [walkS, if_pos h]
section
variable {P : Program} {w : World} {K : PySem.W.Frag} {TT : List (Addr × Str)} {mg : Str → Option Value} {base : Heap} {ad : Str → Addr}
abbrev s__states : Stmt := topS 41
theorem sc__states : FnScope ["book", "place", "n", "moves", "goals", "states", "item", "move"] ["book", "place", "n", "moves"] (defScope s__states) := ⟨rfl, rfl, rfl, by decide +kernel, rfl, by decide +kernel, by decide +kernel⟩
theorem ok__states {f : Addr} {fd : FuncData} (F : Fun K "_states" "_states" s__states f fd) {lev : Lev} (T : TB K mg ad) (f_by_place : DFn false P w K TT mg base 1 "by_place" (fwByPl ad)) (f_is_index : DFn false P w K TT mg base 2 "is_index" (fwIndex (csB ad))) (f_some_holds : DFn false P w K TT mg base 4 "some_holds" (fwSomeH ad)) (f_all_hold : DFn false P w K TT mg base 3 "all_hold" fwAllH) (E0 : EqE P w K TT mg base lev 0) (N0 : NeE K lev) : FnG false P w K mg base CX0 5 f fd ["book", "place", "n", "moves"] (spD K TT (fwStates ad)) := by
  refine fn_data (k := 4) F sc__states (fun ds m Q h => ?_) (fun cdv A outer s H E p cc B hr hgs hcd => (dss_cons (ds_set (i := 4) sc__states.nd rfl (by first | exact Or.inl rfl | exact Or.inr rfl) (de_call f_by_place hr nog (by decide) (by rfl) (da_cons (de_fld (K := K) rfl (de_var 0)) (da_cons (de_fld (K := K) rfl (de_var 0)) da_nil))))
    (dss_cons (ds_setO (i := 5) sc__states.nd rfl (by first | exact Or.inl rfl | exact Or.inr rfl) (dl_lst (da_cons (de_tup (da_cons (de_var 1) (da_cons (de_var 2) da_nil))) da_nil)))
    (dss_cons (ds_for PassesOwn.never rfl (di_seq (de_var 3)) (dg_name (i := 6) sc__states.nd rfl (by first | exact Or.inl rfl | exact Or.inr rfl))
    (dss_cons (ds_if (DTw.dt (dtw_or (dt_not (dt_val (de_call f_is_index hr nog (by decide) (by rfl) (da_cons (de_var 6) (da_cons (de_callB call_len rd_len (by rfl) T.b_len (by decide +kernel) (da_cons (de_fld (K := K) rfl (de_var 0)) da_nil)) da_nil))))) (dtw_or1 (dt_val (de_call f_some_holds hr nog (by decide) (by rfl) (da_cons (de_sub2 hr (de_var 4) (de_var 1) (fun _ _ => rfl)) (da_cons (de_var 2) da_nil)))))))
    (dss_one (ds_frz 5 (ds_ret (de_var 5))))
    dss_nil)
    (dss_cons (ds_set (i := 7) sc__states.nd rfl (by first | exact Or.inl rfl | exact Or.inr rfl) (de_sub2 hr (de_fld (K := K) rfl (de_var 0)) (de_var 6) (fun _ _ => rfl)))
    (dss_cons (ds_if (DTw.dt (dtw_or (dt_neX (n := 0) E0 N0 hr (by decide) (de_fld (K := K) rfl (de_var 7)) (de_var 1)) (dtw_or1 (dt_not (dt_val (de_call f_all_hold hr nog (by decide) (by rfl) (da_cons (de_fld (K := K) rfl (de_var 7)) (da_cons (de_var 2) da_nil))))))))
    (dss_one (ds_frz 5 (ds_ret (de_var 5))))
    dss_nil)
    (dss_cons (ds_set (i := 1) sc__states.nd rfl (by first | exact Or.inl rfl | exact Or.inr rfl) (de_fld (K := K) rfl (de_var 7)))
    (dss_cons (ds_set (i := 2) sc__states.nd rfl (by first | exact Or.inl rfl | exact Or.inr rfl) (de_add (de_var 2) (de_fld (K := K) rfl (de_var 7))))
    (dss_one (ds_append (i := 5) (fun _ h => pe_bm PySem.F.plainAttrs_list PySem.F.slot_list_append PySem.F.type_list_append mt_append (pv 5) (pa_cons h pa_nil)) (de_tup (da_cons (de_var 1) (da_cons (de_var 2) da_nil)))))))))))
    (dss_one (ds_frz 5 (ds_ret (de_var 5)))))))) fun ds m Q h => ?_
  · obtain ⟨ss, ms, gs, p, n, row, its, rfl, _⟩ := h
    rfl
  · obtain ⟨ss, ms, gs, p, n, row, its, rfl, G, p0, p1, hr, hk, hl, hQ⟩ := h
    have cb := T.cl "Book" (by decide)
    have cm := T.cl "Move" (by decide)
    have s4 := G.s4
    have gl := G.gl
    have body : ∀ rowc : D, (rowc = .lst its ∨ rowc = .tup its) → True := fun _ _ => trivial
    refine ⟨_, _, _, rfl, cb, T.na ("Book", "goals") (by decide), rfl, _, _, _, rfl, cb, T.na ("Book", "places") (by decide), rfl, _, _, ss.length, rfl, .inr rfl, by omega, by rw [List.length_map]; omega, fun x hx => ?_, ?_⟩
    · obtain ⟨y, hy, rfl⟩ := List.mem_map.mp hx
      obtain ⟨q, cs, rfl, q0, q1, _⟩ := G.hg y hy
      exact ⟨_, _, q, rfl, .inr rfl, rfl, q0, q1⟩
    rcases hr with rfl | rfl
    all_goals
      refine ⟨(show 2 ≤ sizeLine by decide), (show 1 ≤ sizeLine by decide), ?_⟩
      refine ⟨fun i ρ m' => (∃ (pi ni : Int) (pre : List (Int × Int)) (c6 c7 : Cell), ρ = [.dat (bookO ad ss ms gs), .dat (.int pi), .dat (.int ni), ρ.getD 3 .un, .dat (.lst ((rowsOf ss.length (gs.map (glOf ad))).map D.lst)), .own (.lst ((pre ++ [(pi, ni)]).map stD)), c6, c7] ∧ ρ.getD 3 .un = .dat _ ∧ 0 ≤ pi ∧ pi < ss.length ∧ pre.length = i ∧ walkS ms gs p n its = pre ++ walkS ms gs pi ni (its.drop i)) ∧ m' = m, ⟨⟨p, n, [], _, _, rfl, rfl, p0, p1, rfl, rfl⟩, rfl⟩, ?_, ?_⟩
      · rintro i d ρ m' hi ⟨⟨pi, ni, pre, c6, c7, e1, e2, pi0, pi1, hpl, hw⟩, rfl⟩
        rw [e2] at e1
        subst e1
        have il : i < its.length := (List.getElem?_eq_some_iff.mp hi).1
        rw [List.drop_eq_getElem_cons il, show its[i] = d from (List.getElem?_eq_some_iff.mp hi).2] at hw
        have stop : stepB ms gs pi ni d = false → Q (.lst ((pre ++ [(pi, ni)]).map stD)) m' := fun h => by
          rw [walk_stop h] at hw
          rw [hw] at hQ
          exact hQ
        have kd := hk d (List.mem_of_getElem? hi)
        refine ⟨_, _, _, rfl, cb, T.na ("Book", "moves") (by decide), rfl, d, _, rfl, kd, ?_⟩
        rw [List.length_map]
        refine ite_yn (fun z => ?_) fun z => ?_
        · exact stop (by unfold stepB; rw [notT z, Bool.false_and])
        have z := notF z
        obtain ⟨v, rfl⟩ : ∃ v, d = .int v := by cases d <;> first | exact ⟨_, rfl⟩ | cases z
        have zz : (decide (0 ≤ v) && decide (v < ms.length)) = true := z
        rw [Bool.and_eq_true] at zz
        have v0 := of_decide_eq_true zz.1
        have v1 := of_decide_eq_true zz.2
        obtain ⟨j, rfl⟩ : ∃ j : Nat, v = (j : Int) := ⟨v.toNat, by omega⟩
        have hj : ms[j]? = some (ms[j]'(by omega)) := List.getElem?_eq_getElem (by omega)
        generalize ms[j]'(by omega) = x at hj
        have hg := G.hm x (List.mem_of_getElem? hj)
        have sB : stepB ms gs pi ni (.int (j : Int)) = (!gs.any (glHit pi ni) && mvHit pi ni x) := by
          unfold stepB
          rw [z, Bool.true_and]
          simp only [Int.toNat_natCast, hj]
        refine .inl ⟨_, goals_row (N := ss.length) pi0 pi1, _, ni, rfl, goals_good G.hg, ?_⟩
        rw [some_eq G.hg]
        refine ite_yn (fun y => ?_) fun y => ?_
        · exact stop (by rw [sB, y]; rfl)
        have hgo : ms[j]? = some x := hj
        obtain ⟨q, cs, s, t, rfl, q0, q1, t0, t1, hcs, _⟩ := hg
        refine ⟨_, _, _, rfl, cb, T.na ("Book", "moves") (by decide), rfl, .inl ⟨_, atI_pos (by omega) (by rw [Int.toNat_natCast, List.getElem?_map, hj]; rfl), ?_⟩⟩
        refine ⟨_, _, _, rfl, cm, T.na ("Move", "place") (by decide), rfl, rfl, Nat.zero_le _, ite_yn (fun u => ?_) fun u => ?_⟩
        · refine stop ?_
          rw [sB, y]
          show (q == pi && allH ni cs) = false
          rw [show (q == pi) = false from notT u, Bool.false_and]
        have u : (q == pi) = true := notF u
        refine ⟨_, _, _, rfl, cm, T.na ("Move", "conditions") (by decide), rfl, _, cs, ni, rfl, .inr rfl, cin_of hcs, ite_yn (fun v => ?_) fun v => ?_⟩
        · refine stop ?_
          rw [sB, y]
          show (q == pi && allH ni cs) = false
          rw [notT v, Bool.and_false]
        have v := notF v
        have go : stepB ms gs pi ni (.int (j : Int)) = true := by
          rw [sB, y]
          show (q == pi && allH ni cs) = true
          rw [u, v]
          rfl
        obtain ⟨i', x', e1, hx', _, eT, _⟩ := step_at G.hm go
        obtain rfl : j = i' := by
          injection e1 with e1
          omega
        rw [hj] at hx'
        cases hx'
        rw [walk_go go, eT] at hw
        refine ⟨_, _, _, rfl, cm, T.na ("Move", "target") (by decide), rfl, _, _, _, rfl, cm, T.na ("Move", "shift") (by decide), rfl, (show 2 ≤ sizeLine by decide), by rw [List.length_map, List.length_append, hpl]; show i + 1 < 10000000; omega, ?_⟩
        refine ⟨⟨t, ni + s, pre ++ [(pi, ni)], .dat (.int (j : Int)), .dat (mvOf ad (.tup [.int q, .tup cs, .int s, .int t])), ?_, rfl, t0, t1, by rw [List.length_append, hpl]; rfl, by rw [hw, List.append_assoc]; rfl⟩, rfl⟩
        rw [List.map_append (l₁ := pre ++ [(pi, ni)])]
        rfl
      · rintro ρ m' ⟨⟨pi, ni, pre, c6, c7, e1, e2, pi0, pi1, hpl, hw⟩, rfl⟩
        rw [e2] at e1
        subst e1
        rw [List.drop_length, walkS] at hw
        rw [hw] at hQ
        exact hQ
abbrev s__end : Stmt := topS 42
theorem sc__end : FnScope ["book", "state", "place", "n", "goal", "choices"] ["book", "state"] (defScope s__end) := ⟨rfl, rfl, rfl, by decide +kernel, rfl, by decide +kernel, by decide +kernel⟩
theorem ok__end {f : Addr} {fd : FuncData} (F : Fun K "_end" "_end" s__end f fd) {lev : Lev} (T : TB K mg ad) (f_some_holds : DFn false P w K TT mg base 4 "some_holds" (fwSomeH ad)) (f_open_moves : DFnX P w K TT mg base 5 "open_moves" (fwOpen ad)) (E0 : EqE P w K TT mg base lev 0) (N0 : NeE K lev) : FnG false P w K mg base CX0 6 f fd ["book", "state"] (spD K TT (fwEnd ad)) := by
  refine fn_data (k := 5) F sc__end (fun ds m Q h => ?_) (fun cdv A outer s H E p cc B hr hgs hcd => (dss_cons (ds_asg (de_var 1) (dg_tup (n := 2) rfl (dgs_cons (dg_name (i := 2) sc__end.nd rfl (by first | exact Or.inl rfl | exact Or.inr rfl)) (dgs_cons (dg_name (i := 3) sc__end.nd rfl (by first | exact Or.inl rfl | exact Or.inr rfl)) dgs_nil))))
    (dss_cons (ds_if (dt_val (de_call f_some_holds hr nog (by decide) (by rfl) (da_cons (DL.de (dl_lc (own := [("goal", 4)]) rfl sc__end.nd (di_seq (de_fld (K := K) rfl (de_var 0))) (blkOk_by (own := [("goal", 4)]) (N := ["book", "state", "place", "n", "goal", "choices"]) (sc := defScope s__end) (by decide +kernel)) (fun _ _ _ _ _ => (dg_name (i := 4) sc__end.nd rfl (by first | exact Or.inl rfl | exact Or.inr rfl))) (by decide) (fun _ _ _ _ _ => (dts_one (dt_eqX (n := 0) E0 hr (by decide) (de_fld (K := K) rfl (de_var 4)) (de_var 2)))) (fun _ _ _ _ _ => (de_var 4)))) (da_cons (de_var 3) da_nil))))
    (dss_one (ds_ret (de_tup (da_cons de_int (da_cons (de_tup da_nil) da_nil)))))
    dss_nil)
    (dss_cons (ds_set (i := 5) sc__end.nd rfl (by first | exact Or.inl rfl | exact Or.inr rfl) (de_callX0 f_open_moves hr (by decide) (by rfl) (da_cons (de_var 0) (da_cons (de_var 2) (da_cons (de_var 3) da_nil)))))
    (dss_cons (ds_if (dt_not (dt_truth (de_var 5)))
    (dss_one (ds_ret (de_tup (da_cons (de_sub de_int (de_sub2 hr (de_fld (K := K) rfl (de_var 0)) (de_var 2) (fun _ _ => rfl))) (da_cons (de_tup da_nil) da_nil)))))
    dss_nil)
    (dss_one (ds_ret (de_tup (da_cons de_non (da_cons (de_var 5) da_nil)))))))))) fun ds m Q h => ?_
  · obtain ⟨ss, ms, gs, p, n, rfl, _⟩ := h
    rfl
  · obtain ⟨ss, ms, gs, p, n, rfl, G, p0, p1, hQ⟩ := h
    have cb := T.cl "Book" (by decide)
    have cg := T.cl "Goal" (by decide)
    have gl := G.gl
    refine ⟨rfl, rfl, _, _, _, rfl, cb, T.na ("Book", "goals") (by decide), rfl, szl (by rw [List.length_map]; omega), fun i acc m' => acc = ((gs.take i).map (glOf ad)).filter (fun d => plc d == p) ∧ m' = m, ⟨rfl, rfl⟩, fun i x acc m' hx hI => ?_, fun acc m' hI => ?_⟩
    · obtain ⟨rfl, rfl⟩ := hI
      rw [List.getElem?_map] at hx
      obtain ⟨y, hy, rfl⟩ := Option.map_eq_some_iff.mp hx
      have gy := G.hg y (List.mem_of_getElem? hy)
      obtain ⟨q, cs, rfl, _⟩ := gy
      refine ⟨_, _, _, rfl, cg, T.na ("Goal", "place") (by decide), rfl, rfl, Nat.zero_le _, ite_yn (fun z => ?_) fun z => ?_⟩
      · refine ⟨?_, rfl⟩
        rw [List.take_add_one, hy, List.map_append, List.filter_append]
        show _ = _ ++ List.filter _ [glOf ad (.tup [.int q, .tup cs])]
        rw [List.filter_cons_of_pos (by exact z)]
        rfl
      · refine ⟨?_, rfl⟩
        rw [List.take_add_one, hy, List.map_append, List.filter_append]
        show _ = _ ++ List.filter _ [glOf ad (.tup [.int q, .tup cs])]
        rw [List.filter_cons_of_neg (by show ¬ (q == p) = true; rw [show (q == p) = false from z]; decide), List.filter_nil, List.append_nil]
    obtain ⟨rfl, rfl⟩ := hI
    rw [List.length_map, List.take_length]
    refine ⟨_, n, rfl, goals_good G.hg, ?_⟩
    rw [some_eq G.hg]
    refine ite_yn (fun z => ?_) fun z => ?_
    · unfold endE endC at hQ
      rw [if_pos z, if_pos z] at hQ
      exact ⟨Nat.zero_le _, (show 2 ≤ sizeLine by decide), hQ⟩
    unfold endE endC at hQ
    have nz : ¬ gs.any (glHit p n) = true := by rw [z]; decide
    rw [if_neg nz, if_neg nz] at hQ
    have ix : (D.int p).isIx ss.length = true := ix_yes p0 p1
    refine ⟨ss, ms, gs, _, _, rfl, G, rfl, rfl, ⟨fun z => (by rw [ix] at z; cases z), fun _ z => (by cases z), fun a b e1 e2 _ => ?_⟩⟩
    cases e1
    cases e2
    refine ite_yn (fun y => ?_) fun y => ?_
    · have y : (openF p n 0 ms).isEmpty = true := by simpa using y
      rw [if_pos y, if_pos y] at hQ
      exact ⟨_, _, _, rfl, cb, T.na ("Book", "sides") (by decide), rfl, .inl ⟨_, side_at G.hs p0 p1, Nat.zero_le _, (show 2 ≤ sizeLine by decide), hQ⟩⟩
    · have y : (openF p n 0 ms).isEmpty = false := by simpa using y
      have ny : ¬ (openF p n 0 ms).isEmpty = true := by rw [y]; decide
      rw [if_neg ny, if_neg ny] at hQ
      exact ⟨(show 2 ≤ sizeLine by decide), hQ⟩
end
end DW

namespace DW
open PySem PySem.Spec L2

def lastS (ms gs : List D) (p k : Int) (its : List D) : Int × Int := (walkS ms gs p k its).getLast?.getD (p, k)
theorem last_at {ms gs : List D} {p k : Int} {its : List D} : (walkS ms gs p k its)[(walkS ms gs p k its).length - 1]? = some (lastS ms gs p k its) := by
  have h := (walk_len (ms := ms) (gs := gs) (its := its) (p := p) (k := k)).1
  unfold lastS
  rw [List.getLast?_eq_getElem?, List.getElem?_eq_getElem (by omega)]
  rfl
theorem atI_last {α : Type} {xs : List α} {x : α} (h0 : 0 < xs.length) (h : xs[xs.length - 1]? = some x) : atI xs (-1) = some x := by
  unfold atI ixN
  rw [if_neg (by decide), if_pos (by omega)]
  show xs[((-1 : Int) + xs.length).toNat]? = _
  rw [show ((-1 : Int) + xs.length).toNat = xs.length - 1 by omega]
  exact h
theorem last_in {N : Nat} {ms gs : List D} (hm : ∀ x ∈ ms, goodM N x) {its : List D} {p k : Int} (h0 : 0 ≤ p) (h1 : p < N) : 0 ≤ (lastS ms gs p k its).1 ∧ (lastS ms gs p k its).1 < N := walk_in hm h0 h1 _ (List.mem_of_getElem? last_at)
abbrev playF (ad : Str → Addr) (ss ms gs : List D) (p k : Int) (its : List D) : List (Str × D) := [("book", bookO ad ss ms gs), ("place", .int p), ("n", .int k), ("moves", .tup its), ("states", .tup ((walkS ms gs p k its).map stD)), ("here", stD (lastS ms gs p k its)),
  ("ended", endE ss ms gs (lastS ms gs p k its).1 (lastS ms gs p k its).2), ("choices", .tup (endC ms gs (lastS ms gs p k its).1 (lastS ms gs p k its).2)), ("turn", endT ss ms gs (lastS ms gs p k its).1 (lastS ms gs p k its).2)]
abbrev playO (ad : Str → Addr) (ss ms gs : List D) (p k : Int) (its : List D) : D := .obj (ad "Play") (playF ad ss ms gs p k its)
/-- all the items are made -/
def Full (ms gs : List D) (p k : Int) (its : List D) : Prop := (walkS ms gs p k its).length = its.length + 1
/-- what a play's last argument comes to -/
def playX (ad : Str → Addr) (ss ms gs : List D) (p k : Int) (mv : D) (ok : List D → Prop) (no : Addr → List (Str × D) → Prop) : Prop :=
  (mv.isRow = false → no (ad "BadRow") [("value", mv)]) ∧ (mv.isRow = true → (∀ x ∈ rows mv, x.known (csB ad) = true) ∧ (rows mv).length ≤ 1000 ∧
    (Full ms gs p k (rows mv) → ok (rows mv)) ∧ ((walkS ms gs p k (rows mv)).length ≤ (rows mv).length → ∀ x, (rows mv)[(walkS ms gs p k (rows mv)).length - 1]? = some x → no (ad "NoMove") [("value", x)]))
def fiPlay (ad : Str → Addr) : FIX := fun ds m Q QX => ∃ ss ms gs d c mv, ds = [bookO ad ss ms gs, d, c, mv] ∧ GoodB 60 ss ms gs ∧ d.known (csB ad) = true ∧ c.known (csB ad) = true ∧ mv.known (csB ad) = true ∧
  askF ad ss.length d c QX m fun p k => playX ad ss ms gs p k mv (fun its => Q (playF ad ss ms gs p k its) m) fun C fs => QX C fs m
def fwGo (ad : Str → Addr) : FWX := fun ds m Q QX => ∃ ss ms gs p k its d, ds = [playO ad ss ms gs p k its, d] ∧ GoodB 60 ss ms gs ∧ 0 ≤ p ∧ p < ss.length ∧ its.length ≤ 900 ∧ (∀ x ∈ its, x.known (csB ad) = true) ∧ d.known (csB ad) = true ∧
  (Full ms gs p k (its ++ [d]) → Q (playO ad ss ms gs p k (its ++ [d])) m) ∧ ((walkS ms gs p k (its ++ [d])).length ≤ its.length + 1 → ∀ x, (its ++ [d])[(walkS ms gs p k (its ++ [d])).length - 1]? = some x → QX (ad "NoMove") [("value", x)] m)
def fwBack (ad : Str → Addr) : FWX := fun ds m Q QX => ∃ ss ms gs p k its, ds = [playO ad ss ms gs p k its] ∧ GoodB 60 ss ms gs ∧ 0 ≤ p ∧ p < ss.length ∧ its.length ≤ 900 ∧ (∀ x ∈ its, x.known (csB ad) = true) ∧
  (its = [] → QX (ad "NoMove") [("value", .non)] m) ∧ (its ≠ [] → Full ms gs p k (its.take (its.length - 1)) ∧ Q (playO ad ss ms gs p k (its.take (its.length - 1))) m)
def fwSince (ad : Str → Addr) : FWX := fun ds m Q QX => ∃ ss ms gs p k its d, ds = [playO ad ss ms gs p k its, d] ∧ GoodB 60 ss ms gs ∧ 0 ≤ p ∧ p < ss.length ∧ its.length ≤ 900 ∧ (∀ x ∈ its, x.known (csB ad) = true) ∧ d.known (csB ad) = true ∧
  (d.isIx (walkS ms gs p k its).length = false → QX (ad "BadNumber") [("value", d), ("what", .str "state")] m) ∧
  ∀ (i : Nat) (s : Int × Int), d = .int (i : Int) → (walkS ms gs p k its)[i]? = some s → Full ms gs s.1 s.2 (its.drop i) ∧ Q (playO ad ss ms gs s.1 s.2 (its.drop i)) m
def fwIsPlay (ad : Str → Addr) : FW := fun ds m Q => ∃ ss ms gs d, ds = [bookO ad ss ms gs, d] ∧ GoodB 60 ss ms gs ∧ d.known (csB ad) = true ∧
  ∃ b, ((b = false ∧ ∀ x y z, d ≠ .tup [x, y, z]) ∨ ∃ x y z, d = .tup [x, y, z] ∧ x.known (csB ad) = true ∧ y.known (csB ad) = true ∧ z.known (csB ad) = true ∧
    ((b = false ∧ (x.isIx ss.length && (y.isWhole && z.isTy "tuple")) = false) ∨ ∃ p k its, x = .int p ∧ y = .int k ∧ z = .tup its ∧ x.isIx ss.length = true ∧ (∀ v ∈ its, v.known (csB ad) = true) ∧ its.length ≤ 1000 ∧ b = decide ((walkS ms gs p k its).length > its.length))) ∧ Q (.bl b) m
theorem len_map {α β : Type} {f : α → β} {xs : List α} : (xs.map f).length = xs.length := List.length_map _
section
variable {P : Program} {w : World} {K : PySem.W.Frag} {TT : List (Addr × Str)} {mg : Str → Option Value} {base : Heap} {ad : Str → Addr}
abbrev s_Play___init__ : Stmt := inClass (topS 40) 0
theorem sc_Play___init__ : FnScope ["self", "book", "place", "n", "moves", "states"] ["self", "book", "place", "n", "moves"] (defScope s_Play___init__) := ⟨rfl, rfl, rfl, by decide +kernel, rfl, by decide +kernel, by decide +kernel⟩
theorem ini_Play {f : Addr} {fd : FuncData} (F : Fun K "__init__" "Play.__init__" s_Play___init__ f fd) (T : TB K mg ad) (f_need_state : DFnX P w K TT mg base 4 "need_state" (fwNeedSt ad)) (f_is_row : DFn false P w K TT mg base 1 "is_row" (fwRow (csB ad))) (f__states : DFn false P w K TT mg base 5 "_states" (fwStates ad)) (f__end : DFn false P w K TT mg base 6 "_end" (fwEnd ad)) (mk_BadRow : MkX P w K mg base "BadRow" (ad "BadRow") ["value"]) (mk_NoMove : MkX P w K mg base "NoMove" (ad "NoMove") ["value"]) : FnOk P w K mg base (L2.CX P w) 9 f fd ["self", "book", "place", "n", "moves"] (spIX K TT (ad "Play") (fiPlay ad)) := by
  refine init_dataX (k := 8) F sc_Play___init__ (fun ds m Q QX h => ?_) (fun cdv A outer s H E p cc B H0 W wx hr tk hW hcd => (dss_cons (ds_expr (de_callX f_need_state tk hW hr (by decide) (by rfl) (da_cons (de_var 1) (da_cons (de_var 2) (da_cons (de_var 3) da_nil)))))
    (dss_cons (ds_if (dt_not (dt_val (de_call f_is_row hr nog (by decide) (by rfl) (da_cons (de_var 4) da_nil))))
    (dss_one (ds_raise mk_BadRow rfl tk hW hr (by decide) (by rfl) (da_cons (de_var 4) da_nil)))
    dss_nil)
    (dss_cons (ds_set (i := 5) sc_Play___init__.nd rfl (by first | exact Or.inl rfl | exact Or.inr rfl) (de_call f__states hr nog (by decide) (by rfl) (da_cons (de_var 1) (da_cons (de_var 2) (da_cons (de_var 3) (da_cons (de_var 4) da_nil))))))
    (dss_cons (ds_if (dt_le (de_callB call_len rd_len (by rfl) T.b_len (by decide +kernel) (da_cons (de_var 5) da_nil)) (de_callB call_len rd_len (by rfl) T.b_len (by decide +kernel) (da_cons (de_var 4) da_nil)))
    (dss_one (ds_raise mk_NoMove rfl tk hW hr (by decide) (by rfl) (da_cons (de_sub2 hr (de_var 4) (de_sub (de_callB call_len rd_len (by rfl) T.b_len (by decide +kernel) (da_cons (de_var 5) da_nil)) de_int) (fun _ _ => rfl)) da_nil)))
    dss_nil)
    (dss_cons (ds_sto (p' := ⟨0, 0, 0, 0⟩) (i := 0) (K := K) rfl rfl (by first | exact Or.inl rfl | exact Or.inr (Or.inl rfl) | exact Or.inr (Or.inr rfl)) (de_var 1))
    (dss_cons (ds_sto (p' := ⟨0, 0, 0, 0⟩) (i := 0) (K := K) rfl rfl (by first | exact Or.inl rfl | exact Or.inr (Or.inl rfl) | exact Or.inr (Or.inr rfl)) (de_var 2))
    (dss_cons (ds_sto (p' := ⟨0, 0, 0, 0⟩) (i := 0) (K := K) rfl rfl (by first | exact Or.inl rfl | exact Or.inr (Or.inl rfl) | exact Or.inr (Or.inr rfl)) (de_var 3))
    (dss_cons (ds_sto (p' := ⟨0, 0, 0, 0⟩) (i := 0) (K := K) rfl rfl (by first | exact Or.inl rfl | exact Or.inr (Or.inl rfl) | exact Or.inr (Or.inr rfl)) (de_callTy call_tuple_of rd_tuple (by rfl) T.b_tuple (by decide +kernel) (da_cons (de_var 4) da_nil)))
    (dss_cons (ds_sto (p' := ⟨0, 0, 0, 0⟩) (i := 0) (K := K) rfl rfl (by first | exact Or.inl rfl | exact Or.inr (Or.inl rfl) | exact Or.inr (Or.inr rfl)) (de_callTy call_tuple_of rd_tuple (by rfl) T.b_tuple (by decide +kernel) (da_cons (de_var 5) da_nil)))
    (dss_cons (ds_sto (p' := ⟨0, 0, 0, 0⟩) (i := 0) (K := K) rfl rfl (by first | exact Or.inl rfl | exact Or.inr (Or.inl rfl) | exact Or.inr (Or.inr rfl)) (de_sub2 hr (de_var 5) (de_neg de_int) (fun _ _ => rfl)))
    (dss_cons (ds_sto2 (i := 0) (K := K) rfl rfl rfl (by first | exact Or.inl rfl | exact Or.inr (Or.inl rfl) | exact Or.inr (Or.inr rfl)) (de_call f__end hr nog (by decide) (by rfl) (da_cons (de_var 1) (da_cons (de_sub2 hr (de_var 5) (de_neg de_int) (fun _ _ => rfl)) da_nil))))
    (dss_one (ds_sto (p' := ⟨0, 0, 0, 0⟩) (i := 0) (K := K) rfl rfl (by first | exact Or.inl rfl | exact Or.inr (Or.inl rfl) | exact Or.inr (Or.inr rfl)) (de_ifExp (dt_isN (de_fldOwn 0 (K := K) rfl rfl (by first | exact Or.inl rfl | exact Or.inr (Or.inl rfl) | exact Or.inr (Or.inr rfl)))) (de_sub2 hr (de_fld (K := K) rfl (de_var 1)) (de_sub2 hr (de_sub2 hr (de_var 5) (de_neg de_int) (fun _ _ => rfl)) de_int (fun _ _ => rfl)) (fun _ _ => rfl)) de_non))))))))))))))) fun x ds m Q QX h => ?_
  · obtain ⟨ss, ms, gs, d, c, mv, rfl, _⟩ := h
    rfl
  · obtain ⟨ss, ms, gs, d, c, mv, rfl, G, hd, hc, hmv, f1, f2, f3⟩ := h
    have cb := T.cl "Book" (by decide)
    have cl := T.cl "Play" (by decide)
    refine ⟨_, _, d, c, rfl, rfl, hd, hc, ite_yn (fun z => ite_yn (fun y => ?_) fun y => f2 z y) fun z => f1 z⟩
    obtain ⟨p, rfl⟩ : ∃ p, d = .int p := by cases d <;> first | exact ⟨_, rfl⟩ | cases z
    obtain ⟨k, rfl⟩ : ∃ k, c = .int k := by cases c <;> first | exact ⟨_, rfl⟩ | cases y
    obtain ⟨h1, h2⟩ := f3 p k rfl rfl z
    have zz : (decide (0 ≤ p) && decide (p < ss.length)) = true := z
    rw [Bool.and_eq_true] at zz
    have p0 := of_decide_eq_true zz.1
    have p1 := of_decide_eq_true zz.2
    refine ⟨mv, rfl, hmv, ite_yn (fun q => ⟨rfl, h1 (notT q)⟩) fun q => ?_⟩
    have q := notF q
    obtain ⟨g1, g2, g3, g4⟩ := h2 q
    obtain ⟨its, hr⟩ := row_cases q
    rw [rows_eq hr] at g1 g2 g3 g4
    obtain ⟨w1, w2⟩ := walk_len (ms := ms) (gs := gs) (its := its) (p := p) (k := k)
    obtain ⟨l0, l1⟩ := last_in (gs := gs) (k := k) (its := its) G.hm p0 p1
    rcases hr with rfl | rfl
    all_goals
      refine ⟨ss, ms, gs, p, k, _, its, rfl, G, p0, p1, (by first | exact .inl rfl | exact .inr rfl), g1, g2, ?_⟩
      have hlm : ((walkS ms gs p k its).map stD).length = (walkS ms gs p k its).length := len_map
      refine ite_yn (fun u => ?_) fun u => ?_
      · have u : (((walkS ms gs p k its).map stD).length : Int) ≤ its.length := of_decide_eq_true u
        have hl : (walkS ms gs p k its).length - 1 < its.length := by omega
        refine .inl ⟨_, atI_pos (by omega) (by rw [show ((((walkS ms gs p k its).map stD).length : Int) - 1).toNat = (walkS ms gs p k its).length - 1 by omega]; exact List.getElem?_eq_getElem hl), rfl, ?_⟩
        exact g4 (by omega) _ (List.getElem?_eq_getElem hl)
      have u : ¬ (((walkS ms gs p k its).map stD).length : Int) ≤ its.length := of_decide_eq_false u
      have hf : Full ms gs p k its := by unfold Full; omega
      have hQ : Q (playF ad ss ms gs p k its) m := g3 hf
      have lst : atI ((walkS ms gs p k its).map stD) (-1) = some (stD (lastS ms gs p k its)) := atI_last (by rw [len_map]; exact w1) (by rw [len_map, List.getElem?_map, last_at]; rfl)
      refine ⟨cl, T.na ("Play", "book") (by decide), by decide, cl, T.na ("Play", "place") (by decide), (show 1 < 1000 by decide), cl, T.na ("Play", "n") (by decide), (show 2 < 1000 by decide), cl, T.na ("Play", "moves") (by decide), (show 3 < 1000 by decide), cl, T.na ("Play", "states") (by decide), (show 4 < 1000 by decide), ?_⟩
      refine .inl ⟨_, lst, cl, T.na ("Play", "here") (by decide), (show 5 < 1000 by decide), .inl ⟨_, lst, ss, ms, gs, _, _, rfl, G, l0, l1, cl, T.na ("Play", "ended") (by decide), T.na ("Play", "choices") (by decide), (show 6 < 999 by decide), cl, T.na ("Play", "ended") (by decide), _, rfl, ?_⟩⟩
      unfold playF endE endC endT at hQ
      unfold endE endC
      by_cases e1 : gs.any (glHit (lastS ms gs p k its).1 (lastS ms gs p k its).2) = true
      · rw [if_pos e1, if_pos e1, if_pos e1] at hQ
        rw [if_pos e1, if_pos e1]
        exact ⟨cl, T.na ("Play", "turn") (by decide), (show 8 < 1000 by decide), _, rfl, hQ⟩
      · rw [if_neg e1, if_neg e1, if_neg e1] at hQ
        rw [if_neg e1, if_neg e1]
        by_cases e2 : (openF (lastS ms gs p k its).1 (lastS ms gs p k its).2 0 ms).isEmpty = true
        · rw [if_pos e2, if_pos e2, if_pos e2] at hQ
          rw [if_pos e2, if_pos e2]
          exact ⟨cl, T.na ("Play", "turn") (by decide), (show 8 < 1000 by decide), _, rfl, hQ⟩
        · rw [if_neg e2, if_neg e2, if_neg e2] at hQ
          rw [if_neg e2, if_neg e2]
          exact ⟨_, _, _, rfl, cb, T.na ("Book", "sides") (by decide), rfl, .inl ⟨_, lst, .inl ⟨_, atI_pos (by decide) rfl, .inl ⟨_, side_at G.hs l0 l1, cl, T.na ("Play", "turn") (by decide), (show 8 < 1000 by decide), _, rfl, hQ⟩⟩⟩⟩
end
end DW

namespace DW
open PySem PySem.Spec L2
section
variable {P : Program} {w : World} {K : PySem.W.Frag} {TT : List (Addr × Str)} {mg : Str → Option Value} {base : Heap} {ad : Str → Addr}
abbrev s_Play___eq__ : Stmt := inClass (topS 40) 1
theorem sc_Play___eq__ : FnScope ["self", "other"] ["self", "other"] (defScope s_Play___eq__) := ⟨rfl, rfl, rfl, by decide +kernel, rfl, by decide +kernel, by decide +kernel⟩
theorem ok_Play___eq__ {f : Addr} {fd : FuncData} (F : Fun K "__eq__" "Play.__eq__" s_Play___eq__ f fd) (T : TB K mg ad) (E9 : EqE P w K TT mg base (levB ad) 9) : FnG false P w K mg base CX0 10 f fd ["self", "other"] (spD K TT (fwEq (levB ad) (ad "Play"))) := by
  refine fn_data (k := 9) F sc_Play___eq__ (fun ds m Q h => ?_) (fun cdv A outer s H E p cc B hr hgs hcd => (dss_one (ds_ret (de_and (de_isO (K := K) rfl (by rfl) T.b_isinstance (by rfl) T.mg_Play (de_var 1)) (de_and (de_eqX (n := 9) E9 hr (by decide) (de_fld (K := K) rfl (de_var 0)) (de_fld (K := K) rfl (de_var 1))) (de_and (de_eqX (n := 9) E9 hr (by decide) (de_fld (K := K) rfl (de_var 0)) (de_fld (K := K) rfl (de_var 1))) (de_and (de_eqX (n := 9) E9 hr (by decide) (de_fld (K := K) rfl (de_var 0)) (de_fld (K := K) rfl (de_var 1))) (de_one (de_eqX (n := 9) E9 hr (by decide) (de_fld (K := K) rfl (de_var 0)) (de_fld (K := K) rfl (de_var 1))))))))))) fun ds m Q h => ?_
  · obtain ⟨fs, e, rfl, _⟩ := h
    rfl
  · obtain ⟨fs, e, rfl, ok, hQ⟩ := h
    obtain ⟨t, h1, h2⟩ := T.ki.isO (cmp_known ok) (C := ad "Play") (by simp)
    refine ⟨t, _, h1, h2, ?_⟩
    refine ite_yn (fun w => ?_) fun w => ?_
    rotate_left
    · rw [eqb_isO w] at hQ
      exact hQ
    obtain ⟨gs, rfl⟩ := isO_at w
    obtain ⟨c1, c2, c3⟩ := cmp_same ok
    rw [lev_P T] at c2
    have cl := T.cl "Play" (by decide)
    have c5 := c3
    unfold okB at c5
    rw [if_neg (Ne.symm T.np.1), if_neg (Ne.symm T.np.2.1), if_pos rfl] at c5
    obtain ⟨x0, x1, x2, x3, x4, x5, x6, x7, x8, rfl⟩ : ∃ x0 x1 x2 x3 x4 x5 x6 x7 x8, fs = ([("book", x0), ("place", x1), ("n", x2), ("moves", x3), ("states", x4), ("here", x5), ("ended", x6), ("choices", x7), ("turn", x8)] : List (Str × D)) := by
      unfold okP at c5
      split at c5
      · rw [Bool.and_eq_true] at c5
        have c4 := of_decide_eq_true c5.1
        simp only [List.cons.injEq, and_true] at c4
        obtain ⟨rfl, rfl, rfl, rfl, rfl, rfl, rfl, rfl, rfl⟩ := c4
        exact ⟨_, _, _, _, _, _, _, _, _, rfl⟩
      · cases c5
    obtain ⟨y0, hs, rfl, k0, c1⟩ := cmpF_at c1
    obtain ⟨n0, c2⟩ := needF_cons c2
    obtain ⟨y1, hs, rfl, k1, c1⟩ := cmpF_at c1
    obtain ⟨n1, c2⟩ := needF_cons c2
    obtain ⟨y2, hs, rfl, k2, c1⟩ := cmpF_at c1
    obtain ⟨n2, c2⟩ := needF_cons c2
    obtain ⟨y3, hs, rfl, k3, c1⟩ := cmpF_at c1
    obtain ⟨n3, c2⟩ := needF_cons c2
    obtain ⟨y4, hs, rfl, k4, c1⟩ := cmpF_at c1
    obtain ⟨n4, c2⟩ := needF_cons c2
    obtain ⟨y5, hs, rfl, k5, c1⟩ := cmpF_at c1
    obtain ⟨n5, c2⟩ := needF_cons c2
    obtain ⟨y6, hs, rfl, k6, c1⟩ := cmpF_at c1
    obtain ⟨n6, c2⟩ := needF_cons c2
    obtain ⟨y7, hs, rfl, k7, c1⟩ := cmpF_at c1
    obtain ⟨n7, c2⟩ := needF_cons c2
    obtain ⟨y8, hs, rfl, k8, c1⟩ := cmpF_at c1
    obtain ⟨n8, c2⟩ := needF_cons c2
    obtain rfl := cmpF_end c1
    rw [eqb_obj] at hQ
    have hE : eqbF [("book", x0), ("place", x1), ("n", x2), ("moves", x3), ("states", x4), ("here", x5), ("ended", x6), ("choices", x7), ("turn", x8)] [("book", y0), ("place", y1), ("n", y2), ("moves", y3), ("states", y4), ("here", y5), ("ended", y6), ("choices", y7), ("turn", y8)] = (x0.eqb y0 && (x1.eqb y1 && (x2.eqb y2 && x3.eqb y3))) := by
      rw [eqbF_cons, eqbF_cons, eqbF_cons, eqbF_cons, eqbF_cons, eqbF_cons, eqbF_cons, eqbF_cons, eqbF_cons, eqbF, Bool.and_true]
      have c6 : (!(x0.eqb y0 && (x1.eqb y1 && (x2.eqb y2 && x3.eqb y3))) || (x4.eqb y4 && (x5.eqb y5 && (x6.eqb y6 && (x7.eqb y7 && x8.eqb y8))))) = true := by
        rw [okP, Bool.and_eq_true] at c5
        exact c5.2
      have e4 : ∀ a b c d r : Bool, (a && (b && (c && (d && r)))) = ((a && (b && (c && d))) && r) := by decide
      rw [e4]
      generalize (x0.eqb y0 && (x1.eqb y1 && (x2.eqb y2 && x3.eqb y3))) = q at c6
      generalize (x4.eqb y4 && (x5.eqb y5 && (x6.eqb y6 && (x7.eqb y7 && x8.eqb y8)))) = r at c6
      revert c6
      revert q r
      decide
    rw [hE] at hQ
    refine ⟨_, _, x0, rfl, cl, T.na ("Play", "book") (by decide), rfl, _, _, y0, rfl, cl, T.na ("Play", "book") (by decide), rfl, k0, by omega, ?_⟩
    refine ite_yn (fun q => ?_) fun q => ?_
    rotate_left
    · rw [show x0.eqb y0 = false from q, Bool.false_and] at hQ
      exact hQ
    rw [show x0.eqb y0 = true from q, Bool.true_and] at hQ
    refine ⟨_, _, x1, rfl, cl, T.na ("Play", "place") (by decide), rfl, _, _, y1, rfl, cl, T.na ("Play", "place") (by decide), rfl, k1, by omega, ?_⟩
    refine ite_yn (fun q => ?_) fun q => ?_
    rotate_left
    · rw [show x1.eqb y1 = false from q, Bool.false_and] at hQ
      exact hQ
    rw [show x1.eqb y1 = true from q, Bool.true_and] at hQ
    refine ⟨_, _, x2, rfl, cl, T.na ("Play", "n") (by decide), rfl, _, _, y2, rfl, cl, T.na ("Play", "n") (by decide), rfl, k2, by omega, ?_⟩
    refine ite_yn (fun q => ?_) fun q => ?_
    rotate_left
    · rw [show x2.eqb y2 = false from q, Bool.false_and] at hQ
      exact hQ
    rw [show x2.eqb y2 = true from q, Bool.true_and] at hQ
    refine ⟨_, _, x3, rfl, cl, T.na ("Play", "moves") (by decide), rfl, _, _, y3, rfl, cl, T.na ("Play", "moves") (by decide), rfl, k3, by omega, ?_⟩
    exact hQ
end
end DW

namespace DW
open PySem PySem.Spec L2

def digitsS : Str := "0123456789"
def dgs (cs : List Nat) : List Nat := if cs.take 1 = [45] then cs.drop 1 else cs
def isDig (c : Nat) : Bool := decide (c ∈ digitsS.cps.toList)
def numB (cs : List Nat) : Bool := !(dgs cs).isEmpty && (decide ((dgs cs).length ≤ 60) && ((dgs cs).all isDig && !(decide ((dgs cs).head? = some 48) && !decide (cs = [48]))))
/-- the number that a word tells, or None -/
def numD (x : Str) : D := if numB x.cps.toList = true then .int ((PySem.intText? x).getD 0) else .non
def sgB : D → Bool
  | .str z => decide ((z.cps.toList.headD 0) ∈ digitsS.cps.toList)
  | _ => false
def fwNum : FW := fun ds m Q => ∃ x : Str, ds = [.str x] ∧ PyData.strOk x = true ∧ x.length ≤ sizeLine ∧ Q (numD x) m
theorem str_ext {a b : Str} (h : a.cps.toList = b.cps.toList) : a = b := by
  cases a; cases b
  congr 1
  exact Array.ext' h
theorem str_eqb {a : Str} {l : List Nat} {b : Str} (hb : b.cps.toList = l) : (D.str a).eqb (.str b) = decide (a.cps.toList = l) := by
  rw [D.eqb]
  subst hb
  by_cases h : a = b
  · subst h
    simp
  · rw [decide_eq_false fun e => h (str_ext e)]
    simpa using h
theorem cutS_1 (x : Str) : (L2.cutS x none (some (1 : Int))).cps.toList = x.cps.toList.take 1 := by
  rw [cut_str]
  exact cutG_to x.cps.toList 1
theorem cutlen (x : Str) : (L2.cutS x (some (1 : Int)) none).length ≤ x.length := by
  unfold L2.cutS
  show (List.toArray _).size ≤ x.cps.size
  simp
  omega
theorem snoc_all {cs : List Nat} {i c : Nat} (h : cs[i]? = some c) : (cs.take (i + 1)).all isDig = ((cs.take i).all isDig && isDig c) := by
  rw [List.take_add_one, h]
  simp
theorem cutS_r (x : Str) : (L2.cutS x (some (1 : Int)) none).cps.toList = x.cps.toList.drop 1 := by
  rw [cut_str]
  exact cutG_from x.cps.toList 1
theorem digIn : ∀ c ∈ digitsS.cps.toList, 48 ≤ c ∧ c ≤ 57 := by decide +kernel
theorem lstNil_b {xs : List D} : (D.lst xs).eqb (.lst []) = xs.isEmpty := by
  cases xs <;> rw [D.eqb, eqbA] <;> first | rfl | simp
theorem num_int {x : Str} (h1 : dgs x.cps.toList ≠ []) (h2 : (dgs x.cps.toList).length ≤ 60) (h3 : (dgs x.cps.toList).all isDig = true) : ∃ n, PySem.intText? x = some n ∧ x.length ≤ 640 := by
  have hd : PySem.NumText.AllDigits (dgs x.cps.toList) := fun c hc => digIn c (of_decide_eq_true (List.all_eq_true.mp h3 c hc))
  have hl : x.cps.toList.length = x.length := by
    rw [Array.length_toList]
    rfl
  by_cases e : x.cps.toList.take 1 = [45]
  · have e2 : dgs x.cps.toList = x.cps.toList.drop 1 := by rw [dgs, if_pos e]
    have e3 : x.cps.toList = 45 :: dgs x.cps.toList := by
      have t := List.take_append_drop 1 x.cps.toList
      rw [e] at t
      rw [e2]
      exact t.symm
    have hl2 := congrArg List.length e3
    rw [List.length_cons] at hl2
    exact ⟨_, PySem.intText_neg e3 hd h1 (by omega), by omega⟩
  · have e2 : dgs x.cps.toList = x.cps.toList := by rw [dgs, if_neg e]
    rw [e2] at hd h1 h2
    exact ⟨_, PySem.intText_digits hd h1 (by omega), by omega⟩
section
variable {P : Program} {w : World} {K : PySem.W.Frag} {TT : List (Addr × Str)} {mg : Str → Option Value} {base : Heap} {ad : Str → Addr}
abbrev s__law_number_of : Stmt := topS 64
theorem sc__law_number_of : FnScope ["_law_word", "_law_digits", "_law_sign"] ["_law_word"] (defScope s__law_number_of) := ⟨rfl, rfl, rfl, by decide +kernel, rfl, by decide +kernel, by decide +kernel⟩
theorem ok__law_number_of {f : Addr} {fd : FuncData} (F : Fun K "_law_number_of" "_law_number_of" s__law_number_of f fd) (T : TB K mg ad) (E8 : EqE P w K TT mg base (levB ad) 8) (N0 : NeE K (levB ad)) : FnG false P w K mg base CX0 10 f fd ["_law_word"] (spD K TT fwNum) := by
  refine fn_data (k := 9) F sc__law_number_of (fun ds m Q h => ?_) (fun cdv A outer s H E p cc B hr hgs hcd => (dss_cons (ds_set (i := 1) sc__law_number_of.nd rfl (by first | exact Or.inl rfl | exact Or.inr rfl) (de_ifExp (dt_eqX (n := 8) E8 hr (by decide) (de_slice (de_var 0) do_none (do_some de_int)) de_str) (de_slice (de_var 0) (do_some de_int) do_none) (de_var 0)))
    (dss_cons (ds_if (DTw.dt (dtw_or (dt_eqX (n := 8) E8 hr (by decide) (de_var 1) de_str) (dtw_or (dt_gt (de_callB call_len rd_len (by rfl) T.b_len (by decide +kernel) (da_cons (de_var 1) da_nil)) de_int) (dtw_or1 (dt_neX (n := 8) E8 N0 hr (by decide) (DL.de (dl_lc (own := [("_law_sign", 2)]) rfl sc__law_number_of.nd (di_str (de_var 1)) (blkOk_by (own := [("_law_sign", 2)]) (N := ["_law_word", "_law_digits", "_law_sign"]) (sc := defScope s__law_number_of) (by decide +kernel)) (fun _ _ _ _ _ => (dg_name (i := 2) sc__law_number_of.nd rfl (by first | exact Or.inl rfl | exact Or.inr rfl))) (by decide) (fun _ _ _ _ _ => (dts_one (dt_sgnNot (de_var 2) de_str rfl))) (fun _ _ _ _ _ => (de_var 2)))) (de_lst da_nil))))))
    (dss_one (ds_ret de_non))
    dss_nil)
    (dss_one (ds_ret (de_ifExp (DTw.dt (dtw_and (dt_eqX (n := 8) E8 hr (by decide) (de_subS (de_var 1) de_int (fun _ _ => rfl)) de_str) (dtw_and1 (dt_neX (n := 8) E8 N0 hr (by decide) (de_var 0) de_str)))) de_non (de_callTy call_int_str rd_intS (by rfl) T.b_int (by decide +kernel) (da_cons (de_var 0) da_nil)))))))) fun ds m Q h => ?_
  · obtain ⟨x, rfl, _⟩ := h
    rfl
  · obtain ⟨x, rfl, ho, hl, hQ⟩ := h
    refine cutS (k := ?k1) (fun ρ m' => (∃ (d : Str) (c2 : Cell), d.cps.toList = dgs x.cps.toList ∧ PyData.strOk d = true ∧ d.length ≤ sizeLine ∧ ρ = [.dat (.str x), .dat (.str d), c2]) ∧ m' = m) ?b1 fun tail => ?a1
    case a1 =>
      refine ⟨hl, pl_cmp (strOk_cut ho) (show PyData.strOk ("-" : Str) = true by decide +kernel), Nat.zero_le _, ite_yn (fun z => ?_) fun z => ?_⟩
      · refine ⟨hl, ?_⟩
        dsimp only
        refine tail _ _ ?_
        have z : (D.str (L2.cutS x none (some (1 : Int)))).eqb (.str "-") = true := z
        rw [str_eqb (l := [45]) rfl, cutS_1, decide_eq_true_eq] at z
        exact ⟨⟨_, _, by rw [cutS_r, dgs, if_pos z], strOk_cut ho, Nat.le_trans (cutlen x) hl, rfl⟩, rfl⟩
      · refine tail [.dat (.str x), .dat (.str x), .un] m ?_
        have z : (D.str (L2.cutS x none (some (1 : Int)))).eqb (.str "-") = false := z
        rw [str_eqb (l := [45]) rfl, cutS_1, decide_eq_false_iff_not] at z
        exact ⟨⟨x, _, by rw [dgs, if_neg z], ho, hl, rfl⟩, rfl⟩
    rintro ρ m' ⟨⟨d, c2, hd, hdo, hdl, rfl⟩, rfl⟩
    have ln : d.length = (dgs x.cps.toList).length := by
      rw [← hd, Array.length_toList]
      rfl
    refine ⟨pl_cmp hdo (show PyData.strOk ("" : Str) = true by decide +kernel), Nat.zero_le _, ?_⟩
    rw [str_eqb (l := []) rfl, hd]
    refine ite_yn (fun z => ?_) fun z => ?_
    · have e : numD x = .non := by
        have z : dgs x.cps.toList = [] := of_decide_eq_true z
        unfold numD numB
        rw [z]
        rfl
      rw [← e]
      exact hQ
    have z : dgs x.cps.toList ≠ [] := of_decide_eq_false z
    refine ⟨hdl, ite_yn (fun y => ?_) fun y => ?_⟩
    · have e : numD x = .non := by
        have y : ((60 : Int) < (d.length : Int)) := of_decide_eq_true y
        unfold numD numB
        rw [decide_eq_false (by omega : ¬ (dgs x.cps.toList).length ≤ 60), Bool.false_and, Bool.and_false]
        rfl
      rw [← e]
      exact hQ
    have y : ¬ ((60 : Int) < (d.length : Int)) := of_decide_eq_false y
    refine ⟨d, rfl, szl (by rw [List.length_map, hd]; omega), fun i acc m2 => acc.isEmpty = ((dgs x.cps.toList).take i).all isDig ∧ (∀ v ∈ acc, v.pl = true ∧ v.dep ≤ 0) ∧ m2 = m', ⟨rfl, fun v hv => (by cases hv), rfl⟩, fun i v acc m2 hv hI => ?_, fun acc m2 hI => ?_⟩
    · obtain ⟨h1, h2, rfl⟩ := hI
      rw [List.getElem?_map, hd] at hv
      cases q : (dgs x.cps.toList)[i]? with
      | none => rw [q] at hv; cases hv
      | some k =>
        rw [q] at hv
        cases hv
        refine ⟨k, "0123456789", rfl, rfl, ite_yn (fun w => ?_) fun w => ?_⟩
        · have w : isDig k = false := notT w
          refine ⟨by rw [snoc_all q, w, Bool.and_false]; cases acc <;> rfl, fun v hv => ?_, rfl⟩
          rcases mem_snoc hv with r | rfl
          · exact h2 v r
          · refine ⟨strOk_mk fun c hc => ?_, Nat.le_refl _⟩
            rw [List.mem_singleton.mp hc]
            exact strOk_in hdo k (by rw [hd]; exact List.mem_of_getElem? q)
        · have w : isDig k = true := by
            cases r : isDig k with
            | true => rfl
            | false =>
              have w : (!isDig k) = false := w
              rw [r] at w
              cases w
          exact ⟨by rw [snoc_all q, w, Bool.and_true]; exact h1, h2, rfl⟩
    obtain ⟨h1, h2, rfl⟩ := hI
    rw [List.length_map, hd, List.take_length] at h1
    have pa : (D.lst acc).pl = true := by rw [D.pl]; exact plA_mk fun v hv => (h2 v hv).1
    have da : (D.lst acc).dep ≤ 8 := by
      have := depA_le fun v hv => (h2 v hv).2
      show depA acc + 1 ≤ 8
      omega
    refine ⟨Nat.zero_le _, pl_cmp pa rfl, Nat.le_trans (Nat.le_of_eq (need_dep (lev := levB ad) pa)) da, ?_⟩
    rw [lstNil_b, h1]
    refine ite_yn (fun w => ?_) fun w => ?_
    · have w : (dgs x.cps.toList).all isDig = false := notT w
      have e : numD x = .non := by
        unfold numD numB
        rw [w, Bool.false_and, Bool.and_false, Bool.and_false]
        rfl
      rw [← e]
      exact hQ
    have w : (dgs x.cps.toList).all isDig = true := by
      cases r : (dgs x.cps.toList).all isDig with
      | true => rfl
      | false =>
        have w : (!(dgs x.cps.toList).all isDig) = false := w
        rw [r] at w
        cases w
    obtain ⟨n, hn, h640⟩ := num_int z (by omega) w
    have h60 : (dgs x.cps.toList).length ≤ 60 := by omega
    have hemp : (dgs x.cps.toList).isEmpty = false := by
      cases q : dgs x.cps.toList with
      | nil => exact absurd q z
      | cons _ _ => rfl
    have eB : numB x.cps.toList = !(decide ((dgs x.cps.toList).head? = some 48) && !decide (x.cps.toList = [48])) := by
      unfold numB
      rw [hemp, w, decide_eq_true h60]
      rfl
    obtain ⟨k, r, hk⟩ : ∃ k r, dgs x.cps.toList = k :: r := by
      cases q : dgs x.cps.toList with
      | nil => exact absurd q z
      | cons k r => exact ⟨k, r, rfl⟩
    have eH : (dgs x.cps.toList).head? = some k := by rw [hk]; rfl
    rw [eH] at eB
    have pk : PyData.strOk ⟨#[k]⟩ = true := strOk_mk fun c hc => by
      rw [List.mem_singleton.mp hc]
      exact strOk_in hdo k (by rw [hd, hk]; exact List.mem_cons_self ..)
    have p0 : PyData.strOk ("0" : Str) = true := by decide +kernel
    refine ⟨d, 0, k, rfl, rfl, hdl, atI_pos (by decide) (by rw [hd, hk]; rfl), pl_cmp pk p0, Nat.zero_le _, ?_⟩
    rw [show (sgn k).eqb (.str "0") = decide ([k] = [48]) from str_eqb rfl]
    have fin : numB x.cps.toList = true → Q (.int n) m2 := fun b => by
      unfold numD at hQ
      rw [if_pos b, hn] at hQ
      exact hQ
    refine ite_yn (fun v => ?_) fun v => ?_
    · have v : k = 48 := by
        have v : [k] = [48] := of_decide_eq_true v
        injection v
      refine ⟨pl_cmp ho p0, Nat.zero_le _, ?_⟩
      rw [str_eqb (l := [48]) rfl]
      refine ite_yn (fun u => ?_) fun u => ?_
      · have u : decide (x.cps.toList = [48]) = false := notT u
        have e : numD x = .non := by
          unfold numD
          rw [if_neg]
          rw [eB, u, v]
          decide
        show Q .non m2
        rw [← e]
        exact hQ
      · refine ⟨x, n, rfl, hn, h640, fin ?_⟩
        have u : (!decide (x.cps.toList = [48])) = false := u
        rw [eB, u, Bool.and_false]
        rfl
    · have v : ¬ [k] = [48] := of_decide_eq_false v
      refine ⟨x, n, rfl, hn, h640, fin ?_⟩
      rw [eB, decide_eq_false (fun e => v (by injection e with e; rw [e])), Bool.false_and]
      rfl
abbrev s_number_of : Stmt := topS 38
theorem sc_number_of : FnScope ["word", "digits", "digit"] ["word"] (defScope s_number_of) := ⟨rfl, rfl, rfl, by decide +kernel, rfl, by decide +kernel, by decide +kernel⟩
theorem ok_number_of {f : Addr} {fd : FuncData} (F : Fun K "number_of" "number_of" s_number_of f fd) {lev : Lev} (T : TB K mg ad) {tkD tkM : Tok} (mgD : mg "DIGITS" = some (.str digitsS tkD)) (mgM : mg "MOST_DIGITS" = some (.int 60 tkM)) (E0 : EqE P w K TT mg base lev 0) (N0 : NeE K lev) : FnG false P w K mg base CX0 2 f fd ["word"] (spD K TT fwNum) := by
  refine fn_data (k := 1) F sc_number_of (fun ds m Q h => ?_) (fun cdv A outer s H E p cc B hr hgs hcd => (dss_cons (ds_set (i := 1) sc_number_of.nd rfl (by first | exact Or.inl rfl | exact Or.inr rfl) (de_ifExp (dt_eqX (n := 0) E0 hr (by decide) (de_slice (de_var 0) do_none (do_some de_int)) de_str) (de_slice (de_var 0) (do_some de_int) do_none) (de_var 0)))
    (dss_cons (ds_if (DTw.dt (dtw_or (dt_eqX (n := 0) E0 hr (by decide) (de_callB call_len rd_len (by rfl) T.b_len (by decide +kernel) (da_cons (de_var 1) da_nil)) de_int) (dtw_or (dt_gt (de_callB call_len rd_len (by rfl) T.b_len (by decide +kernel) (da_cons (de_var 1) da_nil)) (de_glob (v := .int 60) (d := .int 60) (by rfl) mgM ⟨_, rfl⟩ (fun _ => .int _))) (dtw_or1 (dt_not (dt_val (de_callB (cr_all rfl) rd_all (by rfl) T.b_all (by decide +kernel) (da_cons (DL.de (dl_lc (own := [("digit", 2)]) rfl sc_number_of.nd (di_str (de_var 1)) (blkOk_by (own := [("digit", 2)]) (N := ["word", "digits", "digit"]) (sc := defScope s_number_of) (by decide +kernel)) (fun _ _ _ _ _ => (dg_name (i := 2) sc_number_of.nd rfl (by first | exact Or.inl rfl | exact Or.inr rfl))) (by decide) (fun _ _ _ _ _ => dts_nil) (fun _ _ _ _ _ => (de_sgnIn (de_var 2) (de_glob (v := .str digitsS) (d := .str digitsS) (by rfl) mgD ⟨_, rfl⟩ (fun _ => .str _)) rfl)))) da_nil))))))))
    (dss_one (ds_ret de_non))
    dss_nil)
    (dss_cons (ds_if (DTw.dt (dtw_and (dt_eqX (n := 0) E0 hr (by decide) (de_subS (de_var 1) de_int (fun _ _ => rfl)) de_str) (dtw_and1 (dt_neX (n := 0) E0 N0 hr (by decide) (de_var 0) de_str))))
    (dss_one (ds_ret de_non))
    dss_nil)
    (dss_one (ds_ret (de_callTy call_int_str rd_intS (by rfl) T.b_int (by decide +kernel) (da_cons (de_var 0) da_nil)))))))) fun ds m Q h => ?_
  · obtain ⟨x, rfl, _⟩ := h
    rfl
  · obtain ⟨x, rfl, ho, hl, hQ⟩ := h
    refine cutS (k := ?k2) (fun ρ m' => (∃ (d : Str) (c2 : Cell), d.cps.toList = dgs x.cps.toList ∧ PyData.strOk d = true ∧ d.length ≤ sizeLine ∧ ρ = [.dat (.str x), .dat (.str d), c2]) ∧ m' = m) ?b2 fun tail => ?a2
    case a2 =>
      refine ⟨hl, pl_cmp (strOk_cut ho) (show PyData.strOk ("-" : Str) = true by decide +kernel), Nat.zero_le _, ite_yn (fun z => ?_) fun z => ?_⟩
      · refine ⟨hl, ?_⟩
        dsimp only
        refine tail _ _ ?_
        have z : (D.str (L2.cutS x none (some (1 : Int)))).eqb (.str "-") = true := z
        rw [str_eqb (l := [45]) rfl, cutS_1, decide_eq_true_eq] at z
        exact ⟨⟨_, _, by rw [cutS_r, dgs, if_pos z], strOk_cut ho, Nat.le_trans (cutlen x) hl, rfl⟩, rfl⟩
      · refine tail [.dat (.str x), .dat (.str x), .un] m ?_
        have z : (D.str (L2.cutS x none (some (1 : Int)))).eqb (.str "-") = false := z
        rw [str_eqb (l := [45]) rfl, cutS_1, decide_eq_false_iff_not] at z
        exact ⟨⟨x, _, by rw [dgs, if_neg z], ho, hl, rfl⟩, rfl⟩
    rintro ρ m' ⟨⟨d, c2, hd, hdo, hdl, rfl⟩, rfl⟩
    have ln : d.length = (dgs x.cps.toList).length := by
      rw [← hd, Array.length_toList]
      rfl
    refine ⟨hdl, pl_cmp rfl rfl, Nat.le_refl _, ?_⟩
    have non_ : numB x.cps.toList = false → Q .non m' := fun b => by
      have e : numD x = .non := by
        unfold numD
        rw [if_neg (by rw [b]; decide)]
      rw [← e]
      exact hQ
    have eE : (D.int (d.length : Int)).eqb (.int 0) = decide (dgs x.cps.toList = []) := by
      rw [D.eqb, ln]
      cases q : dgs x.cps.toList with
      | nil => rfl
      | cons a r =>
        rw [decide_eq_false (by simp)]
        simp
        omega
    rw [show (id ((D.int (d.length : Int)).eqb (.int 0))) = decide (dgs x.cps.toList = []) from eE]
    refine ite_yn (fun z => ?_) fun z => ?_
    · refine non_ ?_
      have z : dgs x.cps.toList = [] := of_decide_eq_true z
      unfold numB
      rw [z]
      rfl
    have z : dgs x.cps.toList ≠ [] := of_decide_eq_false z
    refine ⟨hdl, ite_yn (fun y => ?_) fun y => ?_⟩
    · have y : ((60 : Int) < (d.length : Int)) := of_decide_eq_true y
      refine non_ ?_
      unfold numB
      rw [decide_eq_false (by omega : ¬ (dgs x.cps.toList).length ≤ 60), Bool.false_and, Bool.and_false]
    have y : ¬ ((60 : Int) < (d.length : Int)) := of_decide_eq_false y
    refine ⟨d, rfl, szl (by rw [List.length_map, hd]; omega), IMap (d.cps.toList.map sgn) (fun u => .bl (sgB u)) m', ⟨rfl, rfl⟩, fun i v acc m2 hv hI => ?_, fun acc m2 hI => ?_⟩
    · have hv' := hv
      rw [List.getElem?_map, hd] at hv
      cases q : (dgs x.cps.toList)[i]? with
      | none => rw [q] at hv; cases hv
      | some k =>
        rw [q] at hv
        cases hv
        exact ⟨k, digitsS, rfl, rfl, hI.next hv' rfl⟩
    obtain ⟨rfl, rfl⟩ := hI.fin
    have eA : ((d.cps.toList.map sgn).map fun u => D.bl (sgB u)) = ((d.cps.toList.map sgn).map sgB).map D.bl := (all_bl _ sgB).1
    refine ⟨_, eA, ?_⟩
    have eB0 : (((d.cps.toList.map sgn).map sgB).all id) = (dgs x.cps.toList).all isDig := by
      rw [List.all_map, List.all_map, hd]
      rfl
    rw [eB0]
    refine ite_yn (fun w => ?_) fun w => ?_
    · have w : (dgs x.cps.toList).all isDig = false := notT w
      refine non_ ?_
      unfold numB
      rw [w, Bool.false_and, Bool.and_false, Bool.and_false]
    have w : (dgs x.cps.toList).all isDig = true := notF w
    obtain ⟨n, hn, h640⟩ := num_int z (by omega) w
    have h60 : (dgs x.cps.toList).length ≤ 60 := by omega
    have hemp : (dgs x.cps.toList).isEmpty = false := by
      cases q : dgs x.cps.toList with
      | nil => exact absurd q z
      | cons _ _ => rfl
    have eB : numB x.cps.toList = !(decide ((dgs x.cps.toList).head? = some 48) && !decide (x.cps.toList = [48])) := by
      unfold numB
      rw [hemp, w, decide_eq_true h60]
      rfl
    obtain ⟨k, r, hk⟩ : ∃ k r, dgs x.cps.toList = k :: r := by
      cases q : dgs x.cps.toList with
      | nil => exact absurd q z
      | cons k r => exact ⟨k, r, rfl⟩
    have eH : (dgs x.cps.toList).head? = some k := by rw [hk]; rfl
    rw [eH] at eB
    have pk : PyData.strOk ⟨#[k]⟩ = true := strOk_mk fun c hc => by
      rw [List.mem_singleton.mp hc]
      exact strOk_in hdo k (by rw [hd, hk]; exact List.mem_cons_self ..)
    have p0 : PyData.strOk ("0" : Str) = true := by decide +kernel
    refine ⟨d, 0, k, rfl, rfl, hdl, atI_pos (by decide) (by rw [hd, hk]; rfl), pl_cmp pk p0, Nat.zero_le _, ?_⟩
    rw [show (id ((sgn k).eqb (.str "0"))) = decide ([k] = [48]) from str_eqb rfl]
    have fin : numB x.cps.toList = true → Q (.int n) m2 := fun b => by
      unfold numD at hQ
      rw [if_pos b, hn] at hQ
      exact hQ
    refine ite_yn (fun v => ?_) fun v => ?_
    · have v : k = 48 := by
        have v : [k] = [48] := of_decide_eq_true v
        injection v
      refine ⟨pl_cmp ho p0, Nat.zero_le _, ?_⟩
      rw [str_eqb (l := [48]) rfl]
      refine ite_yn (fun u => ?_) fun u => ?_
      · have u : decide (x.cps.toList = [48]) = false := notT u
        refine non_ ?_
        rw [eB, u, v]
        decide
      · refine ⟨x, n, rfl, hn, h640, fin ?_⟩
        have u : (!decide (x.cps.toList = [48])) = false := u
        rw [eB, u, Bool.and_false]
        rfl
    · have v : ¬ [k] = [48] := of_decide_eq_false v
      refine ⟨x, n, rfl, hn, h640, fin ?_⟩
      rw [eB, decide_eq_false (fun e => v (by injection e with e; rw [e])), Bool.false_and]
      rfl
end
end DW

namespace DW
open PySem PySem.Spec L2
open TL
theorem full_nil {ms gs : List D} {p k : Int} : Full ms gs p k [] := rfl
theorem full_cons {ms gs : List D} {p k : Int} {d : D} {r : List D} (h : Full ms gs p k (d :: r)) : stepB ms gs p k d = true ∧ Full ms gs (stepTo ms k d).1 (stepTo ms k d).2 r := by
  unfold Full at h ⊢
  cases hb : stepB ms gs p k d with
  | true =>
    rw [walk_go hb, List.length_cons, List.length_cons] at h
    exact ⟨rfl, by omega⟩
  | false =>
    rw [walk_stop hb, List.length_cons] at h
    simp at h
theorem last_nil {ms gs : List D} {p k : Int} : lastS ms gs p k [] = (p, k) := rfl
theorem last_cons {ms gs : List D} {p k : Int} {d : D} {r : List D} (h : stepB ms gs p k d = true) : lastS ms gs p k (d :: r) = lastS ms gs (stepTo ms k d).1 (stepTo ms k d).2 r := by
  have e := last_at (ms := ms) (gs := gs) (p := p) (k := k) (its := d :: r)
  have l := (walk_len (ms := ms) (gs := gs) (p := (stepTo ms k d).1) (k := (stepTo ms k d).2) (its := r)).1
  rw [walk_go h, List.length_cons, Nat.add_sub_cancel, show (walkS ms gs (stepTo ms k d).1 (stepTo ms k d).2 r).length = (walkS ms gs (stepTo ms k d).1 (stepTo ms k d).2 r).length - 1 + 1 by omega, List.getElem?_cons_succ, last_at] at e
  exact (Option.some.inj e).symm
theorem walk_snoc {ms gs : List D} : ∀ {its : List D} {p k : Int} {d : D}, Full ms gs p k its → walkS ms gs p k (its ++ [d]) = walkS ms gs p k its ++ (if stepB ms gs (lastS ms gs p k its).1 (lastS ms gs p k its).2 d = true then [stepTo ms (lastS ms gs p k its).2 d] else [])
  | [], p, k, d, _ => by
    rw [List.nil_append, last_nil]
    cases hb : stepB ms gs p k d with
    | true =>
      rw [walk_go hb, if_pos rfl]
      rfl
    | false =>
      rw [walk_stop hb, if_neg (by decide)]
      rfl
  | x :: r, p, k, d, h => by
    obtain ⟨hb, hf⟩ := full_cons h
    rw [List.cons_append, walk_go hb, walk_go hb, walk_snoc hf, last_cons hb]
    rfl
theorem full_snoc {ms gs : List D} {its : List D} {p k : Int} {d : D} (h : Full ms gs p k its) (hb : stepB ms gs (lastS ms gs p k its).1 (lastS ms gs p k its).2 d = true) : Full ms gs p k (its ++ [d]) ∧ walkS ms gs p k (its ++ [d]) = walkS ms gs p k its ++ [stepTo ms (lastS ms gs p k its).2 d] := by
  have e := walk_snoc (d := d) h
  rw [if_pos hb] at e
  refine ⟨?_, e⟩
  unfold Full at h ⊢
  rw [e, List.length_append, List.length_append, h]
  rfl
theorem walk_take {ms gs : List D} : ∀ {its : List D} {p k : Int} (j : Nat), Full ms gs p k its → Full ms gs p k (its.take j) ∧ walkS ms gs p k (its.take j) = (walkS ms gs p k its).take (j + 1)
  | [], p, k, j, h => by
    rw [List.take_nil]
    exact ⟨h, by rw [walkS, List.take_succ_cons, List.take_nil]⟩
  | x :: r, p, k, 0, h => by
    obtain ⟨hb, hf⟩ := full_cons h
    rw [walk_go hb]
    exact ⟨rfl, rfl⟩
  | x :: r, p, k, j + 1, h => by
    obtain ⟨hb, hf⟩ := full_cons h
    obtain ⟨a, b⟩ := walk_take j hf
    rw [List.take_succ_cons, walk_go hb, walk_go hb, List.take_succ_cons, ← b]
    refine ⟨?_, rfl⟩
    unfold Full at a ⊢
    rw [walk_go hb, List.length_cons, List.length_cons, a]
theorem walk_drop {ms gs : List D} : ∀ {its : List D} {p k : Int} {j : Nat} {s : Int × Int}, Full ms gs p k its → (walkS ms gs p k its)[j]? = some s → Full ms gs s.1 s.2 (its.drop j) ∧ walkS ms gs s.1 s.2 (its.drop j) = (walkS ms gs p k its).drop j
  | its, p, k, 0, s, h, e => by
    have : s = (p, k) := by
      cases its with
      | nil => exact (Option.some.inj e).symm
      | cons x r =>
        rw [walk_go (full_cons h).1] at e
        exact (Option.some.inj e).symm
    subst this
    exact ⟨h, rfl⟩
  | [], p, k, j + 1, s, h, e => by
    rw [walkS] at e
    cases e
  | x :: r, p, k, j + 1, s, h, e => by
    obtain ⟨hb, hf⟩ := full_cons h
    rw [walk_go hb, List.getElem?_cons_succ] at e
    rw [walk_go hb, List.drop_succ_cons, List.drop_succ_cons]
    exact walk_drop hf e
theorem stepB_hit {ms gs : List D} {p k : Int} {j : Nat} {x : D} (hj : ms[j]? = some x) : stepB ms gs p k (.int (j : Int)) = (!gs.any (glHit p k) && mvHit p k x) := by
  have hl := (List.getElem?_eq_some_iff.mp hj).1
  unfold stepB
  rw [ix_yes (by omega) (by omega), Bool.true_and]
  simp only [Int.toNat_natCast, hj]
theorem openF_has {p k : Int} : ∀ {ms : List D} {i j : Nat} {x : D}, ms[j]? = some x → mvHit p k x = true → D.int ((i + j : Nat) : Int) ∈ openF p k i ms
  | y :: ys, i, 0, x, h, hh => by
    cases h
    rw [openF, if_pos hh]
    exact List.mem_cons_self ..
  | y :: ys, i, j + 1, x, h, hh => by
    have := openF_has (i := i + 1) (show ys[j]? = some x by simpa using h) hh
    rw [show i + 1 + j = i + (j + 1) by omega] at this
    rw [openF]
    split
    · exact List.mem_cons_of_mem _ this
    · exact this
theorem lstNil_eqb {xs : List D} : (D.lst xs).eqb (.lst []) = xs.isEmpty := by cases xs <;> (rw [D.eqb, eqbA] <;> simp)
theorem intsL_pl {xs : List D} (h : ∀ x ∈ xs, ∃ j : Int, x = .int j) : (D.lst xs).pl = true ∧ (D.lst xs).dep ≤ 1 := by
  obtain ⟨a, b⟩ := ints_pl h
  exact ⟨by rw [D.pl]; exact plA_mk fun x hx => by obtain ⟨j, rfl⟩ := h x hx; rfl, b⟩
theorem sts_pl {ss : List (Int × Int)} : (D.tup (ss.map stD)).pl = true ∧ (D.tup (ss.map stD)).dep ≤ 2 := by
  have h : ∀ x ∈ ss.map stD, x.pl = true ∧ x.dep ≤ 1 := fun x hx => by
    obtain ⟨y, _, rfl⟩ := List.mem_map.mp hx
    exact ⟨rfl, Nat.le_refl _⟩
  refine ⟨by rw [D.pl]; exact plA_mk fun x hx => (h x hx).1, ?_⟩
  have := depA_le fun x hx => (h x hx).2
  show depA (ss.map stD) + 1 ≤ 2
  omega
theorem nat_ints {xs : List D} (h : ∀ x ∈ xs, ∃ j : Nat, x = .int (j : Int)) : ∀ x ∈ xs, ∃ j : Int, x = .int j := fun x hx => by
  obtain ⟨j, rfl⟩ := h x hx
  exact ⟨_, rfl⟩

/-! ### a step that is not made -/
theorem walk_bad {ms gs : List D} : ∀ {its : List D} {p k : Int} {d : D} {r : List D}, Full ms gs p k its → stepB ms gs (lastS ms gs p k its).1 (lastS ms gs p k its).2 d = false → walkS ms gs p k (its ++ d :: r) = walkS ms gs p k its
  | [], p, k, d, r, _, hb => by
    rw [last_nil] at hb
    rw [List.nil_append, walk_stop hb]
    rfl
  | x :: q, p, k, d, r, h, hb => by
    obtain ⟨h1, hf⟩ := full_cons h
    rw [last_cons h1] at hb
    rw [List.cons_append, walk_go h1, walk_go h1, walk_bad hf hb]
theorem openF_mem' {p k : Int} {ms : List D} {x : D} (h : x ∈ openF p k 0 ms) : ∃ (j : Nat) (y : D), x = .int (j : Int) ∧ ms[j]? = some y ∧ mvHit p k y = true := by
  obtain ⟨j, y, e, h1, h2⟩ := openF_mem h
  rw [Nat.zero_add] at e
  exact ⟨j, y, e, h1, h2⟩
/-- a step is made just with an open move's index -/
theorem stepB_in {ms gs : List D} {p k : Int} {d : D} (hd : d = .non ∨ ∃ i : Int, d = .int i) : stepB ms gs p k d = (!gs.any (glHit p k) && (openF p k 0 ms).any fun y => y.eqb d) := by
  rcases hd with rfl | ⟨i, rfl⟩
  · have e : ((openF p k 0 ms).any fun y => y.eqb D.non) = false := by
      rw [List.any_eq_false]
      intro x hx
      obtain ⟨j, y, rfl, _⟩ := openF_mem' hx
      rw [show (D.int (j : Int)).eqb D.non = false by rw [D.eqb] <;> simp]
      decide
    rw [e, Bool.and_false]
    rfl
  · by_cases hj : ∃ j : Nat, i = (j : Int) ∧ j < ms.length
    · obtain ⟨j, rfl, hl⟩ := hj
      have hx : ms[j]? = some ms[j] := List.getElem?_eq_getElem hl
      rw [stepB_hit hx]
      congr 1
      rw [Bool.eq_iff_iff, List.any_eq_true]
      constructor
      · intro h
        have := openF_has (i := 0) hx h
        rw [Nat.zero_add] at this
        exact ⟨_, this, by rw [D.eqb]; simp⟩
      · rintro ⟨x, h1, h2⟩
        obtain ⟨j', y, rfl, h3, h4⟩ := openF_mem' h1
        rw [D.eqb] at h2
        have e : j' = j := by
          have e : (j' : Int) = j := by simpa using h2
          omega
        subst e
        rw [hx] at h3
        cases h3
        exact h4
    · have e1 : stepB ms gs p k (.int i) = false := by
        unfold stepB
        have : (D.int i).isIx ms.length = false := by
          cases h : (D.int i).isIx ms.length with
          | false => rfl
          | true =>
            have h : (decide (0 ≤ i) && decide (i < ms.length)) = true := h
            rw [Bool.and_eq_true] at h
            have a := of_decide_eq_true h.1
            have b := of_decide_eq_true h.2
            exact absurd ⟨i.toNat, by omega, by omega⟩ hj
        rw [this, Bool.false_and]
      have e2 : ((openF p k 0 ms).any fun y => y.eqb (D.int i)) = false := by
        rw [List.any_eq_false]
        intro x hx h
        obtain ⟨j', y, rfl, h3, _⟩ := openF_mem' hx
        rw [D.eqb] at h
        have e : (j' : Int) = i := by simpa using h
        exact hj ⟨j', e.symm, (List.getElem?_eq_some_iff.mp h3).1⟩
      rw [e1, e2, Bool.and_false]
/-! ### words -/
theorem numD_or (x : Str) : numD x = .non ∨ ∃ i : Int, numD x = .int i := by
  unfold numD
  split
  · exact .inr ⟨_, rfl⟩
  · exact .inl rfl
def cntD (w : Str) : D := if (L2.cutS w (some (-1 : Int)) none).cps.toList = [58] then numD (L2.cutS w none (some (-1 : Int))) else .non
abbrev RW := Nat ⊕ (Int × Int × List D)
def rdW3 (ms gs : List D) (p n : Int) (its : List D) : RW := if (walkS ms gs p n its).length ≤ its.length then .inl ((walkS ms gs p n its).length + 2) else .inr (p, n, its)
def rdW2 (ms gs : List D) (p : Int) : List Str → RW
  | [] => .inl 2
  | w :: r => match cntD w with
    | .int n => rdW3 ms gs p n (r.map numD)
    | _ => .inl 2
def rdW1 (ms gs : List D) (p : Int) : List Str → RW
  | [] => .inl 1
  | w :: r => if w.cps.toList = [97, 116] then rdW2 ms gs p r else .inl 1
/-- what words tell: the number of the first wrong one, or the play -/
def rdW (N : Nat) (ms gs : List D) : List Str → RW
  | [] => .inl 0
  | w :: r => match numD w with
    | .int p => if 0 ≤ p ∧ p < N then rdW1 ms gs p r else .inl 0
    | _ => .inl 0
def lens (ws : List Str) : Int := (ws.map fun w => (w.length : Int) + 1).sum
def colN (ws : List Str) (k : Nat) : Int := lens (ws.take k) + (if k < ws.length then 1 else 0)
theorem lens_snoc {ws : List Str} {i : Nat} {w : Str} (h : ws[i]? = some w) : lens (ws.take (i + 1)) = lens (ws.take i) + (w.length : Int) + 1 := by
  unfold lens
  rw [List.take_add_one, h, List.map_append, List.sum_append]
  show _ + (((w.length : Int) + 1) + 0) = _
  omega
theorem colN_lt {ws : List Str} {k : Nat} (h : k < ws.length) : colN ws k = lens (ws.take k) + 1 := by
  unfold colN
  rw [if_pos h]
theorem colN_all {ws : List Str} : colN ws ws.length = lens ws := by
  unfold colN
  rw [if_neg (Nat.lt_irrefl _), List.take_length, Int.add_zero]
def resD (ws : List Str) : RW → D
  | .inl k => .tup [.str "column", .int (colN ws k)]
  | .inr (p, n, its) => .tup [.str "play", .int p, .int n, .tup its]
def gotD (N : Nat) (ms gs : List D) (x : Str) : D := resD (Txt.split x " ") (rdW N ms gs (Txt.split x " "))
theorem drop_at {ws : List Str} {i : Nat} {w : Str} (h : ws[i]? = some w) : ws.drop i = w :: ws.drop (i + 1) := by
  obtain ⟨h1, h2⟩ := List.getElem?_eq_some_iff.mp h
  rw [List.drop_eq_getElem_cons h1, h2]
/-- where the law's walk over words stands -/
def Due (N : Nat) (ms gs : List D) (ws : List Str) : Nat → Cell → Cell → List D → Cell → Prop
  | 0, _, _, mv, _ => mv = []
  | 1, cp, _, mv, _ => mv = [] ∧ ∃ p : Int, 0 ≤ p ∧ p < N ∧ cp = .dat (.int p) ∧ rdW N ms gs ws = rdW1 ms gs p (ws.drop 1)
  | 2, cp, _, mv, _ => mv = [] ∧ ∃ p : Int, 0 ≤ p ∧ p < N ∧ cp = .dat (.int p) ∧ rdW N ms gs ws = rdW2 ms gs p (ws.drop 2)
  | i + 3, cp, cn, mv, cs => ∃ p n : Int, 0 ≤ p ∧ p < N ∧ cp = .dat (.int p) ∧ cn = .dat (.int n) ∧ rdW N ms gs ws = rdW3 ms gs p n ((ws.drop 3).map numD) ∧ mv = ((ws.drop 3).map numD).take i ∧ Full ms gs p n mv ∧ cs = .dat (stD (lastS ms gs p n mv))
theorem due_0 {N : Nat} {ms gs : List D} {ws : List Str} {w : Str} (h : ws[0]? = some w) : (numD w = .non → rdW N ms gs ws = .inl 0) ∧ ∀ p, numD w = .int p → (0 ≤ p ∧ p < N → rdW N ms gs ws = rdW1 ms gs p (ws.drop 1)) ∧ (¬ (0 ≤ p ∧ p < N) → rdW N ms gs ws = .inl 0) := by
  have e := drop_at h
  rw [List.drop_zero] at e
  rw [e]
  refine ⟨fun z => by rw [rdW, z], fun p z => ⟨fun y => by rw [rdW, z]; simp only; rw [if_pos y]; rfl, fun y => by rw [rdW, z]; simp only; rw [if_neg y]⟩⟩
theorem due_1 {ms gs : List D} {ws : List Str} {w : Str} {p : Int} (h : ws[1]? = some w) : rdW1 ms gs p (ws.drop 1) = if w.cps.toList = [97, 116] then rdW2 ms gs p (ws.drop 2) else .inl 1 := by
  rw [drop_at h, rdW1]
theorem due_2 {ms gs : List D} {ws : List Str} {w : Str} {p : Int} (h : ws[2]? = some w) : (∀ n, cntD w = .int n → rdW2 ms gs p (ws.drop 2) = rdW3 ms gs p n ((ws.drop 3).map numD)) ∧ (cntD w = .non → rdW2 ms gs p (ws.drop 2) = .inl 2) := by
  rw [drop_at h]
  exact ⟨fun n z => by rw [rdW2, z], fun z => by rw [rdW2, z]⟩
theorem cntD_or (x : Str) : cntD x = .non ∨ ∃ i : Int, cntD x = .int i := by
  unfold cntD
  split
  · exact numD_or _
  · exact .inl rfl
theorem due_bad {ms gs : List D} {p n : Int} {its : List D} {i : Nat} {d : D} (h : its[i]? = some d) (hf : Full ms gs p n (its.take i)) (hb : stepB ms gs (lastS ms gs p n (its.take i)).1 (lastS ms gs p n (its.take i)).2 d = false) : rdW3 ms gs p n its = .inl (i + 3) := by
  obtain ⟨h1, h2⟩ := List.getElem?_eq_some_iff.mp h
  have e : its = its.take i ++ d :: its.drop (i + 1) := by
    have := List.take_append_drop i its
    rw [List.drop_eq_getElem_cons h1, h2] at this
    exact this.symm
  have w := walk_bad (r := its.drop (i + 1)) hf hb
  rw [← e] at w
  have l : (walkS ms gs p n its).length = i + 1 := by
    rw [w]
    unfold Full at hf
    rw [hf, List.length_take]
    omega
  unfold rdW3
  rw [l, if_pos (by omega)]
theorem due_end {ms gs : List D} {p n : Int} {its : List D} (hf : Full ms gs p n its) : rdW3 ms gs p n its = .inr (p, n, its) := by
  unfold Full at hf
  unfold rdW3
  rw [if_neg (by omega)]
/-! ### split -/
theorem sp_tl : tl (" " : Str) = [32] := by decide +kernel
theorem mem_join {y : Str} {c : Nat} : ∀ {ps : List Str} {w : Str}, w ∈ ps → c ∈ tl w → c ∈ tl (Str.join y ps)
  | [q], w, hw, hc => by
    rw [List.mem_singleton.mp hw] at hc
    exact hc
  | q :: q2 :: r, w, hw, hc => by
    show c ∈ tl (q ++ y ++ Str.join y (q2 :: r))
    rw [tl_append, tl_append]
    rcases List.mem_cons.mp hw with rfl | hw
    · exact List.mem_append_left _ (List.mem_append_left _ hc)
    · exact List.mem_append_right _ (mem_join hw hc)
theorem split_mem {x w : Str} {c : Nat} (h : w ∈ Txt.split x " ") (hc : c ∈ tl w) : c ∈ tl x := by
  have := mem_join (y := " ") h hc
  rwa [PySem.StrLaws.join_split] at this
theorem strOk_tl {x : Str} (h : ∀ c ∈ tl x, c < 1114112) : PyData.strOk x = true := by
  have := strOk_mk h
  rwa [mk_tl] at this
theorem split_ok {x w : Str} (h : PyData.strOk x = true) (hw : w ∈ Txt.split x " ") : PyData.strOk w = true := strOk_tl fun c hc => strOk_in h c (split_mem hw hc)
theorem split_ne (x : Str) : Txt.split x " " ≠ [] := fun e => by
  have h := split_spl x " " (by rw [sp_tl]; simp) (kind_ok (by decide +kernel))
  rw [e, List.map_nil] at h
  have : ∀ (S : List Nat) (l : List Nat) (k : Nat) (acc : List Nat), spl S k acc l ≠ [] := fun S l => by
    induction l with
    | nil => intro k acc z; rw [spl_nil] at z; cases z
    | cons c r ih =>
      intro k acc z
      cases k with
      | zero =>
        rw [spl] at z
        split at z
        · cases z
        · exact ih _ _ z
      | succ k => exact ih _ _ z
  exact this _ _ _ _ h.symm
def wt (ws : List Str) : Nat := (ws.map fun w => w.length + 1).sum
theorem wt_cons (w : Str) (ws : List Str) : wt (w :: ws) = w.length + 1 + wt ws := rfl
theorem wt_lens (ws : List Str) : lens ws = (wt ws : Int) := by
  induction ws with
  | nil => rfl
  | cons w r ih =>
    unfold lens wt at ih ⊢
    rw [List.map_cons, List.map_cons, List.sum_cons, List.sum_cons, ih]
    omega
theorem joined_len : ∀ {ws : List Str}, ws ≠ [] → (Str.join " " ws).length + 1 = wt ws
  | [], h => absurd rfl h
  | [w], _ => by
    rw [wt_cons]
    show w.length + 1 = w.length + 1 + 0
    omega
  | w :: v :: r, _ => by
    have ih := joined_len (ws := v :: r) (by simp)
    rw [wt_cons, ← ih]
    show (w ++ " " ++ Str.join " " (v :: r)).length + 1 = _
    rw [Str.length_append, Str.length_append, show (" " : Str).length = 1 by decide +kernel]
    omega
theorem split_wt (x : Str) : wt (Txt.split x " ") = x.length + 1 := by
  rw [← joined_len (split_ne x), PySem.StrLaws.join_split]
theorem wt_app (a b : List Str) : wt (a ++ b) = wt a + wt b := by
  unfold wt
  rw [List.map_append, List.sum_append]
theorem wt_ge {ws : List Str} {w : Str} (h : w ∈ ws) : w.length + 1 ≤ wt ws := by
  induction ws with
  | nil => cases h
  | cons v r ih =>
    rw [wt_cons]
    rcases List.mem_cons.mp h with rfl | h
    · omega
    · have := ih h
      omega
theorem wt_len (ws : List Str) : ws.length ≤ wt ws := by
  induction ws with
  | nil => exact Nat.le_refl _
  | cons v r ih =>
    rw [wt_cons, List.length_cons]
    omega
theorem split_le {x w : Str} (h : w ∈ Txt.split x " ") : w.length ≤ x.length := by
  have := wt_ge h
  rw [split_wt] at this
  omega
theorem split_cnt (x : Str) : (Txt.split x " ").length ≤ x.length + 1 := by
  rw [← split_wt]
  exact wt_len _
theorem col_end (x : Str) : lens (Txt.split x " ") = (x.length : Int) + 1 := by
  rw [wt_lens, split_wt]
  rfl
theorem join_ok : ∀ {ws : List Str}, (∀ w ∈ ws, PyData.strOk w = true) → PyData.strOk (Str.join " " ws) = true
  | [], _ => by decide +kernel
  | [w], h => h w (List.mem_singleton.mpr rfl)
  | w :: v :: r, h => strOk_tl fun c hc => by
    have hc : c ∈ tl (w ++ " " ++ Str.join " " (v :: r)) := hc
    rw [tl_append, tl_append, List.mem_append, List.mem_append] at hc
    rcases hc with (hc | hc) | hc
    · exact strOk_in (h w (List.mem_cons_self ..)) c hc
    · rw [sp_tl] at hc
      rw [List.mem_singleton.mp hc]
      decide
    · exact strOk_in (join_ok fun z hz => h z (List.mem_cons_of_mem _ hz)) c hc
end DW

namespace DW
open PySem PySem.Spec L2
open TL

theorem str_len (x : Str) : x.length = (tl x).length := len_tl x
theorem neg_tl (n : Nat) : tl (Str.ofString (toString (Int.negSucc n))) = 45 :: numL (n + 1) := by
  rw [tl_ofString]
  show ("-" ++ Nat.repr (n + 1)).toList.map Char.toNat = _
  rw [String.toList_append, List.map_append, Nat.toList_repr]
  rfl
theorem numL_head {n : Nat} (h : 0 < n) : (numL n).head? ≠ some 48 := by
  induction n using Nat.strongRecOn with
  | _ n ih =>
    by_cases h1 : n < 10
    · rw [numL_lt h1]
      intro z
      injection z with z
      omega
    · rw [numL_step (by omega), List.head?_append]
      have := ih (n / 10) (by omega) (by omega)
      cases q : numL (n / 10) with
      | nil => exact absurd q (numL_ne _)
      | cons a r =>
        rw [q] at this
        exact this
theorem dig_of {c : Nat} (h : 48 ≤ c ∧ c ≤ 57) : isDig c = true := by
  have e : digitsS.cps.toList = [48, 49, 50, 51, 52, 53, 54, 55, 56, 57] := by decide +kernel
  unfold isDig
  rw [e]
  refine decide_eq_true ?_
  simp only [List.mem_cons, List.not_mem_nil, or_false]
  omega
theorem numB_of {cs : List Nat} {n : Nat} (h : dgs cs = numL n) (hn : n < 10 ^ 60) (hz : n = 0 → cs = [48]) : numB cs = true := by
  unfold numB
  rw [h]
  have h1 : (numL n).isEmpty = false := by
    cases q : numL n with
    | nil => exact absurd q (numL_ne n)
    | cons _ _ => rfl
  have h2 : (numL n).all isDig = true := List.all_eq_true.mpr fun c hc => dig_of (numL_digits n c hc)
  have h3 : (numL n).length ≤ 60 := numL_len (by decide) hn
  rw [h1, h2, decide_eq_true h3]
  by_cases z : n = 0
  · rw [decide_eq_true (hz z)]
    simp
  · rw [decide_eq_false (numL_head (by omega))]
    rfl
theorem dgs_num (n : Nat) : dgs (numL n) = numL n := by
  unfold dgs
  rw [if_neg]
  cases q : numL n with
  | nil => exact fun z => nomatch z
  | cons a r =>
    intro z
    have z : a = 45 := by injection z
    have := numL_digits n a (by rw [q]; exact List.mem_cons_self ..)
    omega
theorem dgs_neg (cs : List Nat) : dgs (45 :: cs) = cs := by
  unfold dgs
  rw [if_pos (show (45 :: cs).take 1 = [45] from rfl)]
  rfl
/-- a number's text is read back -/
theorem numD_int {i : Int} (h : i.natAbs < 10 ^ 60) : numD (toString i : String) = .int i := by
  cases i with
  | ofNat n =>
    have e : (Str.ofString (toString (Int.ofNat n))).cps.toList = numL n := tl_num n
    have h : n < 10 ^ 60 := h
    have b : numB (Str.ofString (toString (Int.ofNat n))).cps.toList = true := by
      rw [e]
      exact numB_of (dgs_num n) h fun z => by rw [z]; exact numL_lt (by decide)
    unfold numD
    rw [if_pos b]
    have := int_num (n := n) (Nat.le_trans (numL_len (by decide) h) (by decide))
    rw [show PySem.intText? (Str.ofString (toString (Int.ofNat n))) = some (n : Int) from this]
    rfl
  | negSucc n =>
    have e : (Str.ofString (toString (Int.negSucc n))).cps.toList = 45 :: numL (n + 1) := neg_tl n
    have h : n + 1 < 10 ^ 60 := h
    have l : (numL (n + 1)).length ≤ 60 := numL_len (by decide) h
    have b : numB (Str.ofString (toString (Int.negSucc n))).cps.toList = true := by
      rw [e]
      exact numB_of (dgs_neg _) h fun z => by omega
    unfold numD
    rw [if_pos b]
    have := PySem.intText_neg e (numL_digits (n + 1)) (numL_ne _) (by rw [len_tl, show tl (Str.ofString (toString (Int.negSucc n))) = _ from e, List.length_cons]; omega)
    rw [this, numL_val]
    rfl
theorem numT_len {i : Int} {k : Nat} (hk : 0 < k) (h : i.natAbs < 10 ^ k) : ((toString i : String) : Str).length ≤ k + 1 := by
  cases i with
  | ofNat n =>
    rw [str_len, show tl (Str.ofString (toString (Int.ofNat n))) = numL n from tl_num n]
    have := numL_len hk (show n < 10 ^ k from h)
    omega
  | negSucc n =>
    rw [str_len, show tl (Str.ofString (toString (Int.negSucc n))) = _ from neg_tl n, List.length_cons]
    have := numL_len hk (show n + 1 < 10 ^ k from h)
    omega
theorem int_free {i : Int} {c : Nat} (h : c ∈ tl ((toString i : String) : Str)) : c = 45 ∨ (48 ≤ c ∧ c ≤ 57) := by
  cases i with
  | ofNat n =>
    rw [show tl (Str.ofString (toString (Int.ofNat n))) = numL n from tl_num n] at h
    exact .inr (numL_digits n c h)
  | negSucc n =>
    rw [show tl (Str.ofString (toString (Int.negSucc n))) = _ from neg_tl n] at h
    rcases List.mem_cons.mp h with h | h
    · exact .inl h
    · exact .inr (numL_digits _ c h)
theorem cut_last {l : List Nat} {c : Nat} : cutG (l ++ [c]) (some (-1 : Int)) none = [c] ∧ cutG (l ++ [c]) none (some (-1 : Int)) = l := by
  have e : HT.sIx (l ++ [c]).length 0 (some (-1 : Int)) = l.length := by
    unfold HT.sIx
    simp only
    rw [if_pos (by decide), List.length_append]
    show (-1 + ((l.length + 1 : Nat) : Int)).toNat = _
    omega
  have e2 : HT.sIx (l ++ [c]).length (l ++ [c]).length (some (-1 : Int)) = l.length := by
    unfold HT.sIx at e ⊢
    exact e
  refine ⟨?_, ?_⟩
  · unfold cutG
    rw [e, HT.sIx_none, List.drop_left, List.length_append]
    show List.take (l.length + 1 - l.length) [c] = _
    rw [Nat.add_sub_cancel_left]
    rfl
  · unfold cutG
    rw [e2, HT.sIx_none, List.drop_zero, Nat.sub_zero, List.take_left]
theorem col_tl : tl (":" : Str) = [58] := by decide +kernel
theorem cntD_int {i : Int} (h : i.natAbs < 10 ^ 60) : cntD ((toString i : String) ++ ":" : Str) = .int i := by
  have e : tl ((toString i : String) ++ ":" : Str) = tl ((toString i : String) : Str) ++ [58] := by rw [tl_append, col_tl]
  unfold cntD
  rw [cut_str, cut_str, show ((toString i : String) ++ ":" : Str).cps.toList = _ from e, cut_last.1, cut_last.2, if_pos rfl, mk_tl]
  exact numD_int h
def numT : D → Str
  | .int j => (toString j : String)
  | _ => ""
def wordsP (p n : Int) (its : List D) : List Str := ((toString p : String) : Str) :: "at" :: ((toString n : String) ++ ":" : Str) :: its.map numT
def textP (p n : Int) (its : List D) : Str := Txt.join " " (wordsP p n its)
theorem free_P {p n : Int} {its : List D} (hk : ∀ x ∈ its, ∃ j : Nat, x = .int (j : Int)) : ∀ w ∈ wordsP p n its, 32 ∉ tl w := fun w hw z => by
  unfold wordsP at hw
  simp only [List.mem_cons] at hw
  rcases hw with rfl | rfl | rfl | hw
  · have := int_free z
    omega
  · revert z
    decide +kernel
  · rw [tl_append, List.mem_append, col_tl] at z
    rcases z with z | z
    · have := int_free z
      omega
    · exact absurd (List.mem_singleton.mp z) (by decide)
  · obtain ⟨x, hx, rfl⟩ := List.mem_map.mp hw
    obtain ⟨j, rfl⟩ := hk x hx
    have := int_free (i := (j : Int)) z
    omega
theorem split_P {p n : Int} {its : List D} (hk : ∀ x ∈ its, ∃ j : Nat, x = .int (j : Int)) : Txt.split (textP p n its) " " = wordsP p n its :=
  split_join (S := []) sp_tl (by decide +kernel) (by unfold wordsP; simp) (free_P hk)
theorem items_P {its : List D} (hk : ∀ x ∈ its, ∃ j : Nat, x = .int (j : Int) ∧ j < 100) : (its.map numT).map numD = its := by
  induction its with
  | nil => rfl
  | cons x r ih =>
    obtain ⟨j, rfl, hj⟩ := hk x (List.mem_cons_self ..)
    rw [List.map_cons, List.map_cons, ih fun y hy => hk y (List.mem_cons_of_mem _ hy)]
    rw [show numD (numT (.int (j : Int))) = .int (j : Int) from numD_int (Nat.lt_trans (show ((j : Int)).natAbs < 100 by omega) (by decide))]
theorem rdW_P {N : Nat} {ms gs : List D} {p n : Int} {its : List D} (h0 : 0 ≤ p) (h1 : p < N) (hN : N ≤ 100) (hn : n.natAbs < 10 ^ 60) (hk : ∀ x ∈ its, ∃ j : Nat, x = .int (j : Int) ∧ j < 100) (hf : Full ms gs p n its) : rdW N ms gs (wordsP p n its) = .inr (p, n, its) := by
  have e0 : numD ((toString p : String) : Str) = .int p := numD_int (Nat.lt_trans (show p.natAbs < 100 by omega) (by decide))
  unfold wordsP
  rw [rdW, e0]
  simp only
  rw [if_pos ⟨h0, h1⟩, rdW1, if_pos (by decide +kernel), rdW2, cntD_int hn]
  simp only
  rw [items_P hk]
  exact due_end hf
theorem gotD_P {N : Nat} {ms gs : List D} {p n : Int} {its : List D} (h0 : 0 ≤ p) (h1 : p < N) (hN : N ≤ 100) (hn : n.natAbs < 10 ^ 60) (hk : ∀ x ∈ its, ∃ j : Nat, x = .int (j : Int) ∧ j < 100) (hf : Full ms gs p n its) : gotD N ms gs (textP p n its) = .tup [.str "play", .int p, .int n, .tup its] := by
  unfold gotD
  rw [split_P fun x hx => by obtain ⟨j, e, _⟩ := hk x hx; exact ⟨j, e⟩, rdW_P h0 h1 hN hn hk hf]
  rfl
theorem int_ok (i : Int) : PyData.strOk ((toString i : String) : Str) = true := strOk_tl fun c hc => by
  have := int_free hc
  omega
theorem wordsP_ok {p n : Int} {its : List D} (hk : ∀ x ∈ its, ∃ j : Nat, x = .int (j : Int)) : ∀ w ∈ wordsP p n its, PyData.strOk w = true := fun w hw => by
  unfold wordsP at hw
  simp only [List.mem_cons] at hw
  rcases hw with rfl | rfl | rfl | hw
  · exact int_ok p
  · decide +kernel
  · refine strOk_tl fun c hc => ?_
    rw [tl_append, List.mem_append, col_tl] at hc
    rcases hc with hc | hc
    · have := int_free hc
      omega
    · rw [List.mem_singleton.mp hc]
      decide
  · obtain ⟨x, hx, rfl⟩ := List.mem_map.mp hw
    obtain ⟨j, rfl⟩ := hk x hx
    exact int_ok _
theorem textP_ok {p n : Int} {its : List D} (hk : ∀ x ∈ its, ∃ j : Nat, x = .int (j : Int)) : PyData.strOk (textP p n its) = true := by
  unfold textP
  rw [join_eq]
  exact join_ok (wordsP_ok hk)
theorem wt_map {f : D → Str} {its : List D} {c : Nat} (h : ∀ x ∈ its, (f x).length ≤ c) : wt (its.map f) ≤ (c + 1) * its.length := by
  induction its with
  | nil => exact Nat.le_refl _
  | cons x r ih =>
    rw [List.map_cons, wt_cons, List.length_cons, Nat.mul_succ]
    have := ih fun y hy => h y (List.mem_cons_of_mem _ hy)
    have := h x (List.mem_cons_self ..)
    omega
theorem textP_len {p n : Int} {its : List D} (h0 : 0 ≤ p) (h1 : p < 100) (hn : n.natAbs < 10 ^ 60) (hk : ∀ x ∈ its, ∃ j : Nat, x = .int (j : Int) ∧ j < 100) (hl : its.length ≤ 40) : wt (wordsP p n its) ≤ 300 ∧ (textP p n its).length ≤ 300 := by
  have a : wt (wordsP p n its) ≤ 300 := by
    unfold wordsP
    rw [wt_cons, wt_cons, wt_cons, Str.length_append, show ("at" : Str).length = 2 by decide +kernel, show (":" : Str).length = 1 by decide +kernel]
    have b1 := numT_len (i := p) (k := 2) (by decide) (by omega)
    have b2 := numT_len (by decide) hn
    have b3 := wt_map (f := numT) (c := 3) fun x hx => by
      obtain ⟨j, rfl, hj⟩ := hk x hx
      exact numT_len (i := (j : Int)) (k := 2) (by decide) (by omega)
    omega
  refine ⟨a, ?_⟩
  have := joined_len (ws := wordsP p n its) (by unfold wordsP; simp)
  unfold textP
  rw [join_eq]
  omega
end DW

namespace DW
open PySem PySem.Spec L2
open TL

theorem log_lt {n : Nat} (h : n < 10 ^ 60) : n.log2 < 1920 := by
  by_cases z : n = 0
  · subst z
    decide
  · exact (Nat.log2_lt z).mpr (Nat.lt_trans h (by decide +kernel))
abbrev NatK (x : D) : Prop := ∃ j : Nat, x = .int (j : Int) ∧ j < 100
def fwText (ad : Str → Addr) : FW := fun ds m Q => ∃ ss ms gs p k its, ds = [playO ad ss ms gs p k its] ∧ 0 ≤ p ∧ p < 100 ∧ k.natAbs < 10 ^ 60 ∧ (∀ x ∈ its, NatK x) ∧ its.length ≤ 40 ∧ Q (.str (textP p k its)) m
def fwCol : FW := fun ds m Q => ∃ (ws : List Str) (k : Nat), ds = [.lst (ws.map D.str), .int (k : Int)] ∧ (∀ w ∈ ws, w.length ≤ sizeLine) ∧ ws.length ≤ 1000 ∧ Q (.int (colN ws k)) m
def lenF : D → D
  | .str w => .int ((w.length : Int) + 1)
  | _ => .non
def fwRead (ad : Str → Addr) : FWX := fun ds m Q QX => ∃ ss ms gs d, ds = [bookO ad ss ms gs, d] ∧ GoodB 60 ss ms gs ∧ d.known (csB ad) = true ∧
  (d.isTy "str" = false → QX (ad "BadText") [("column", .int 0), ("line", .int 0)] m) ∧
  ∀ x : Str, d = .str x → PyData.strOk x = true ∧ x.length ≤ 900 ∧ (∀ k, rdW ss.length ms gs (Txt.split x " ") = .inl k → QX (ad "BadText") [("column", .int (colN (Txt.split x " ") k)), ("line", .int 1)] m) ∧
    ∀ p n its, rdW ss.length ms gs (Txt.split x " ") = .inr (p, n, its) → Q (playO ad ss ms gs p n its) m
theorem int_empty (i : Int) : Str.empty ++ ((toString i : String) : Str) = ((toString i : String) : Str) := ext_tl (by rw [tl_append]; rfl)
theorem wt_sum (ws : List Str) : (ws.map (·.length)).sum + ws.length * (" " : Str).length = wt ws := by
  rw [show (" " : Str).length = 1 by decide +kernel, Nat.mul_one]
  induction ws with
  | nil => rfl
  | cons w r ih =>
    rw [wt_cons, ← ih, List.map_cons, List.sum_cons, List.length_cons]
    omega
theorem colN_0 {w : Str} {r : List Str} : colN (w :: r) 0 = 1 := by
  unfold colN lens
  rw [if_pos (by simp)]
  rfl
theorem rd_at0 {N : Nat} {ms gs : List D} {w : Str} {r : List Str} (h : (numD w).isIx N = false) : rdW N ms gs (w :: r) = .inl 0 := by
  rw [rdW]
  rcases numD_or w with e | ⟨p, e⟩
  · rw [e]
  · rw [e] at h ⊢
    simp only
    rw [if_neg]
    rintro ⟨a, b⟩
    rw [ix_yes a b] at h
    cases h
def cnF : List Str → D
  | [] => .non
  | w :: _ => cntD w
def numF : D → D
  | .str w => numD w
  | _ => .non
theorem lenCut {x : Str} {a b : Option Int} : (L2.cutS x a b).length ≤ x.length := by
  unfold L2.cutS
  show (List.toArray _).size ≤ x.cps.size
  simp
  omega
section
variable {P : Program} {w : World} {K : PySem.W.Frag} {TT : List (Addr × Str)} {mg : Str → Option Value} {base : Heap} {ad : Str → Addr}
abbrev s_play_text : Stmt := topS 43
theorem sc_play_text : FnScope ["play", "index"] ["play"] (defScope s_play_text) := ⟨rfl, rfl, rfl, by decide +kernel, rfl, by decide +kernel, by decide +kernel⟩
theorem ok_play_text {f : Addr} {fd : FuncData} (F : Fun K "play_text" "play_text" s_play_text f fd) (T : TB K mg ad) : FnG false P w K mg base CX0 1 f fd ["play"] (spD K TT (fwText ad)) := by
  refine fn_data (k := 0) F sc_play_text (fun ds m Q h => ?_) (fun cdv A outer s H E p cc B hr hgs hcd => (dss_one (ds_ret (de_join de_str (de_add (de_lst (da_cons (de_callTy call_str_int rd_str (by rfl) T.b_str (by decide +kernel) (da_cons (de_fld (K := K) rfl (de_var 0)) da_nil)) (da_cons de_str (da_cons (de_joined (dj_cons (de_fmt (de_fld (K := K) rfl (de_var 0))) (dj_cons de_str dj_nil))) da_nil)))) (DL.de (dl_lc (own := [("index", 1)]) rfl sc_play_text.nd (di_seq (de_fld (K := K) rfl (de_var 0))) (blkOk_by (own := [("index", 1)]) (N := ["play", "index"]) (sc := defScope s_play_text) (by decide +kernel)) (fun _ _ _ _ _ => (dg_name (i := 1) sc_play_text.nd rfl (by first | exact Or.inl rfl | exact Or.inr rfl))) (by decide) (fun _ _ _ _ _ => dts_nil) (fun _ _ _ _ _ => (de_callTy call_str_int rd_str (by rfl) T.b_str (by decide +kernel) (da_cons (de_var 1) da_nil)))))))))) fun ds m Q h => ?_
  · obtain ⟨ss, ms, gs, p, k, its, rfl, _⟩ := h
    rfl
  · obtain ⟨ss, ms, gs, p, k, its, rfl, p0, p1, hk, hi, hl, hQ⟩ := h
    have cp := T.cl "Play" (by decide)
    have lp : p.natAbs.log2 < 1920 := log_lt (Nat.lt_trans (show p.natAbs < 100 by omega) (by decide))
    have ek : Str.empty ++ ((toString k : String) : Str) ++ ":" = ((toString k : String) ++ ":" : Str) := by rw [int_empty]
    have tl_ := textP_len p0 p1 hk hi hl
    have wk : ((toString k : String) ++ ":" : Str).length + 1 ≤ wt (wordsP p k its) := wt_ge (by unfold wordsP; simp)
    rw [Str.length_append] at wk
    have small : (300 : Nat) ≤ sizeLine := by decide
    refine ⟨_, rfl, _, _, _, rfl, cp, T.na ("Play", "place") (by decide), rfl, lp, _, _, _, rfl, cp, T.na ("Play", "n") (by decide), rfl, ⟨log_lt hk, _, rfl, ?_, _, rfl, ?_, (show 3 ≤ sizeLine by decide), _, _, _, rfl, cp, T.na ("Play", "moves") (by decide), rfl, szl (by omega), IMap its (fun u => .str (numT u)) m, ⟨rfl, rfl⟩, fun i x acc m' hx hI => ?_, fun acc m' hI => ?_⟩⟩
    · rw [int_empty]
      omega
    · rw [ek, Str.length_append]
      omega
    · obtain ⟨j, rfl, hj⟩ := hi x (List.mem_of_getElem? hx)
      exact ⟨log_lt (Nat.lt_trans (show ((j : Int)).natAbs < 100 by omega) (by decide)), hI.next hx rfl⟩
    · obtain ⟨rfl, rfl⟩ := hI.fin
      refine ⟨by rw [List.length_map]; show 3 + its.length ≤ sizeLine; omega, wordsP p k its, ?_, ?_, hQ⟩
      · rw [ek]
        unfold wordsP
        rw [List.map_cons, List.map_cons, List.map_cons, List.map_map]
        rfl
      · rw [wt_sum]
        exact Nat.le_trans tl_.1 (by decide)
abbrev s__column : Stmt := topS 45
theorem sc__column : FnScope ["words", "number", "column", "word"] ["words", "number"] (defScope s__column) := ⟨rfl, rfl, rfl, by decide +kernel, rfl, by decide +kernel, by decide +kernel⟩
theorem ok__column {f : Addr} {fd : FuncData} (F : Fun K "_column" "_column" s__column f fd) (T : TB K mg ad) : FnG false P w K mg base CX0 1 f fd ["words", "number"] (spD K TT fwCol) := by
  refine fn_data (k := 0) F sc__column (fun ds m Q h => ?_) (fun cdv A outer s H E p cc B hr hgs hcd => (dss_cons (ds_set (i := 2) sc__column.nd rfl (by first | exact Or.inl rfl | exact Or.inr rfl) (de_add (de_callB (cr_sum rfl) rd_sum (by rfl) T.b_sum (by decide +kernel) (da_cons (DL.de (dl_lc (own := [("word", 3)]) rfl sc__column.nd (di_seq (de_slice (de_var 0) do_none (do_some (de_var 1)))) (blkOk_by (own := [("word", 3)]) (N := ["words", "number", "column", "word"]) (sc := defScope s__column) (by decide +kernel)) (fun _ _ _ _ _ => (dg_name (i := 3) sc__column.nd rfl (by first | exact Or.inl rfl | exact Or.inr rfl))) (by decide) (fun _ _ _ _ _ => dts_nil) (fun _ _ _ _ _ => (de_add (de_callB call_len rd_len (by rfl) T.b_len (by decide +kernel) (da_cons (de_var 3) da_nil)) de_int)))) da_nil)) de_int))
    (dss_one (ds_ret (de_ifExp (dt_lt (de_var 1) (de_callB call_len rd_len (by rfl) T.b_len (by decide +kernel) (da_cons (de_var 0) da_nil))) (de_var 2) (de_sub (de_var 2) de_int)))))) fun ds m Q h => ?_
  · obtain ⟨ws, k, rfl, _⟩ := h
    rfl
  · obtain ⟨ws, k, rfl, hw, hl, hQ⟩ := h
    have ct : cutG (ws.map D.str) none (some (k : Int)) = (ws.take k).map D.str := by rw [cutG_to, List.map_take]
    refine ⟨szl (by rw [ct, List.length_map, List.length_take]; omega), IMap (cutG (ws.map D.str) none (some (k : Int))) lenF m, ⟨rfl, rfl⟩, fun i x acc m' hx hI => ?_, fun acc m' hI => ?_⟩
    · have hx2 := hx
      rw [ct, List.getElem?_map] at hx2
      obtain ⟨w, hw1, rfl⟩ := Option.map_eq_some_iff.mp hx2
      exact ⟨hw w (List.mem_of_mem_take (List.mem_of_getElem? hw1)), hI.next hx rfl⟩
    obtain ⟨rfl, rfl⟩ := hI.fin
    refine ⟨(ws.take k).map fun w => (w.length : Int) + 1, ?_, ?_⟩
    · rw [ct, List.map_map, List.map_map]
      rfl
    have e : colN ws k = if k < ws.length then lens (ws.take k) + 1 else lens (ws.take k) + 1 - 1 := by
      unfold colN
      split
      · rfl
      · omega
    refine ite_yn (fun z => ?_) fun z => ?_
    · have z : ((k : Int) < ((ws.map D.str).length : Int)) := of_decide_eq_true z
      rw [List.length_map] at z
      rw [e, if_pos (by omega)] at hQ
      exact hQ
    · have z : ¬ ((k : Int) < ((ws.map D.str).length : Int)) := of_decide_eq_false z
      rw [List.length_map] at z
      rw [e, if_neg (by omega)] at hQ
      exact hQ
abbrev s_read_play : Stmt := topS 44
theorem sc_read_play : FnScope ["book", "text", "words", "place", "n", "moves", "word", "states"] ["book", "text"] (defScope s_read_play) := ⟨rfl, rfl, rfl, by decide +kernel, rfl, by decide +kernel, by decide +kernel⟩
theorem ok_read_play {f : Addr} {fd : FuncData} (F : Fun K "read_play" "read_play" s_read_play f fd) {lev : Lev} (T : TB K mg ad) (f_number_of : DFn false P w K TT mg base 2 "number_of" fwNum) (f_is_index : DFn false P w K TT mg base 2 "is_index" (fwIndex (csB ad))) (f__column : DFn false P w K TT mg base 1 "_column" fwCol) (f__states : DFn false P w K TT mg base 5 "_states" (fwStates ad)) (mk_BadText : MkX P w K mg base "BadText" (ad "BadText") ["line", "column"]) (mk_Play : MkIX P w K TT mg base 9 "Play" (ad "Play") (fiPlay ad)) (E0 : EqE P w K TT mg base lev 0) (N0 : NeE K lev) : FnOk P w K mg base (L2.CX P w) 11 f fd ["book", "text"] (spDX K TT (fwRead ad)) := by
  refine fn_dataXE (k := 10) F sc_read_play (fun ds m Q QX h => ?_) (fun cdv A outer s H E p cc B wx hr tk hW hcd => (dss_cons (ds_if (dt_not (dt_val (de_isB (K := K) (T := "str") rfl (by rfl) T.b_isinstance (by rfl) T.b_str (by decide +kernel) (de_var 1))))
    (dss_one (ds_raise mk_BadText rfl tk hW hr (by decide) (by rfl) (da_cons de_int (da_cons de_int da_nil))))
    dss_nil)
    (dss_cons (ds_set (i := 2) sc_read_play.nd rfl (by first | exact Or.inl rfl | exact Or.inr rfl) (DL.de (dl_split (de_var 1) de_str)))
    (dss_cons (ds_set (i := 3) sc_read_play.nd rfl (by first | exact Or.inl rfl | exact Or.inr rfl) (de_call f_number_of hr nog (by decide) (by rfl) (da_cons (de_sub2 hr (de_var 2) de_int (fun _ _ => rfl)) da_nil)))
    (dss_cons (ds_if (dt_not (dt_val (de_call f_is_index hr nog (by decide) (by rfl) (da_cons (de_var 3) (da_cons (de_fld (K := K) rfl (de_var 0)) da_nil)))))
    (dss_one (ds_raise mk_BadText rfl tk hW hr (by decide) (by rfl) (da_cons de_int (da_cons de_int da_nil))))
    dss_nil)
    (dss_cons (ds_if (DTw.dt (dtw_or (dt_lt (de_callB call_len rd_len (by rfl) T.b_len (by decide +kernel) (da_cons (de_var 2) da_nil)) de_int) (dtw_or1 (dt_neX (n := 0) E0 N0 hr (by decide) (de_sub2 hr (de_var 2) de_int (fun _ _ => rfl)) de_str))))
    (dss_one (ds_raise mk_BadText rfl tk hW hr (by decide) (by rfl) (da_cons de_int (da_cons (de_call f__column hr nog (by decide) (by rfl) (da_cons (de_var 2) (da_cons de_int da_nil))) da_nil))))
    dss_nil)
    (dss_cons (ds_set (i := 4) sc_read_play.nd rfl (by first | exact Or.inl rfl | exact Or.inr rfl) (de_ifExp (DTw.dt (dtw_and (dt_gt (de_callB call_len rd_len (by rfl) T.b_len (by decide +kernel) (da_cons (de_var 2) da_nil)) de_int) (dtw_and1 (dt_eqX (n := 0) E0 hr (by decide) (de_slice (de_sub2 hr (de_var 2) de_int (fun _ _ => rfl)) (do_some (de_neg de_int)) do_none) de_str)))) (de_call f_number_of hr nog (by decide) (by rfl) (da_cons (de_slice (de_sub2 hr (de_var 2) de_int (fun _ _ => rfl)) do_none (do_some (de_neg de_int))) da_nil)) de_non))
    (dss_cons (ds_if (dt_isN (de_var 4))
    (dss_one (ds_raise mk_BadText rfl tk hW hr (by decide) (by rfl) (da_cons de_int (da_cons (de_call f__column hr nog (by decide) (by rfl) (da_cons (de_var 2) (da_cons de_int da_nil))) da_nil))))
    dss_nil)
    (dss_cons (ds_setLcD (i := 5) (own := [("word", 6)]) sc_read_play.nd rfl rfl rfl rfl (di_seq (de_slice (de_var 2) (do_some de_int) do_none)) (blkOk_by (own := [("word", 6)]) (N := ["book", "text", "words", "place", "n", "moves", "word", "states"]) (sc := defScope s_read_play) (by decide +kernel)) (fun _ _ _ _ _ => (dg_name (i := 6) sc_read_play.nd rfl (by first | exact Or.inl rfl | exact Or.inr rfl))) (by decide) (fun _ _ _ _ _ => dts_nil) (fun _ _ _ _ _ => (de_call f_number_of hr nog (by decide) (by rfl) (da_cons (de_var 6) da_nil))))
    (dss_cons (ds_set (i := 7) sc_read_play.nd rfl (by first | exact Or.inl rfl | exact Or.inr rfl) (de_call f__states hr nog (by decide) (by rfl) (da_cons (de_var 0) (da_cons (de_var 3) (da_cons (de_var 4) (da_cons (de_var 5) da_nil))))))
    (dss_cons (ds_if (dt_le (de_callB call_len rd_len (by rfl) T.b_len (by decide +kernel) (da_cons (de_var 7) da_nil)) (de_callB call_len rd_len (by rfl) T.b_len (by decide +kernel) (da_cons (de_var 5) da_nil)))
    (dss_one (ds_raise mk_BadText rfl tk hW hr (by decide) (by rfl) (da_cons de_int (da_cons (de_call f__column hr nog (by decide) (by rfl) (da_cons (de_var 2) (da_cons (de_add (de_callB call_len rd_len (by rfl) T.b_len (by decide +kernel) (da_cons (de_var 7) da_nil)) de_int) da_nil))) da_nil))))
    dss_nil)
    (dss_one (ds_ret (de_mkIX mk_Play tk hW hr (by decide) (by rfl) (da_cons (de_var 0) (da_cons (de_var 3) (da_cons (de_var 4) (da_cons (de_var 5) da_nil)))))))))))))))))) fun ds m Q QX h => ?_
  · obtain ⟨ss, ms, gs, d, rfl, _⟩ := h
    rfl
  · obtain ⟨ss, ms, gs, d, rfl, G, hk, hno, hyes⟩ := h
    have cb := T.cl "Book" (by decide)
    obtain ⟨t, h1, h2⟩ := T.ki.isB hk (T := "str") (by decide)
    refine ⟨t, _, h1, h2, ite_yn (fun z => ?_) fun z => ?_⟩
    · exact ⟨rfl, hno (notT z)⟩
    have z := notF z
    obtain ⟨x, rfl⟩ : ∃ x, d = .str x := by cases d <;> first | exact ⟨_, rfl⟩ | cases z
    obtain ⟨xo, xl, hbad, hgood⟩ := hyes x rfl
    have small : (2000 : Nat) ≤ sizeLine := by decide
    refine ⟨_, rfl, _, rfl, by decide +kernel, by omega, ?_⟩
    have okw : ∀ w ∈ Txt.split x " ", PyData.strOk w = true ∧ w.length ≤ sizeLine := fun w hw => ⟨split_ok xo hw, by have := split_le hw; omega⟩
    have cnt := split_cnt x
    have sne := split_ne x
    generalize Txt.split x " " = ws at *
    obtain ⟨w0, r0, rfl⟩ : ∃ w r, ws = w :: r := by
      cases ws with
      | nil => exact absurd rfl sne
      | cons w r => exact ⟨w, r, rfl⟩
    have ok0 := okw w0 (List.mem_cons_self ..)
    have lenw : ∀ w ∈ w0 :: r0, w.length ≤ sizeLine := fun w hw => (okw w hw).2
    rw [List.length_cons] at cnt
    refine .inl ⟨.str w0, atI_pos (by decide) rfl, w0, rfl, ok0.1, ok0.2, _, _, _, rfl, cb, T.na ("Book", "places") (by decide), rfl, numD w0, _, rfl, by rcases numD_or w0 with e | ⟨p, e⟩ <;> rw [e] <;> rfl, ite_yn (fun y => ?_) fun y => ?_⟩
    · have := hbad 0 (rd_at0 (notT y))
      rw [colN_0] at this
      exact ⟨rfl, this⟩
    have y := notF y
    obtain ⟨p, ep⟩ : ∃ p, numD w0 = .int p := by
      rcases numD_or w0 with e | h
      · rw [e] at y
        cases y
      · exact h
    rw [ep] at y ⊢
    have yy : (decide (0 ≤ p) && decide (p < ss.length)) = true := y
    rw [Bool.and_eq_true] at yy
    have p0 := of_decide_eq_true yy.1
    have p1 := of_decide_eq_true yy.2
    have eW : rdW ss.length ms gs (w0 :: r0) = rdW1 ms gs p r0 := by
      rw [rdW, ep]
      simp only
      rw [if_pos ⟨p0, p1⟩]
    rw [eW] at hbad hgood
    have badc : ∀ (k : Nat), rdW1 ms gs p r0 = .inl k → fwCol [.lst ((w0 :: r0).map D.str), .int (k : Int)] m fun c m1 => [D.int 1, c].length = ["line", "column"].length ∧ QX (ad "BadText") ([("line", D.int 1), ("column", c)] : List (Str × D)).reverse m1 := fun k e => ⟨_, k, rfl, lenw, by rw [List.length_cons]; omega, rfl, hbad k e⟩
    refine ite_yn (fun v => ?_) fun v => ?_
    · have v : (((w0 :: r0).map D.str).length : Int) < 2 := of_decide_eq_true v
      rw [List.length_map, List.length_cons] at v
      obtain rfl : r0 = [] := List.length_eq_zero_iff.mp (by omega)
      exact badc 1 (by rw [rdW1])
    have v : ¬ (((w0 :: r0).map D.str).length : Int) < 2 := of_decide_eq_false v
    rw [List.length_map, List.length_cons] at v
    obtain ⟨w1, r1, rfl⟩ : ∃ w r, r0 = w :: r := by
      cases r0 with
      | nil => exact absurd (show (((0 : Nat) + 1 : Nat) : Int) < 2 by decide) v
      | cons w r => exact ⟨w, r, rfl⟩
    have ok1 := okw w1 (by simp)
    refine .inl ⟨.str w1, atI_pos (by decide) rfl, pl_cmp ok1.1 (show PyData.strOk ("at" : Str) = true by decide +kernel), Nat.zero_le _, ?_⟩
    rw [str_eqb (l := [97, 116]) (by decide +kernel)]
    refine ite_yn (fun u => ?_) fun u => ?_
    · have u : decide (w1.cps.toList = [97, 116]) = false := notT u
      exact badc 1 (by rw [rdW1, if_neg (of_decide_eq_false u)])
    have u : w1.cps.toList = [97, 116] := of_decide_eq_true (notF u)
    rw [rdW1, if_pos u] at hbad hgood badc
    refine cutS (k := ?k1) (fun ρ m' => (∃ c5 c6 c7, ρ = [.dat (bookO ad ss ms gs), .dat (.str x), .dat (.lst ((w0 :: w1 :: r1).map D.str)), .dat (.int p), .dat (cnF r1), c5, c6, c7]) ∧ m' = m) ?b1 fun tail => ?a1
    case a1 =>
      dsimp only
      refine ite_yn (fun t => ?_) fun t => ?_
      · have t : (2 : Int) < (((w0 :: w1 :: r1).map D.str).length : Int) := of_decide_eq_true t
        obtain ⟨w2, r2, rfl⟩ : ∃ w r, r1 = w :: r := by
          cases r1 with
          | nil => simp at t
          | cons w r => exact ⟨w, r, rfl⟩
        have ok2 := okw w2 (by simp)
        refine .inl ⟨.str w2, atI_pos (by decide) rfl, ok2.2, pl_cmp (strOk_cut ok2.1) (show PyData.strOk (":" : Str) = true by decide +kernel), Nat.zero_le _, ?_⟩
        rw [str_eqb (l := [58]) (by decide +kernel)]
        refine ite_yn (fun s => ?_) fun s => ?_
        · have s : (L2.cutS w2 (some (-1 : Int)) none).cps.toList = [58] := of_decide_eq_true s
          refine .inl ⟨.str w2, atI_pos (by decide) rfl, ok2.2, _, rfl, strOk_cut ok2.1, Nat.le_trans lenCut ok2.2, ?_⟩
          refine tail _ _ ?_
          have e : cnF (w2 :: r2) = numD (L2.cutS w2 none (some (-1 : Int))) := by
            show cntD w2 = _
            unfold cntD
            rw [if_pos s]
          rw [e]
          exact ⟨⟨_, _, _, rfl⟩, rfl⟩
        · have s : ¬ (L2.cutS w2 (some (-1 : Int)) none).cps.toList = [58] := of_decide_eq_false s
          refine tail _ _ ?_
          have e : cnF (w2 :: r2) = .non := by
            show cntD w2 = _
            unfold cntD
            rw [if_neg s]
          rw [e]
          exact ⟨⟨_, _, _, rfl⟩, rfl⟩
      · have t : ¬ (2 : Int) < (((w0 :: w1 :: r1).map D.str).length : Int) := of_decide_eq_false t
        rw [List.length_map, List.length_cons, List.length_cons] at t
        obtain rfl : r1 = [] := List.length_eq_zero_iff.mp (by omega)
        refine tail _ _ ?_
        exact ⟨⟨_, _, _, rfl⟩, rfl⟩
    rintro ρ m' ⟨⟨c5, c6, c7, rfl⟩, rfl⟩
    have cnor : cnF r1 = .non ∨ ∃ (n : Int) (w2 : Str) (r2 : List Str), r1 = w2 :: r2 ∧ cntD w2 = .int n ∧ cnF r1 = .int n := by
      cases r1 with
      | nil => exact .inl rfl
      | cons w2 r2 =>
        rcases cntD_or w2 with e | ⟨n, e⟩
        · exact .inl e
        · exact .inr ⟨n, w2, r2, rfl, e, e⟩
    rcases cnor with en | ⟨n, w2, r2, rfl, e2, en⟩
    · rw [en]
      refine badc 2 ?_
      cases r1 with
      | nil => rfl
      | cons w2 r2 =>
        have en : cntD w2 = .non := en
        rw [rdW2, en]
    rw [en]
    rw [rdW2, e2] at hbad hgood badc
    simp only at hbad hgood badc
    have ec : cutG ((w0 :: w1 :: w2 :: r2).map D.str) (some (3 : Int)) none = r2.map D.str := by
      rw [show (3 : Int) = ((3 : Nat) : Int) from rfl, cutG_from]
      rfl
    simp only [List.length_cons] at cnt
    refine ⟨szl (by rw [ec, List.length_map]; omega), IMap (cutG ((w0 :: w1 :: w2 :: r2).map D.str) (some (3 : Int)) none) numF m', ⟨rfl, rfl⟩, fun i d acc m2 hd hI => ?_, fun acc m2 hI => ?_⟩
    · have hd2 := hd
      rw [ec, List.getElem?_map] at hd2
      obtain ⟨w, hw, rfl⟩ := Option.map_eq_some_iff.mp hd2
      have okw' := okw w (by simp [List.mem_of_getElem? hw])
      exact ⟨w, rfl, okw'.1, okw'.2, hI.next hd rfl⟩
    obtain ⟨rfl, rfl⟩ := hI.fin
    have eA : (cutG ((w0 :: w1 :: w2 :: r2).map D.str) (some (3 : Int)) none).map numF = r2.map numD := by
      rw [ec, List.map_map]
      rfl
    rw [eA]
    obtain ⟨l1, l2⟩ := walk_len (ms := ms) (gs := gs) (its := r2.map numD) (p := p) (k := n)
    have kn : ∀ z ∈ r2.map numD, z.known (csB ad) = true := fun z hz => by
      obtain ⟨w, _, rfl⟩ := List.mem_map.mp hz
      rcases numD_or w with e | ⟨q, e⟩ <;> rw [e] <;> rfl
    refine ⟨ss, ms, gs, p, n, _, r2.map numD, rfl, G, p0, p1, .inl rfl, kn, by rw [List.length_map]; omega, ?_⟩
    have hlm : ((walkS ms gs p n (r2.map numD)).map stD).length = (walkS ms gs p n (r2.map numD)).length := len_map
    refine ite_yn (fun s => ?_) fun s => ?_
    · have s : (((walkS ms gs p n (r2.map numD)).map stD).length : Int) ≤ ((r2.map numD).length : Int) := of_decide_eq_true s
      refine badc (((walkS ms gs p n (r2.map numD)).map stD).length + 2) ?_
      unfold rdW3
      rw [if_pos (by omega), hlm]
    have s : ¬ (((walkS ms gs p n (r2.map numD)).map stD).length : Int) ≤ ((r2.map numD).length : Int) := of_decide_eq_false s
    have hQ := hgood p n (r2.map numD) (by
      unfold rdW3
      rw [if_neg (by omega)])
    refine ⟨ss, ms, gs, .int p, .int n, .lst (r2.map numD), rfl, G, rfl, rfl, rfl, ⟨fun z => (by rw [y] at z; cases z), fun _ z => (by cases z), fun a' b' e1 e2 _ => ?_⟩⟩
    cases e1
    cases e2
    refine ⟨fun z => (by cases z), fun _ => ⟨kn, ?_, fun _ => hQ, fun hle _ _ => ?_⟩⟩
    · show (r2.map numD).length ≤ 1000
      rw [List.length_map]
      omega
    · exfalso
      have hle : (walkS ms gs p n (r2.map numD)).length ≤ (r2.map numD).length := hle
      omega
end
end DW

namespace DW
open PySem PySem.Spec L2
open TL

def endB (ms gs : List D) (p n : Int) : Bool := gs.any (glHit p n) || (openF p n 0 ms).isEmpty
def fwEndB : FW := fun ds m Q => ∃ ss ms gs p n, ds = [bookT ss ms gs, .int p, .int n] ∧ GoodB 60 ss ms gs ∧ 0 ≤ p ∧ p < ss.length ∧ Q (.bl (endB ms gs p n)) m
def fwDrMv : FW := fun ds m Q => ∃ ss ms gs p n, ds = [.pen, bookT ss ms gs, .tup [.int p, .int n]] ∧ GoodB 60 ss ms gs ∧ 0 ≤ p ∧ p < ss.length ∧ m < 10000000000 ∧ ∀ its m', Full ms gs p n its → its.length ≤ 20 → (∀ x ∈ its, NatK x) → m' ≤ m + 60 → Q (.lst its) m'
theorem last_snoc {ms gs : List D} {its : List D} {p k : Int} {d : D} (h : Full ms gs p k its) (hb : stepB ms gs (lastS ms gs p k its).1 (lastS ms gs p k its).2 d = true) : lastS ms gs p k (its ++ [d]) = stepTo ms (lastS ms gs p k its).2 d := by
  have e := (full_snoc h hb).2
  unfold lastS at e ⊢
  rw [e, List.getLast?_append]
  rfl
theorem endB_no {ms gs : List D} {p n : Int} (h : endB ms gs p n = false) : gs.any (glHit p n) = false ∧ 0 < (openF p n 0 ms).length := by
  unfold endB at h
  rw [Bool.or_eq_false_iff] at h
  refine ⟨h.1, ?_⟩
  cases q : openF p n 0 ms with
  | nil =>
    rw [q] at h
    cases h.2
  | cons _ _ => exact Nat.succ_pos _
section
variable {P : Program} {w : World} {K : PySem.W.Frag} {TT : List (Addr × Str)} {mg : Str → Option Value} {base : Heap} {ad : Str → Addr}
abbrev s__law_ended : Stmt := topS 63
theorem sc__law_ended : FnScope ["_law_book", "_law_place", "_law_n"] ["_law_book", "_law_place", "_law_n"] (defScope s__law_ended) := ⟨rfl, rfl, rfl, by decide +kernel, rfl, by decide +kernel, by decide +kernel⟩
theorem ok__law_ended {f : Addr} {fd : FuncData} (F : Fun K "_law_ended" "_law_ended" s__law_ended f fd) {lev : Lev} (T : TB K mg ad) (f__law_is_goal : DFn false P w K TT mg base 7 "_law_is_goal" fwLGoal) (f__law_open : DFn false P w K TT mg base 4 "_law_open" fwLOpen) (E5 : EqE P w K TT mg base lev 5) (N0 : NeE K lev) : FnG false P w K mg base CX0 8 f fd ["_law_book", "_law_place", "_law_n"] (spD K TT fwEndB) := by
  refine fn_data (k := 7) F sc__law_ended (fun ds m Q h => ?_) (fun cdv A outer s H E p cc B hr hgs hcd => (dss_one (ds_ret (de_or (de_call f__law_is_goal hr nog (by decide) (by rfl) (da_cons (de_var 0) (da_cons (de_var 1) (da_cons (de_var 2) da_nil)))) (de_one (de_eqX (n := 5) E5 hr (by decide) (de_call f__law_open hr nog (by decide) (by rfl) (da_cons (de_var 0) (da_cons (de_var 1) (da_cons (de_var 2) da_nil)))) (de_lst da_nil))))))) fun ds m Q h => ?_
  · obtain ⟨ss, ms, gs, p, n, rfl, _⟩ := h
    rfl
  · obtain ⟨ss, ms, gs, p, n, rfl, G, p0, p1, hQ⟩ := h
    refine ⟨ss, ms, gs, p, n, rfl, G, ?_⟩
    unfold endB at hQ
    refine ite_yn (fun z => ?_) fun z => ?_
    · rw [z] at hQ
      exact hQ
    rw [z, Bool.false_or] at hQ
    obtain ⟨a, b⟩ := intsL_pl (xs := openF p n 0 ms) fun x hx => openF_int hx
    refine ⟨ss, ms, gs, p, n, rfl, G, Nat.zero_le _, pl_cmp a rfl, Nat.le_trans (Nat.le_of_eq (need_dep (lev := lev) a)) (by omega), ?_⟩
    rw [lstNil_eqb]
    exact hQ
abbrev s__law_drawn_moves : Stmt := topS 67
theorem sc__law_drawn_moves : FnScope ["_law_pen_here", "_law_book", "_law_state", "_law_moves", "_law_here", "_law_lap", "_law_index"] ["_law_pen_here", "_law_book", "_law_state"] (defScope s__law_drawn_moves) := ⟨rfl, rfl, rfl, by decide +kernel, rfl, by decide +kernel, by decide +kernel⟩
theorem ok__law_drawn_moves {f : Addr} {fd : FuncData} (F : Fun K "_law_drawn_moves" "_law_drawn_moves" s__law_drawn_moves f fd) (T : TB K mg ad) (f__law_pick : DFn false P w K TT mg base 2 "_law_pick" fwPick) (f__law_ended : DFn false P w K TT mg base 8 "_law_ended" fwEndB) (f__law_open : DFn false P w K TT mg base 4 "_law_open" fwLOpen) : FnG false P w K mg base CX0 9 f fd ["_law_pen_here", "_law_book", "_law_state"] (spD K TT fwDrMv) := by
  refine fn_data (k := 8) F sc__law_drawn_moves (fun ds m Q h => ?_) (fun cdv A outer s H E p cc B hr hgs hcd => (dss_cons (ds_parOE (i := 3) (j := 4) (fun _ h => ps_par (i := 3) (j := 4) rfl sc__law_drawn_moves.nd rfl rfl (by decide) rfl rfl h rfl) (dl_lst da_nil) (de_var 2))
    (dss_cons (ds_for PassesOwn.never rfl (di_range1 (by rfl) T.b_range (da_cons (de_call f__law_pick hr nog (by decide) (by rfl) (da_cons (de_var 0) (da_cons (de_lst (da_cons de_int (da_cons de_int (da_cons de_int (da_cons de_int (da_cons de_int da_nil)))))) da_nil))) da_nil)) (dg_name (i := 5) sc__law_drawn_moves.nd rfl (by first | exact Or.inl rfl | exact Or.inr rfl))
    (dss_cons (ds_if (dt_val (de_call f__law_ended hr nog (by decide) (by rfl) (da_cons (de_var 1) (da_cons (de_sub2 hr (de_var 4) de_int (fun _ _ => rfl)) (da_cons (de_sub2 hr (de_var 4) de_int (fun _ _ => rfl)) da_nil)))))
    (dss_one ds_break)
    dss_nil)
    (dss_cons (ds_set (i := 6) sc__law_drawn_moves.nd rfl (by first | exact Or.inl rfl | exact Or.inr rfl) (de_call f__law_pick hr nog (by decide) (by rfl) (da_cons (de_var 0) (da_cons (de_call f__law_open hr nog (by decide) (by rfl) (da_cons (de_var 1) (da_cons (de_sub2 hr (de_var 4) de_int (fun _ _ => rfl)) (da_cons (de_sub2 hr (de_var 4) de_int (fun _ _ => rfl)) da_nil)))) da_nil))))
    (dss_cons (ds_append (i := 3) (fun _ h => pe_bm PySem.F.plainAttrs_list PySem.F.slot_list_append PySem.F.type_list_append mt_append (pv 3) (pa_cons h pa_nil)) (de_var 6))
    (dss_one (ds_set (i := 4) sc__law_drawn_moves.nd rfl (by first | exact Or.inl rfl | exact Or.inr rfl) (de_tup (da_cons (de_sub2 hr (de_sub2 hr (de_sub2 hr (de_var 1) de_str (fun _ _ => rfl)) (de_var 6) (fun _ _ => rfl)) de_int (fun _ _ => rfl)) (da_cons (de_add (de_sub2 hr (de_var 4) de_int (fun _ _ => rfl)) (de_sub2 hr (de_sub2 hr (de_sub2 hr (de_var 1) de_str (fun _ _ => rfl)) (de_var 6) (fun _ _ => rfl)) de_int (fun _ _ => rfl))) da_nil)))))))))
    (dss_one (ds_frz 3 (ds_ret (de_var 3))))))) fun ds m Q h => ?_
  · obtain ⟨ss, ms, gs, p, n, rfl, _⟩ := h
    rfl
  · obtain ⟨ss, ms, gs, p, n, rfl, G, p0, p1, hm, hQ⟩ := h
    refine ⟨Nat.zero_le _, (show 5 ≤ sizeLine by decide), _, rfl, (show 0 < 5 by decide), (show 5 < 1073741824 by decide), by omega, fun x hx => ?_⟩
    obtain ⟨N, rfl, hN⟩ : ∃ N : Nat, x = .int (N : Int) ∧ N ≤ 20 := by
      simp only [List.mem_cons, List.not_mem_nil, or_false] at hx
      rcases hx with rfl | rfl | rfl | rfl | rfl
      · exact ⟨0, rfl, by decide⟩
      · exact ⟨1, rfl, by decide⟩
      · exact ⟨3, rfl, by decide⟩
      · exact ⟨12, rfl, by decide⟩
      · exact ⟨20, rfl, by decide⟩
    have ml := G.ml
    refine ⟨⟨by omega, by omega⟩, fun i ρ m' => (∃ (its : List D) (c5 c6 : Cell), ρ = [.dat .pen, .dat (bookT ss ms gs), .dat (.tup [.int p, .int n]), .own (.lst its), .dat (stD (lastS ms gs p n its)), c5, c6] ∧ Full ms gs p n its ∧ its.length = i ∧ ∀ x ∈ its, NatK x) ∧ m' ≤ m + 1 + i, ⟨⟨[], _, _, rfl, full_nil, rfl, fun x hx => (by cases hx)⟩, Nat.le_refl _⟩, ?_, ?_⟩
    · rintro i x ρ m' hx ⟨⟨its, c5, c6, rfl, hf, hl, hk⟩, hm'⟩
      obtain ⟨hi, rfl⟩ := rngD_at hx
      obtain ⟨l0, l1⟩ := last_in (gs := gs) (k := n) (its := its) G.hm p0 p1
      have stop : Q (.lst its) m' := hQ its m' hf (by omega) hk (by omega)
      refine .inl ⟨_, atI_pos (by decide) rfl, .inl ⟨_, atI_pos (by decide) rfl, ss, ms, gs, _, _, rfl, G, l0, l1, ite_yn (fun e1 => stop) fun e1 => ?_⟩⟩
      obtain ⟨ng, o0⟩ := endB_no e1
      have ol := openF_len (p := (lastS ms gs p n its).1) (k := (lastS ms gs p n its).2) (xs := ms) (i := 0)
      refine .inl ⟨_, atI_pos (by decide) rfl, .inl ⟨_, atI_pos (by decide) rfl, ss, ms, gs, _, _, rfl, G, _, rfl, o0, by omega, by omega, fun x hx => ?_⟩⟩
      obtain ⟨j, y, rfl, hj, hit⟩ := openF_mem' hx
      have hjl : j < ms.length := (List.getElem?_eq_some_iff.mp hj).1
      have hg := G.hm y (List.mem_of_getElem? hj)
      have hb : stepB ms gs (lastS ms gs p n its).1 (lastS ms gs p n its).2 (.int (j : Int)) = true := by
        rw [stepB_hit hj, hit, ng]
        rfl
      have hf2 := (full_snoc hf hb).1
      have hw2 := last_snoc hf hb
      obtain ⟨i', x', ex, hx', _, eT, _⟩ := step_at G.hm hb
      obtain rfl : j = i' := by
        injection ex with ex
        omega
      rw [hj] at hx'
      cases hx'
      rw [eT] at hw2
      obtain ⟨q, cs, s, t, rfl, _⟩ := hg
      refine ⟨by omega, .inr ⟨_, rfl, .inl ⟨.tup [.int q, .tup cs, .int s, .int t], atI_pos (by omega) (by rw [Int.toNat_natCast]; exact hj), .inl ⟨_, atI_pos (by decide) rfl, .inl ⟨_, atI_pos (by decide) rfl, .inr ⟨_, rfl, .inl ⟨.tup [.int q, .tup cs, .int s, .int t], atI_pos (by omega) (by rw [Int.toNat_natCast]; exact hj), .inl ⟨_, atI_pos (by decide) rfl, (show 2 ≤ sizeLine by decide), ?_⟩⟩⟩⟩⟩⟩⟩⟩
      refine ⟨⟨its ++ [.int (j : Int)], .dat (.int (i : Int)), .dat (.int (j : Int)), ?_, hf2, by rw [List.length_append, hl]; rfl, fun x hx => (mem_snoc hx).elim (hk x) fun e => ⟨j, e, by omega⟩⟩, by omega⟩
      rw [hw2]
      rfl
    · rintro ρ m' ⟨⟨its, c5, c6, rfl, hf, hl, hk⟩, hm'⟩
      rw [rngD_len] at hl hm'
      exact hQ its m' hf (by omega) hk (by omega)
end
end DW

namespace DW
open PySem PySem.Spec L2
open TL

def fwDue : FW := fun ds m Q => ∃ ss ms gs x, ds = [bookT ss ms gs, .str x] ∧ GoodB 60 ss ms gs ∧ PyData.strOk x = true ∧ x.length ≤ 900 ∧ Q (gotD ss.length ms gs x) m
/-- two numbers; where a raise is being handled too -/
def eqZ (d e : D) (Q : D → Prop) : Prop := ∃ i j, d = .int i ∧ e = .int j ∧ Q (.bl (decide (i = j)))
theorem rd_eqZ {c : C0} {K : PySem.W.Frag} : RdOp K c rEq eqZ := fun A ρ m σ H G x y d e rx ry Q Qv h k => by
  obtain ⟨i, j, rfl, rfl, h5⟩ := h
  cases rx
  cases ry
  refine ⟨rfl, k _ _ H G Keep.refl (.bl _) ?_⟩
  rw [show decide (V.int i = V.int j) = decide (i = j) by by_cases e : i = j <;> simp [e]]
  exact h5
theorem int_eqb (a b : Int) : (D.int a).eqb (.int b) = decide (a = b) := by
  rw [D.eqb]
  by_cases h : a = b
  · subst h
    simp
  · rw [decide_eq_false h]
    simpa using h
theorem set_none {i j : Nat} {wb : WE} {P : Posts} {ρ : DW.Env} {m : Nat} (h : ρ[j]? = some (.dat .non)) (q : P.nx (ρ.set i (.dat (.bl false))) m) : wSet i (wAndV (wUn (isND not) (wVar j)) wb) P ρ m := wVar_at h q
theorem ifS_no {i : Nat} {a b : WS} {P : Posts} {ρ : DW.Env} {m : Nat} (h : ρ[i]? = some (.dat (.bl false))) (q : b P ρ m) : wIfS (wTruth (wVar i)) a b P ρ m := by
  unfold wIfS wTruth
  exact wVar_at h q
theorem set_in {i j : Nat} {P : Posts} {ρ : DW.Env} {m : Nat} {p : Int} {ss ms gs : List D} (h : ρ[j]? = some (.dat (.int p))) (hb : ρ[0]? = some (.dat (bookT ss ms gs))) (q : P.nx (ρ.set i (.dat (.bl (decide (0 ≤ p) && decide (p < (ss.length : Int)))))) m) :
    wSet i (wAndV (wUn (isND not) (wVar j)) (wChain leD ltD (wC (.int 0)) (wVar j) (wB lenD (wCons (wOp itemA (wVar 0) (wC (.str "sides"))) wNil)))) P ρ m := by
  refine wVar_at h ?_
  show wChain leD ltD (wC (.int 0)) (wVar j) (wB lenD (wCons (wOp itemA (wVar 0) (wC (.str "sides"))) wNil)) ρ m _
  unfold wChain wC
  refine wVar_at h ?_
  refine ite_yn (fun u => ?_) fun u => ?_
  · rw [show decide (0 ≤ p) = true from u, Bool.true_and] at q
    unfold wB wCons wOp
    refine wVar_at hb ?_
    exact .inr ⟨_, rfl, q⟩
  · rw [show decide (0 ≤ p) = false from u, Bool.false_and] at q
    exact q
theorem flat_num {x : Str} : (numD x).flat = true := by rcases numD_or x with e | ⟨p, e⟩ <;> rw [e] <;> rfl
theorem flat_ints {xs : List D} (h : ∀ x ∈ xs, ∃ j : Int, x = .int j) : xs.all D.flat = true := List.all_eq_true.mpr fun x hx => by
  obtain ⟨j, rfl⟩ := h x hx
  rfl
section
variable {P : Program} {w : World} {K : PySem.W.Frag} {TT : List (Addr × Str)} {mg : Str → Option Value} {base : Heap} {ad : Str → Addr}
abbrev s__law_due : Stmt := topS 65
theorem sc__law_due : FnScope ["_law_book", "_law_text", "_law_words", "_law_column", "_law_place", "_law_n", "_law_moves", "_law_at", "_law_word", "_law_good", "_law_state", "_law_index"] ["_law_book", "_law_text"] (defScope s__law_due) := ⟨rfl, rfl, rfl, by decide +kernel, rfl, by decide +kernel, by decide +kernel⟩
theorem ok__law_due {f : Addr} {fd : FuncData} (F : Fun K "_law_due" "_law_due" s__law_due f fd) {lev : Lev} (T : TB K mg ad) (f__law_number_of : DFn false P w K TT mg base 10 "_law_number_of" fwNum) (f__law_is_goal : DFn false P w K TT mg base 7 "_law_is_goal" fwLGoal) (f__law_open : DFn false P w K TT mg base 4 "_law_open" fwLOpen) (E0 : EqE P w K TT mg base lev 0) (N0 : NeE K lev) : FnG false P w K mg base CX0 11 f fd ["_law_book", "_law_text"] (spD K TT fwDue) := by
  refine fn_data (k := 10) F sc__law_due (fun ds m Q h => ?_) (fun cdv A outer s H E p cc B hr hgs hcd => (dss_cons (ds_asg5 (i1 := 2) (i2 := 3) (i3 := 4) (i4 := 5) (i5 := 6) rfl sc__law_due.nd rfl (by first | exact Or.inl rfl | exact Or.inr rfl) rfl (by first | exact Or.inl rfl | exact Or.inr rfl) rfl (by first | exact Or.inl rfl | exact Or.inr rfl) rfl (by first | exact Or.inl rfl | exact Or.inr rfl) rfl (by first | exact Or.inl rfl | exact Or.inr rfl) (DL.de (dl_split (de_var 1) de_str)) de_int de_non de_non (dl_lst da_nil))
    (dss_cons (ds_for PassesOwn.never rfl (di_enu (by rfl) T.b_enumerate (da_cons (de_var 2) da_nil)) (dg_tup (n := 2) rfl (dgs_cons (dg_name (i := 7) sc__law_due.nd rfl (by first | exact Or.inl rfl | exact Or.inr rfl)) (dgs_cons (dg_name (i := 8) sc__law_due.nd rfl (by first | exact Or.inl rfl | exact Or.inr rfl)) dgs_nil)))
    (dss_cons (ds_if (dt_eqX (n := 0) E0 hr (by decide) (de_var 7) de_int)
    (dss_cons (ds_set (i := 4) sc__law_due.nd rfl (by first | exact Or.inl rfl | exact Or.inr rfl) (de_call f__law_number_of hr nog (by decide) (by rfl) (da_cons (de_var 8) da_nil)))
    (dss_one (ds_set (i := 9) sc__law_due.nd rfl (by first | exact Or.inl rfl | exact Or.inr rfl) (de_and (de_notN (de_var 4)) (de_one (de_lele de_int (de_var 4) (de_callB call_len rd_len (by rfl) T.b_len (by decide +kernel) (da_cons (de_sub2 hr (de_var 0) de_str (fun _ _ => rfl)) da_nil))))))))
    (dss_one (ds_if (dt_eqX (n := 0) E0 hr (by decide) (de_var 7) de_int)
    (dss_one (ds_set (i := 9) sc__law_due.nd rfl (by first | exact Or.inl rfl | exact Or.inr rfl) (de_eqX (n := 0) E0 hr (by decide) (de_var 8) de_str)))
    (dss_one (ds_if (dt_eqX (n := 0) E0 hr (by decide) (de_var 7) de_int)
    (dss_cons (ds_set (i := 5) sc__law_due.nd rfl (by first | exact Or.inl rfl | exact Or.inr rfl) (de_call f__law_number_of hr nog (by decide) (by rfl) (da_cons (de_slice (de_var 8) do_none (do_some (de_neg de_int))) da_nil)))
    (dss_cons (ds_set (i := 9) sc__law_due.nd rfl (by first | exact Or.inl rfl | exact Or.inr rfl) (de_and (de_notN (de_var 5)) (de_one (de_eqX (n := 0) E0 hr (by decide) (de_slice (de_var 8) (do_some (de_neg de_int)) do_none) de_str))))
    (dss_one (ds_set (i := 10) sc__law_due.nd rfl (by first | exact Or.inl rfl | exact Or.inr rfl) (de_tup (da_cons (de_var 4) (da_cons (de_var 5) da_nil)))))))
    (dss_cons (ds_set (i := 11) sc__law_due.nd rfl (by first | exact Or.inl rfl | exact Or.inr rfl) (de_call f__law_number_of hr nog (by decide) (by rfl) (da_cons (de_var 8) da_nil)))
    (dss_cons (ds_set (i := 9) sc__law_due.nd rfl (by first | exact Or.inl rfl | exact Or.inr rfl) (de_and (de_not (de_call f__law_is_goal hr nog (by decide) (by rfl) (da_cons (de_var 0) (da_cons (de_sub2 hr (de_var 10) de_int (fun _ _ => rfl)) (da_cons (de_sub2 hr (de_var 10) de_int (fun _ _ => rfl)) da_nil))))) (de_one (de_in (de_var 11) (de_call f__law_open hr nog (by decide) (by rfl) (da_cons (de_var 0) (da_cons (de_sub2 hr (de_var 10) de_int (fun _ _ => rfl)) (da_cons (de_sub2 hr (de_var 10) de_int (fun _ _ => rfl)) da_nil))))))))
    (dss_one (ds_if (dt_truth (de_var 9))
    (dss_cons (ds_append (i := 6) (fun _ h => pe_bm PySem.F.plainAttrs_list PySem.F.slot_list_append PySem.F.type_list_append mt_append (pv 6) (pa_cons h pa_nil)) (de_var 11))
    (dss_one (ds_set (i := 10) sc__law_due.nd rfl (by first | exact Or.inl rfl | exact Or.inr rfl) (de_tup (da_cons (de_sub2 hr (de_sub2 hr (de_sub2 hr (de_var 0) de_str (fun _ _ => rfl)) (de_var 11) (fun _ _ => rfl)) de_int (fun _ _ => rfl)) (da_cons (de_add (de_sub2 hr (de_var 10) de_int (fun _ _ => rfl)) (de_sub2 hr (de_sub2 hr (de_sub2 hr (de_var 0) de_str (fun _ _ => rfl)) (de_var 11) (fun _ _ => rfl)) de_int (fun _ _ => rfl))) da_nil))))))
    dss_nil)))))))))
    (dss_cons (ds_if (dt_not (dt_truth (de_var 9)))
    (dss_one (ds_ret (de_tup (da_cons de_str (da_cons (de_var 3) da_nil)))))
    dss_nil)
    (dss_one (ds_set (i := 3) sc__law_due.nd rfl (by first | exact Or.inl rfl | exact Or.inr rfl) (de_add (de_add (de_var 3) (de_callB call_len rd_len (by rfl) T.b_len (by decide +kernel) (da_cons (de_var 8) da_nil))) de_int))))))
    (dss_one (ds_frz 6 (ds_ret (de_ifExp (dt_gt (de_callB call_len rd_len (by rfl) T.b_len (by decide +kernel) (da_cons (de_var 2) da_nil)) de_int) (de_tup (da_cons de_str (da_cons (de_var 4) (da_cons (de_var 5) (da_cons (de_callTy call_tuple_of rd_tuple (by rfl) T.b_tuple (by decide +kernel) (da_cons (de_var 6) da_nil)) da_nil))))) (de_tup (da_cons de_str (da_cons (de_add (de_callB call_len rd_len (by rfl) T.b_len (by decide +kernel) (da_cons (de_var 1) da_nil)) de_int) da_nil)))))))))) fun ds m Q h => ?_
  · obtain ⟨ss, ms, gs, x, rfl, _⟩ := h
    rfl
  · obtain ⟨ss, ms, gs, x, rfl, G, xo, xl, hQ⟩ := h
    have small : (2000 : Nat) ≤ sizeLine := by decide
    unfold gotD at hQ
    refine ⟨_, rfl, _, rfl, by decide +kernel, by omega, Nat.zero_le _, ?_⟩
    have okw : ∀ w ∈ Txt.split x " ", PyData.strOk w = true ∧ w.length ≤ sizeLine := fun w hw => ⟨split_ok xo hw, by have := split_le hw; omega⟩
    have cnt := split_cnt x
    have sne := split_ne x
    have ce := col_end x
    generalize Txt.split x " " = ws at *
    refine ⟨fun i ρ m' => (∃ (cp cn : Cell) (mv : List D) (cs c7 c8 c9 c11 : Cell), ρ = [.dat (bookT ss ms gs), .dat (.str x), .dat (.lst (ws.map D.str)), .dat (.int (lens (ws.take i) + 1)), cp, cn, .own (.lst mv), c7, c8, c9, cs, c11] ∧ Due ss.length ms gs ws i cp cn mv cs) ∧ m' = m, ⟨⟨_, _, _, _, _, _, _, _, rfl, rfl⟩, rfl⟩, ?_, ?_⟩
    · rintro i d ρ m' hd ⟨⟨cp, cn, mv, cs, c7, c8, c9, c11, rfl, due⟩, rfl⟩
      obtain ⟨y, hy, rfl⟩ := enumD_at hd
      rw [List.getElem?_map] at hy
      obtain ⟨w, hw, rfl⟩ := Option.map_eq_some_iff.mp hy
      have hil : i < ws.length := (List.getElem?_eq_some_iff.mp hw).1
      obtain ⟨wo, wl⟩ := okw w (List.mem_of_getElem? hw)
      refine cutS (k := ?k1) (fun ρ m2 => (∃ (b : Bool) (cp cn : Cell) (mv : List D) (cs c11 : Cell), ρ = [.dat (bookT ss ms gs), .dat (.str x), .dat (.lst (ws.map D.str)), .dat (.int (lens (ws.take i) + 1)), cp, cn, .own (.lst mv), .dat (.int (i : Int)), .dat (.str w), .dat (.bl b), cs, c11] ∧ (b = true → Due ss.length ms gs ws (i + 1) cp cn mv cs) ∧ (b = false → rdW ss.length ms gs ws = .inl i)) ∧ m2 = m') ?b1 fun tail => ?a1
      case a1 =>
        refine ⟨rfl, rfl, pl_cmp rfl rfl, Nat.zero_le _, ite_yn (fun z => ?_) fun z => ?_⟩
        · have hi : i = 0 := by
            have := of_decide_eq_true ((int_eqb _ _).symm.trans z)
            omega
          have hw0 : ws[0]? = some w := by rw [← hi]; exact hw
          obtain ⟨d1, d2⟩ := due_0 (N := ss.length) (ms := ms) (gs := gs) hw0
          have emv : mv = [] := by
            rw [hi] at due
            exact due
          refine ⟨w, rfl, wo, wl, ?_⟩
          rcases numD_or w with e | ⟨p, e⟩
          · rw [e]
            dsimp only
            refine set_none (i := 9) (j := 4) ?_ ?_
            · rfl
            dsimp only
            refine tail _ _ ?_
            exact ⟨⟨false, _, _, _, _, _, rfl, fun z => (by cases z), fun _ => by rw [hi]; exact d1 e⟩, rfl⟩
          · rw [e]
            obtain ⟨d3, d4⟩ := d2 p e
            dsimp only
            refine set_in (i := 9) (j := 4) (p := p) (ss := ss) (ms := ms) (gs := gs) ?_ ?_ ?_
            · rfl
            · rfl
            dsimp only
            refine tail _ _ ?_
            refine ⟨⟨decide (0 ≤ p) && decide (p < (ss.length : Int)), _, _, _, _, _, rfl, fun v => ?_, fun v => ?_⟩, rfl⟩
            · rw [Bool.and_eq_true] at v
              have u := of_decide_eq_true v.1
              have v := of_decide_eq_true v.2
              rw [hi]
              exact ⟨emv, p, u, v, rfl, d3 ⟨u, v⟩⟩
            · rw [hi]
              refine d4 fun q => ?_
              rw [decide_eq_true q.1, decide_eq_true q.2] at v
              cases v
        refine ⟨pl_cmp rfl rfl, Nat.zero_le _, ite_yn (fun z1 => ?_) fun z1 => ?_⟩
        · have hi : i = 1 := by
            have := of_decide_eq_true ((int_eqb _ _).symm.trans z1)
            omega
          have hw1 : ws[1]? = some w := by rw [← hi]; exact hw
          have due1 : Due ss.length ms gs ws 1 cp cn mv cs := by rw [← hi]; exact due
          obtain ⟨emv, p, p0, p1, ecp, hr⟩ := due1
          rw [due_1 hw1] at hr
          refine ⟨pl_cmp wo (show PyData.strOk ("at" : Str) = true by decide +kernel), Nat.zero_le _, ?_⟩
          rw [str_eqb (l := [97, 116]) (by decide +kernel)]
          dsimp only
          refine tail _ _ ?_
          refine ⟨⟨decide (w.cps.toList = [97, 116]), _, _, _, _, _, rfl, fun v => ?_, fun v => ?_⟩, rfl⟩
          · rw [if_pos (of_decide_eq_true v)] at hr
            rw [hi]
            exact ⟨emv, p, p0, p1, ecp, hr⟩
          · rw [if_neg (of_decide_eq_false v)] at hr
            rw [hi]
            exact hr
        refine ⟨pl_cmp rfl rfl, Nat.zero_le _, ite_yn (fun z2 => ?_) fun z2 => ?_⟩
        · have hi : i = 2 := by
            have := of_decide_eq_true ((int_eqb _ _).symm.trans z2)
            omega
          have hw2 : ws[2]? = some w := by rw [← hi]; exact hw
          have due2 : Due ss.length ms gs ws 2 cp cn mv cs := by rw [← hi]; exact due
          obtain ⟨emv, p, p0, p1, ecp, hr⟩ := due2
          obtain ⟨d1, d2⟩ := due_2 (ms := ms) (gs := gs) (p := p) hw2
          rw [ecp]
          refine ⟨wl, _, rfl, strOk_cut wo, Nat.le_trans lenCut wl, ?_⟩
          have cd : cntD w = if (L2.cutS w (some (-1 : Int)) none).cps.toList = [58] then numD (L2.cutS w none (some (-1 : Int))) else .non := rfl
          rcases numD_or (L2.cutS w none (some (-1 : Int))) with e | ⟨n, e⟩
          · have e' : numD (L2.cutS w none (some (-1))) = .non := e
            rw [e']
            dsimp only
            refine set_none (i := 9) (j := 5) ?_ ?_
            · rfl
            refine ⟨(show 2 ≤ sizeLine by decide), ?_⟩
            dsimp only
            refine tail _ _ ?_
            have : cntD w = .non := by
              rw [cd, e]
              split <;> rfl
            exact ⟨⟨false, _, _, _, _, _, rfl, fun z => (by cases z), fun _ => by rw [hi]; exact hr.trans (d2 this)⟩, rfl⟩
          · have e' : numD (L2.cutS w none (some (-1))) = .int n := e
            rw [e']
            refine ⟨wl, pl_cmp (strOk_cut wo) (show PyData.strOk (":" : Str) = true by decide +kernel), Nat.zero_le _, ?_⟩
            rw [str_eqb (l := [58]) (by decide +kernel)]
            refine ⟨(show 2 ≤ sizeLine by decide), ?_⟩
            dsimp only
            refine tail _ _ ?_
            refine ⟨⟨decide ((L2.cutS w (some (-1 : Int)) none).cps.toList = [58]), _, _, _, _, _, rfl, fun v => ?_, fun v => ?_⟩, rfl⟩
            · have : cntD w = .int n := by rw [cd, if_pos (of_decide_eq_true v), e]
              rw [hi, emv]
              exact ⟨p, n, p0, p1, rfl, rfl, hr.trans (d1 n this), rfl, full_nil, rfl⟩
            · have : cntD w = .non := by rw [cd, if_neg (of_decide_eq_false v)]
              rw [hi]
              exact hr.trans (d2 this)
        have z := of_decide_eq_false ((int_eqb _ _).symm.trans z)
        have z1 := of_decide_eq_false ((int_eqb _ _).symm.trans z1)
        have z2 := of_decide_eq_false ((int_eqb _ _).symm.trans z2)
        obtain ⟨j, hi⟩ : ∃ j, i = j + 3 := ⟨i - 3, by omega⟩
        have due3 : Due ss.length ms gs ws (j + 3) cp cn mv cs := by rw [← hi]; exact due
        obtain ⟨p, n, p0, p1, ecp, ecn, hr, hmv, hf, ecs⟩ := due3
        rw [ecs]
        have itj : ((ws.drop 3).map numD)[j]? = some (numD w) := by
          rw [List.getElem?_map, List.getElem?_drop, show 3 + j = i by omega, hw]
          rfl
        have hlj : j < ws.length := by omega
        have lmv : mv.length ≤ 1000 := by
          rw [hmv, List.length_take]
          omega
        have bad : stepB ms gs (lastS ms gs p n mv).1 (lastS ms gs p n mv).2 (numD w) = false → rdW ss.length ms gs ws = .inl i := fun h => by
          rw [hr, hi]
          rw [hmv] at hf h
          exact due_bad itj hf h
        have sin := stepB_in (ms := ms) (gs := gs) (p := (lastS ms gs p n mv).1) (k := (lastS ms gs p n mv).2) (numD_or w)
        refine ⟨w, rfl, wo, wl, ?_⟩
        refine .inl ⟨_, atI_pos (by decide) rfl, .inl ⟨_, atI_pos (by decide) rfl, ss, ms, gs, _, _, rfl, G, ?_⟩⟩
        refine ite_yn (fun u => ?_) fun u => ?_
        rotate_left
        · dsimp only
          refine ifS_no (i := 9) ?_ ?_
          · rfl
          unfold wNext
          dsimp only
          refine tail _ _ ?_
          refine ⟨⟨false, _, _, _, _, _, rfl, fun z => (by cases z), fun _ => bad ?_⟩, rfl⟩
          rw [sin, show (!gs.any (glHit (lastS ms gs p n mv).1 (lastS ms gs p n mv).2)) = false from u, Bool.false_and]
        rw [show (!gs.any (glHit (lastS ms gs p n mv).1 (lastS ms gs p n mv).2)) = true from u, Bool.true_and] at sin
        refine .inl ⟨_, atI_pos (by decide) rfl, .inl ⟨_, atI_pos (by decide) rfl, ss, ms, gs, _, _, rfl, G, flat_num, flat_ints (fun x hx => openF_int hx), ?_⟩⟩
        rw [← sin]
        refine ite_yn (fun v => ?_) fun v => ?_
        rotate_left
        · have v : stepB ms gs (lastS ms gs p n mv).1 (lastS ms gs p n mv).2 (numD w) = false := v
          unfold wNext
          dsimp only
          rw [v]
          refine tail _ _ ?_
          exact ⟨⟨false, _, _, _, _, _, rfl, fun z => (by cases z), fun _ => bad v⟩, rfl⟩
        have hb : stepB ms gs (lastS ms gs p n mv).1 (lastS ms gs p n mv).2 (numD w) = true := v
        rw [hb]
        obtain ⟨q', y, ex, hy', _, eT, _⟩ := step_at G.hm hb
        have hf2 := (full_snoc hf hb).1
        have hl2 := last_snoc hf hb
        rw [eT] at hl2
        have hg := G.hm y (List.mem_of_getElem? hy')
        obtain ⟨q, cs', s, t, ey, _⟩ := hg
        rw [ex] at hb itj hf2 hl2 ⊢
        rw [ey] at hl2 hy'
        refine ⟨by omega, .inr ⟨_, rfl, .inl ⟨.tup [.int q, .tup cs', .int s, .int t], atI_pos (by omega) (by rw [Int.toNat_natCast]; exact hy'), .inl ⟨_, atI_pos (by decide) rfl, .inl ⟨_, atI_pos (by decide) rfl, .inr ⟨_, rfl, .inl ⟨.tup [.int q, .tup cs', .int s, .int t], atI_pos (by omega) (by rw [Int.toNat_natCast]; exact hy'), .inl ⟨_, atI_pos (by decide) rfl, (show 2 ≤ sizeLine by decide), ?_⟩⟩⟩⟩⟩⟩⟩⟩
        dsimp only
        refine tail _ _ ?_
        refine ⟨⟨true, _, _, mv ++ [.int (q' : Int)], _, _, rfl, fun _ => ?_, fun z => (by cases z)⟩, rfl⟩
        rw [hi]
        refine ⟨p, n, p0, p1, ecp, ecn, hr, ?_, hf2, ?_⟩
        · rw [List.take_add_one, itj, hmv]
          rfl
        · rw [hl2]
          rfl
      rintro ρ m2 ⟨⟨b, cp, cn, mv, cs, c11, rfl, hT, hF⟩, rfl⟩
      cases b with
      | false =>
        have hF := hF rfl
        rw [hF] at hQ
        refine ⟨(show 2 ≤ sizeLine by decide), ?_⟩
        rw [← colN_lt hil]
        exact hQ
      | true =>
        have hT := hT rfl
        have e := lens_snoc hw
        refine ⟨wl, ?_⟩
        dsimp only
        rw [show lens (ws.take (i + 1)) + 1 = lens (ws.take i) + 1 + (w.length : Int) + 1 by rw [e]; omega]
        exact ⟨⟨_, _, _, _, _, _, _, _, rfl, hT⟩, rfl⟩
    · rintro ρ m' ⟨⟨cp, cn, mv, cs, c7, c8, c9, c11, rfl, due⟩, rfl⟩
      rw [show (enumD (ws.map D.str)).length = ws.length by rw [enumD_len, List.length_map]] at due
      have short : ∀ k, ws.length = k → k ≤ 2 → rdW ss.length ms gs ws = .inl k → Q (.tup [.str "column", .int ((x.length : Int) + 1)]) m' := fun k h1 _ h2 => by
        rw [h2] at hQ
        have hQ : Q (.tup [.str "column", .int (colN ws k)]) m' := hQ
        rw [← h1, colN_all, ce] at hQ
        exact hQ
      have nil_ : ∀ k, ws.length = k → ws.drop k = [] := fun k h => by rw [← h, List.drop_length]
      rcases hn : ws.length with _ | _ | _ | k
      · exact absurd (List.length_eq_zero_iff.mp hn) sne
      · rw [hn] at due
        obtain ⟨_, p, p0, p1, _, hr⟩ := due
        rw [nil_ 1 hn, rdW1] at hr
        refine ite_yn (fun z => ?_) fun z => ⟨by omega, (show 2 ≤ sizeLine by decide), short 1 hn (by decide) hr⟩
        have z : (2 : Int) < ((ws.map D.str).length : Int) := of_decide_eq_true z
        rw [List.length_map, hn] at z
        omega
      · rw [hn] at due
        obtain ⟨_, p, p0, p1, _, hr⟩ := due
        rw [nil_ 2 hn, rdW2] at hr
        refine ite_yn (fun z => ?_) fun z => ⟨by omega, (show 2 ≤ sizeLine by decide), short 2 hn (by decide) hr⟩
        have z : (2 : Int) < ((ws.map D.str).length : Int) := of_decide_eq_true z
        rw [List.length_map, hn] at z
        omega
      · rw [hn] at due
        obtain ⟨p, n, p0, p1, ecp, ecn, hr, hmv, hf, ecs⟩ := due
        have em : mv = (ws.drop 3).map numD := by
          rw [hmv]
          exact List.take_of_length_le (by rw [List.length_map, List.length_drop]; omega)
        rw [em] at hf ⊢
        rw [due_end hf] at hr
        rw [hr] at hQ
        rw [ecp, ecn]
        refine ite_yn (fun z => ⟨(show 4 ≤ sizeLine by decide), hQ⟩) fun z => ?_
        have z : ¬ (2 : Int) < ((ws.map D.str).length : Int) := of_decide_eq_false z
        rw [List.length_map, hn] at z
        omega
def fwGot (ad : Str → Addr) : FW := fun ds m Q => ∃ ss ms gs d, ds = [bookO ad ss ms gs, d] ∧ GoodB 60 ss ms gs ∧ d.known (csB ad) = true ∧ (d.isTy "str" = false → Q (.tup [.str "none", .int 0, .int 0]) m) ∧ ∀ x : Str, d = .str x → PyData.strOk x = true ∧ x.length ≤ 900 ∧ Q (gotD ss.length ms gs x) m
theorem plain5 {a b c d e : Cell} (ha : PlainE [a]) (hb : PlainE [b]) (hc : PlainE [c]) (hd : PlainE [d]) (he : PlainE [e]) : PlainE [a, b, c, d, e] := fun i k h => by
  match i, h with
  | 0, h => exact ha 0 k h
  | 1, h => exact hb 0 k h
  | 2, h => exact hc 0 k h
  | 3, h => exact hd 0 k h
  | 4, h => exact he 0 k h
theorem plD {d : D} : PlainE [.dat d] := fun i k h => by
  match i, h with
  | 0, h => cases h; trivial
theorem plU : PlainE [.un] := fun i k h => by
  match i, h with
  | 0, h => cases h; trivial
abbrev s__law_got : Stmt := topS 66
theorem sc__law_got : FnScope ["_law_made", "_law_text", "_law_play", "_law_got_here", "e"] ["_law_made", "_law_text"] (defScope s__law_got) := ⟨rfl, rfl, rfl, by decide +kernel, rfl, by decide +kernel, by decide +kernel⟩
theorem ok__law_got {f : Addr} {fd : FuncData} (F : Fun K "_law_got" "_law_got" s__law_got f fd) (T : TB K mg ad) (f_read_play : DFnX P w K TT mg base 11 "read_play" (fwRead ad)) (mgT : mg "BadText" = some (.ref (ad "BadText"))) (xfT : XfC K (ad "BadText")) (nfL : PySem.W.findIn K (.ref (ad "BadText")) "line" = some none) (nfC : PySem.W.findIn K (.ref (ad "BadText")) "column" = some none) (exT : PySem.W.exmOne K (.ref (ad "BadText")) (.ref (ad "BadText")) = some true) : FnG false P w K mg base CX0 12 f fd ["_law_made", "_law_text"] (spD K TT (fwGot ad)) := by
  refine fn_data (k := 11) F sc__law_got (fun ds m Q h => ?ar) (fun cdv A outer s H E p cc B hr hgs hcd => (dss_cons (ds_try (K := K) rfl rfl rfl sc__law_got.nd (Wout := fun _ _ _ _ => False) LamX.takes0 rel0 (fun W pn xe H0 wx tk hW => (dss_cons (ds_set (i := 2) sc__law_got.nd rfl (by first | exact Or.inl rfl | exact Or.inr rfl) (de_callX f_read_play tk hW hr (by decide) (by rfl) (da_cons (de_var 0) (da_cons (de_var 1) da_nil))))
    (dss_one (ds_set (i := 3) sc__law_got.nd rfl (by first | exact Or.inl rfl | exact Or.inr rfl) (de_tup (da_cons de_str (da_cons (de_fld (K := K) rfl (de_var 2)) (da_cons (de_fld (K := K) rfl (de_var 2)) (da_cons (de_fld (K := K) rfl (de_var 2)) da_nil)))))))))
      (DHs.cons (i := 4) (v := .ref (ad "BadText")) ?nm rfl rfl (fun a o cls d pn H0 hz hf => dss_one (ds_set (i := 3) sc__law_got.nd rfl (by first | exact Or.inl rfl | exact Or.inr rfl) (de_ifExp (dt_cmp op_eq rd_eqZ (de_cau (i := 4) xfT nfL hz hf rfl rfl (by first | exact Or.inl rfl | exact Or.inr (Or.inl rfl) | exact Or.inr (Or.inr rfl))) de_int (nomark _)) (de_tup (da_cons de_str (da_cons (de_cau (i := 4) xfT nfC hz hf rfl rfl (by first | exact Or.inl rfl | exact Or.inr (Or.inl rfl) | exact Or.inr (Or.inr rfl))) da_nil))) (de_tup (da_cons de_str (da_cons (de_cau (i := 4) xfT nfL hz hf rfl rfl (by first | exact Or.inl rfl | exact Or.inr (Or.inl rfl) | exact Or.inr (Or.inr rfl))) (da_cons (de_cau (i := 4) xfT nfC hz hf rfl rfl (by first | exact Or.inl rfl | exact Or.inr (Or.inl rfl) | exact Or.inr (Or.inr rfl))) da_nil))))))) (by intros; rfl) DHs.nil))
    (dss_one (ds_ret (de_var 3))))) fun ds m Q h => ?pf
  case nm => exact ⟨rfl, by decide, .inl mgT⟩
  case ar =>
    obtain ⟨ss, ms, gs, d, rfl, _⟩ := h
    rfl
  case pf =>
    obtain ⟨ss, ms, gs, d, rfl, G, hk, hno, hyes⟩ := h
    have cp := T.cl "Play" (by decide)
    have p3 : ∀ z : Cell, PlainE [z] → PlainE [.dat (bookO ad ss ms gs), .dat d, z, .un, .un] := fun z hz => plain5 plD plD hz plU plU
    refine ⟨plain5 plD plD plU plU plU, ss, ms, gs, d, rfl, G, hk, fun z => ?_, fun x e => ?_⟩
    · refine ⟨plain5 plD plD plU plU plU, true, exT, fun _ => ?_, fun z => by cases z⟩
      refine ⟨_, _, rfl, rfl, _, _, rfl, rfl, ?_⟩
      exact ⟨_, _, rfl, rfl, _, _, rfl, rfl, (show 3 ≤ sizeLine by decide), plain5 plD plD plU plD plU, hno z⟩
    · obtain ⟨xo, xl, hQ⟩ := hyes x e
      unfold gotD at hQ
      refine ⟨xo, xl, fun k e1 => ?_, fun p n its e1 => ?_⟩
      · rw [e1] at hQ
        refine ⟨plain5 plD plD plU plU plU, true, exT, fun _ => ?_, fun z => by cases z⟩
        refine ⟨_, _, rfl, rfl, _, _, rfl, rfl, ?_⟩
        exact ⟨_, _, rfl, rfl, (show 2 ≤ sizeLine by decide), plain5 plD plD plU plD plU, hQ⟩
      · rw [e1] at hQ
        exact ⟨_, _, _, rfl, cp, T.na ("Play", "place") (by decide), rfl, _, _, _, rfl, cp, T.na ("Play", "n") (by decide), rfl, _, _, _, rfl, cp, T.na ("Play", "moves") (by decide), rfl, (show 4 ≤ sizeLine by decide), plain5 plD plD plD plD plU, hQ⟩
end
end DW

namespace DW
open PySem PySem.Spec L2
open TL

def fwChg : FW := fun ds m Q => ∃ x : Str, ds = [.pen, .str x] ∧ PyData.strOk x = true ∧ x.length ≤ 400 ∧ m < 10000000000 ∧ ∀ (y : Str) m', PyData.strOk y = true → y.length ≤ 900 → m' ≤ m + 10 → Q (.str y) m'
def okOdd : D → Bool
  | .str o => PyData.strOk o && decide (o.length ≤ 70)
  | _ => false
theorem okOdd_at {d : D} (h : okOdd d = true) : ∃ o : Str, d = .str o ∧ PyData.strOk o = true ∧ o.length ≤ 70 := by
  cases d <;> first | (exact ⟨_, rfl, (by rw [okOdd, Bool.and_eq_true] at h; exact h.1), (by rw [okOdd, Bool.and_eq_true] at h; exact of_decide_eq_true h.2)⟩) | cases h
def okWs (ws : List Str) : Prop := (∀ w ∈ ws, PyData.strOk w = true) ∧ wt ws ≤ 900
theorem wt_set {o : Str} : ∀ {ws : List Str} {i : Nat}, wt (ws.set i o) ≤ wt ws + o.length + 1
  | [], i => by
    rw [List.set_nil]
    omega
  | w :: r, 0 => by
    rw [List.set_cons_zero, wt_cons, wt_cons]
    omega
  | w :: r, i + 1 => by
    rw [List.set_cons_succ, wt_cons, wt_cons]
    have := wt_set (o := o) (ws := r) (i := i)
    omega
theorem wt_erase : ∀ {ws : List Str} {i : Nat}, wt (ws.eraseIdx i) ≤ wt ws
  | [], i => Nat.le_refl _
  | w :: r, 0 => by
    rw [List.eraseIdx_cons_zero, wt_cons]
    omega
  | w :: r, i + 1 => by
    rw [List.eraseIdx_cons_succ, wt_cons, wt_cons]
    have := wt_erase (ws := r) (i := i)
    omega
theorem wt_take {ws : List Str} {i : Nat} : wt (ws.take i) + wt (ws.drop i) = wt ws := by
  rw [← wt_app, List.take_append_drop]
theorem map_erase {f : Str → D} : ∀ {ws : List Str} {i : Nat}, (ws.map f).eraseIdx i = (ws.eraseIdx i).map f
  | [], _ => rfl
  | w :: r, 0 => rfl
  | w :: r, i + 1 => by
    rw [List.map_cons, List.eraseIdx_cons_succ, List.eraseIdx_cons_succ, List.map_cons, map_erase]
theorem erase_mem {ws : List Str} {i : Nat} {w : Str} (h : w ∈ ws.eraseIdx i) : w ∈ ws := List.mem_of_mem_eraseIdx h
theorem ixN_nat {n j : Nat} (h : j < n) : ixN n (j : Int) = some j := by
  unfold ixN
  rw [if_pos (Int.natCast_nonneg j), if_pos (by omega)]
  rfl
theorem okWs_of {ws : List Str} (h1 : ∀ w ∈ ws, PyData.strOk w = true) (h2 : wt ws ≤ 900) : okWs ws := ⟨h1, h2⟩
theorem app_ok {a b : Str} (ha : PyData.strOk a = true) (hb : PyData.strOk b = true) : PyData.strOk (a ++ b) = true := strOk_tl fun c hc => by
  rw [tl_append, List.mem_append] at hc
  exact hc.elim (strOk_in ha c) (strOk_in hb c)
section
variable {P : Program} {w : World} {K : PySem.W.Frag} {TT : List (Addr × Str)} {mg : Str → Option Value} {base : Heap} {ad : Str → Addr}
abbrev s__law_changed : Stmt := topS 68
theorem sc__law_changed : FnScope ["_law_pen_here", "_law_text", "_law_words", "_law_way", "_law_at", "_law_some", "_law_odd"] ["_law_pen_here", "_law_text"] (defScope s__law_changed) := ⟨rfl, rfl, rfl, by decide +kernel, rfl, by decide +kernel, by decide +kernel⟩
theorem ok__law_changed {f : Addr} {fd : FuncData} (F : Fun K "_law_changed" "_law_changed" s__law_changed f fd) {lev : Lev} (T : TB K mg ad) (f__law_draw : DFn false P w K TT mg base 1 "_law_draw" fwDraw) (f__law_pick : DFn false P w K TT mg base 2 "_law_pick" fwPick) (E0 : EqE P w K TT mg base lev 0) (N0 : NeE K lev) : FnG false P w K mg base CX0 3 f fd ["_law_pen_here", "_law_text"] (spD K TT fwChg) := by
  refine fn_data (k := 2) F sc__law_changed (fun ds m Q h => ?_) (fun cdv A outer s H E p cc B hr hgs hcd => (dss_cons (ds_parOE (i := 2) (j := 3) (fun _ h => ps_par (i := 2) (j := 3) rfl sc__law_changed.nd rfl rfl (by decide) rfl rfl h rfl) (dl_split (de_var 1) de_str) (de_call f__law_draw hr nog (by decide) (by rfl) (da_cons (de_var 0) (da_cons de_int da_nil))))
    (dss_cons (ds_set (i := 4) sc__law_changed.nd rfl (by first | exact Or.inl rfl | exact Or.inr rfl) (de_call f__law_draw hr nog (by decide) (by rfl) (da_cons (de_var 0) (da_cons (de_lenOwn 2 (by rfl) T.b_len (by decide +kernel) rfl (by first | exact Or.inl rfl | exact Or.inr (Or.inl rfl) | exact Or.inr (Or.inr rfl))) da_nil))))
    (dss_cons (ds_set (i := 5) sc__law_changed.nd rfl (by first | exact Or.inl rfl | exact Or.inr rfl) (de_lst (da_cons de_str (da_cons de_str (da_cons de_str (da_cons de_str (da_cons de_str (da_cons de_str (da_cons de_str (da_cons de_str (da_cons de_str (da_cons de_str (da_cons de_str (da_cons de_str (da_cons de_str (da_cons de_str (da_cons de_str (da_cons de_str da_nil))))))))))))))))))
    (dss_cons (ds_set (i := 6) sc__law_changed.nd rfl (by first | exact Or.inl rfl | exact Or.inr rfl) (de_call f__law_pick hr nog (by decide) (by rfl) (da_cons (de_var 0) (da_cons (de_add (de_var 5) (de_lst (da_cons (de_add (de_mulS de_str de_int) de_str) (da_cons (de_add (de_mulS de_str de_int) de_str) da_nil)))) da_nil))))
    (dss_cons (ds_if (dt_eqX (n := 0) E0 hr (by decide) (de_var 3) de_int)
    (dss_one (ds_setIx (s := 2) rfl (by first | exact Or.inl rfl | exact Or.inr (Or.inl rfl) | exact Or.inr (Or.inr rfl)) (de_var 4) (de_var 6)))
    (dss_one (ds_if (dt_eqX (n := 0) E0 hr (by decide) (de_var 3) de_int)
    (dss_one (ds_popS (i := 2) (fun _ h => pe_bm PySem.F.plainAttrs_list PySem.F.slot_list_pop PySem.F.type_list_pop mt_popAt (pv 2) (pa_cons h pa_nil)) (de_var 4)))
    (dss_one (ds_if (dt_eqX (n := 0) E0 hr (by decide) (de_var 3) de_int)
    (dss_one (ds_insS (i := 2) (fun _ _ h h2 => pe_bm PySem.F.plainAttrs_list PySem.F.slot_list_insert PySem.F.type_list_insert mt_insert (pv 2) (pa_cons h (pa_cons h2 pa_nil))) (de_var 4) (de_var 6)))
    (dss_one (ds_if (dt_eqX (n := 0) E0 hr (by decide) (de_var 3) de_int)
    (dss_one (ds_append (i := 2) (fun _ h => pe_bm PySem.F.plainAttrs_list PySem.F.slot_list_append PySem.F.type_list_append mt_append (pv 2) (pa_cons h pa_nil)) (de_var 6)))
    (dss_one (ds_if (dt_eqX (n := 0) E0 hr (by decide) (de_var 3) de_int)
    (dss_one (ds_setIx (s := 2) rfl (by first | exact Or.inl rfl | exact Or.inr (Or.inl rfl) | exact Or.inr (Or.inr rfl)) (de_var 4) (de_add (de_subOwn 2 rfl (by first | exact Or.inl rfl | exact Or.inr (Or.inl rfl) | exact Or.inr (Or.inr rfl)) (de_var 4) (fun _ _ => rfl)) (de_call f__law_pick hr nog (by decide) (by rfl) (da_cons (de_var 0) (da_cons (de_lst (da_cons de_str (da_cons de_str (da_cons de_str (da_cons de_str (da_cons de_str da_nil)))))) da_nil))))))
    (dss_one (ds_frz 2 (ds_setO (i := 2) sc__law_changed.nd rfl (by first | exact Or.inl rfl | exact Or.inr rfl) (dl_slice (de_var 2) do_none (do_some (de_var 4)))))))))))))))
    (dss_one (ds_frz 2 (ds_ret (de_join de_str (de_var 2))))))))))) fun ds m Q h => ?_
  · obtain ⟨x, rfl, _⟩ := h
    rfl
  · obtain ⟨x, rfl, xo, xl, hm, hQ⟩ := h
    have small : (2000 : Nat) ≤ sizeLine := by decide
    refine ⟨_, rfl, _, rfl, by decide +kernel, by omega, 6, rfl, by decide, by decide, by omega, fun c c0 c1 => ?_⟩
    have okw : ∀ w ∈ Txt.split x " ", PyData.strOk w = true := fun w hw => split_ok xo hw
    have sne := split_ne x
    have cwt := split_wt x
    generalize Txt.split x " " = ws at *
    have hlen : (ws.map D.str).length = ws.length := List.length_map _
    have lw := wt_len ws
    have l0 : 0 < ws.length := List.length_pos_iff.mpr sne
    refine ⟨((ws.map D.str).length : Int), rfl, by omega, by omega, by omega, fun a a0 a1 => ?_⟩
    obtain ⟨j, rfl⟩ : ∃ j : Nat, a = (j : Int) := ⟨a.toNat, by omega⟩
    have hj : j < ws.length := by omega
    refine ⟨(show 16 ≤ sizeLine by decide), "9", 60, rfl, rfl, by decide, by decide, by decide +kernel, by decide +kernel, by decide +kernel, "9", 61, rfl, rfl, by decide, by decide, by decide +kernel, by decide +kernel, by decide +kernel, (show 2 ≤ sizeLine by decide), (show 18 ≤ sizeLine by decide), _, rfl, (show 0 < 18 by decide), (show 18 < 1073741824 by decide), by omega, fun z hz => ?_⟩
    obtain ⟨o, rfl, oo, ol⟩ := okOdd_at (List.all_eq_true.mp (by decide +kernel) z hz)
    refine cutS (k := ?k1) (fun ρ m2 => (∃ (ws' : List Str) (c3 c4 c5 c6 : Cell), ρ = [.dat .pen, .dat (.str x), .own (.lst (ws'.map D.str)), c3, c4, c5, c6] ∧ okWs ws') ∧ m2 ≤ m + 10) ?b1 fun tail => ?a1
    case a1 =>
      refine ⟨pl_cmp rfl rfl, Nat.zero_le _, ite_yn (fun _ => ?_) fun _ => ?_⟩
      · refine ⟨_, j, rfl, ixN_nat (by omega), ?_⟩
        dsimp only
        rw [← List.map_set]
        refine tail _ _ ?_
        have := wt_set (o := o) (ws := ws) (i := j)
        exact ⟨⟨_, _, _, _, _, rfl, okWs_of (fun w hw => (List.mem_or_eq_of_mem_set hw).elim (okw w) fun e => e ▸ oo) (by omega)⟩, by omega⟩
      refine ⟨pl_cmp rfl rfl, Nat.zero_le _, ite_yn (fun _ => ?_) fun _ => ?_⟩
      · refine ⟨j, rfl, by omega, by omega, ?_⟩
        dsimp only
        rw [map_erase]
        refine tail _ _ ?_
        have := wt_erase (ws := ws) (i := j)
        exact ⟨⟨_, _, _, _, _, rfl, okWs_of (fun w hw => okw w (erase_mem hw)) (by omega)⟩, by omega⟩
      refine ⟨pl_cmp rfl rfl, Nat.zero_le _, ite_yn (fun _ => ?_) fun _ => ?_⟩
      · refine ⟨j, rfl, by omega, by omega, ?_⟩
        dsimp only
        rw [← List.map_take, ← List.map_drop, show [D.str o] = [o].map D.str from rfl, ← List.map_append, ← List.map_append]
        refine tail _ _ ?_
        have := wt_take (ws := ws) (i := j)
        refine ⟨⟨_, _, _, _, _, rfl, okWs_of (fun w hw => ?_) ?_⟩, by omega⟩
        · rcases List.mem_append.mp hw with hw | hw
          · rcases List.mem_append.mp hw with hw | hw
            · exact okw w (List.mem_of_mem_take hw)
            · rw [List.mem_singleton.mp hw]
              exact oo
          · exact okw w (List.mem_of_mem_drop hw)
        · rw [wt_app, wt_app]
          have : wt [o] = o.length + 1 := rfl
          omega
      refine ⟨pl_cmp rfl rfl, Nat.zero_le _, ite_yn (fun _ => ?_) fun _ => ?_⟩
      · refine ⟨by omega, ?_⟩
        dsimp only
        rw [show [D.str o] = [o].map D.str from rfl, ← List.map_append]
        refine tail _ _ ?_
        refine ⟨⟨_, _, _, _, _, rfl, okWs_of (fun w hw => ?_) ?_⟩, by omega⟩
        · rcases List.mem_append.mp hw with hw | hw
          · exact okw w hw
          · rw [List.mem_singleton.mp hw]
            exact oo
        · rw [wt_app]
          have : wt [o] = o.length + 1 := rfl
          omega
      refine ⟨pl_cmp rfl rfl, Nat.zero_le _, ite_yn (fun _ => ?_) fun _ => ?_⟩
      · obtain ⟨u, hu⟩ : ∃ u, ws[j]? = some u := ⟨_, List.getElem?_eq_getElem hj⟩
        have um := List.mem_of_getElem? hu
        have ul := wt_ge um
        refine ⟨_, .str u, rfl, atI_pos (by omega) (by rw [Int.toNat_natCast, List.getElem?_map, hu]; rfl), (show 5 ≤ sizeLine by decide), _, rfl, (show 0 < 5 by decide), (show 5 < 1073741824 by decide), by omega, fun z2 hz2 => ?_⟩
        obtain ⟨o2, rfl, oo2, ol2⟩ := okOdd_at (List.all_eq_true.mp (by decide +kernel) z2 hz2)
        refine ⟨by omega, _, j, rfl, ixN_nat (by omega), ?_⟩
        dsimp only
        rw [← List.map_set]
        refine tail _ _ ?_
        have := wt_set (o := u ++ o2) (ws := ws) (i := j)
        rw [Str.length_append] at this
        exact ⟨⟨_, _, _, _, _, rfl, okWs_of (fun w hw => (List.mem_or_eq_of_mem_set hw).elim (okw w) fun e => e ▸ app_ok (okw u um) oo2) (by omega)⟩, by omega⟩
      · refine ⟨_, rfl, ?_⟩
        dsimp only
        rw [cutG_to, ← List.map_take]
        refine tail _ _ ?_
        have := wt_take (ws := ws) (i := j)
        exact ⟨⟨_, _, _, _, _, rfl, okWs_of (fun w hw => okw w (List.mem_of_mem_take hw)) (by omega)⟩, by omega⟩
    rintro ρ m2 ⟨⟨ws', c3, c4, c5, c6, rfl, ok1, ok2⟩, hm2⟩
    refine ⟨_, rfl, ws', rfl, ?_, hQ _ _ ?_ ?_ hm2⟩
    · rw [wt_sum]
      omega
    · rw [join_eq]
      exact join_ok ok1
    · rw [join_eq]
      cases ws' with
      | nil => decide
      | cons w r =>
        have := joined_len (ws := w :: r) (by simp)
        omega
end
end DW

namespace DW
open PySem PySem.Spec L2
open TL

section
variable {K : PySem.W.Frag} {mg : Str → Option Value} {ad : Str → Addr}
abbrev NatD (x : D) : Prop := ∃ j : Nat, x = .int (j : Int)
theorem endE_pl {ss ms gs : List D} {p n : Int} : (endE ss ms gs p n).pl = true ∧ (endE ss ms gs p n).dep ≤ 0 := by
  unfold endE
  split
  · exact ⟨rfl, Nat.le_refl _⟩
  · split
    · exact ⟨rfl, Nat.le_refl _⟩
    · exact ⟨rfl, Nat.le_refl _⟩
theorem endC_has {ms gs : List D} {p n : Int} {x : D} (h : x ∈ endC ms gs p n) : gs.any (glHit p n) = false ∧ x ∈ openF p n 0 ms := by
  unfold endC at h
  split at h
  · cases h
  · rename_i e
    split at h
    · cases h
    · exact ⟨by simpa using e, h⟩
theorem endC_of {ms gs : List D} {p n : Int} {x : D} (h1 : gs.any (glHit p n) = false) (h2 : x ∈ openF p n 0 ms) : x ∈ endC ms gs p n := by
  unfold endC
  rw [if_neg (by rw [h1]; decide)]
  split
  · rename_i e
    cases z : openF p n 0 ms with
    | nil => rw [z] at h2; exact h2
    | cons _ _ => rw [z] at e; cases e
  · exact h2
theorem endC_int {ms gs : List D} {p n : Int} : ∀ x ∈ endC ms gs p n, ∃ j : Int, x = .int j := fun x hx => openF_int (endC_has hx).2
theorem endT_pl {ss ms gs : List D} {p n : Int} : (endT ss ms gs p n).pl = true ∧ (endT ss ms gs p n).dep ≤ 0 := by
  unfold endT
  split
  · exact ⟨rfl, Nat.le_refl _⟩
  · split <;> exact ⟨rfl, Nat.le_refl _⟩
theorem okP_yes {x0 x1 x2 x3 x4 x5 x6 x7 x8 y0 y1 y2 y3 y4 y5 y6 y7 y8 : D} (h : (!(x0.eqb y0 && (x1.eqb y1 && (x2.eqb y2 && x3.eqb y3))) || (x4.eqb y4 && (x5.eqb y5 && (x6.eqb y6 && (x7.eqb y7 && x8.eqb y8))))) = true) : okP [("book", x0), ("place", x1), ("n", x2), ("moves", x3), ("states", x4), ("here", x5), ("ended", x6), ("choices", x7), ("turn", x8)] [("book", y0), ("place", y1), ("n", y2), ("moves", y3), ("states", y4), ("here", y5), ("ended", y6), ("choices", y7), ("turn", y8)] = true := by
  rw [okP, h, decide_eq_true rfl]
  rfl
/-- a play beside another of the same book: the same, or of another length -/
theorem play_cmp (T : TB K mg ad) {L : Nat} {ss ms gs : List D} (G : GoodB L ss ms gs) {p k p' k' : Int} {its its' : List D} (hk : ∀ x ∈ its, NatD x) (hk' : ∀ x ∈ its', NatD x) (h : (its = its' ∧ p = p' ∧ k = k') ∨ its.length ≠ its'.length) :
    cmpOk (levB ad) (playO ad ss ms gs p k its) (playO ad ss ms gs p' k' its') = true ∧ (playO ad ss ms gs p k its).need (levB ad) ≤ 10 ∧ (playO ad ss ms gs p k its).eqb (playO ad ss ms gs p' k' its') = decide (its.length = its'.length) := by
  obtain ⟨b1, b2, b3⟩ := book_self T G
  obtain ⟨m1, m2⟩ := ints_pl (xs := its) (nat_ints hk)
  obtain ⟨m1', m2'⟩ := ints_pl (xs := its') (nat_ints hk')
  obtain ⟨s1, s2⟩ := sts_pl (ss := walkS ms gs p k its)
  obtain ⟨s1', s2'⟩ := sts_pl (ss := walkS ms gs p' k' its')
  obtain ⟨e1, e2⟩ := endE_pl (ss := ss) (ms := ms) (gs := gs) (p := (lastS ms gs p k its).1) (n := (lastS ms gs p k its).2)
  obtain ⟨e1', e2'⟩ := endE_pl (ss := ss) (ms := ms) (gs := gs) (p := (lastS ms gs p' k' its').1) (n := (lastS ms gs p' k' its').2)
  obtain ⟨c1, c2⟩ := ints_pl (xs := endC ms gs (lastS ms gs p k its).1 (lastS ms gs p k its).2) endC_int
  obtain ⟨c1', c2'⟩ := ints_pl (xs := endC ms gs (lastS ms gs p' k' its').1 (lastS ms gs p' k' its').2) endC_int
  obtain ⟨t1, t2⟩ := endT_pl (ss := ss) (ms := ms) (gs := gs) (p := (lastS ms gs p k its).1) (n := (lastS ms gs p k its).2)
  obtain ⟨t1', t2'⟩ := endT_pl (ss := ss) (ms := ms) (gs := gs) (p := (lastS ms gs p' k' its').1) (n := (lastS ms gs p' k' its').2)
  have h1 : (stD (lastS ms gs p k its)).pl = true := rfl
  have h2 : (stD (lastS ms gs p k its)).dep ≤ 1 := Nat.le_refl _
  refine ⟨cmp_obj (by rw [lev_P T]; decide) (cmpF_mk b1 (cmpF_mk (pl_cmp rfl rfl) (cmpF_mk (pl_cmp rfl rfl) (cmpF_mk (pl_cmp m1 m1') (cmpF_mk (pl_cmp s1 s1') (cmpF_mk (pl_cmp rfl rfl) (cmpF_mk (pl_cmp e1 e1') (cmpF_mk (pl_cmp c1 c1') (cmpF_mk (pl_cmp t1 t1') (by rw [cmpF])))))))))) ?_ ?_, ?_, ?_⟩
  · rw [lev_P T]
    exact needF_mk (by omega) (needF_mk (show 0 < 10 by decide) (needF_mk (show 0 < 10 by decide) (needF_mk (by rw [need_dep m1]; omega) (needF_mk (by rw [need_dep s1]; omega) (needF_mk (by rw [need_dep h1]; omega) (needF_mk (by rw [need_dep e1]; omega) (needF_mk (by rw [need_dep c1]; omega) (needF_mk (by rw [need_dep t1]; omega) (show 0 < 10 by decide)))))))))
  · unfold okB
    rw [if_neg (Ne.symm T.np.1), if_neg (Ne.symm T.np.2.1), if_pos rfl]
    refine okP_yes ?_
    rcases h with ⟨rfl, rfl, rfl⟩ | h
    · rw [eqb_refl s1, eqb_refl h1, eqb_refl e1, eqb_refl c1, eqb_refl t1]
      simp
    · rw [show (D.tup its).eqb (.tup its') = false by rw [D.eqb]; exact eqbA_len h]
      simp
  · exact Nat.le_of_eq (lev_P T)
  · rw [eqb_obj, eqbF_cons, eqbF_cons, eqbF_cons, eqbF_cons]
    rcases h with ⟨rfl, rfl, rfl⟩ | h
    · rw [eqbF_cons, eqbF_cons, eqbF_cons, eqbF_cons, eqbF_cons, eqbF, b3, eqb_refl m1, eqb_refl s1, eqb_refl h1, eqb_refl e1, eqb_refl c1, eqb_refl t1, decide_eq_true rfl, D.eqb, D.eqb]
      simp
    · rw [show (D.tup its).eqb (.tup its') = false by rw [D.eqb]; exact eqbA_len h, decide_eq_false h]
      simp
end
theorem rd3_its {ms gs : List D} {p n : Int} {its : List D} {p' n' : Int} {its' : List D} (h : rdW3 ms gs p n its = .inr (p', n', its')) : its' = its := by
  unfold rdW3 at h
  split at h
  · cases h
  · injection h with h
    injection h with _ h
    injection h with _ h
    exact h.symm
theorem rd_its {N : Nat} {ms gs : List D} {ws : List Str} {p n : Int} {its : List D} (h : rdW N ms gs ws = .inr (p, n, its)) : ∀ x ∈ its, x = .non ∨ ∃ i : Int, x = .int i := by
  have all : ∀ r : List Str, ∀ x ∈ r.map numD, x = .non ∨ ∃ i : Int, x = .int i := fun r x hx => by
    obtain ⟨w, _, rfl⟩ := List.mem_map.mp hx
    exact numD_or w
  cases ws with
  | nil => cases h
  | cons w0 r0 =>
    rw [rdW] at h
    split at h
    · split at h
      · cases r0 with
        | nil => cases h
        | cons w1 r1 =>
          rw [rdW1] at h
          split at h
          · cases r1 with
            | nil => cases h
            | cons w2 r2 =>
              rw [rdW2] at h
              split at h
              · rw [rd3_its h]
                exact all r2
              · cases h
          · cases h
      · cases h
    · cases h
theorem gotD_pl {N : Nat} {ms gs : List D} {x : Str} : (gotD N ms gs x).pl = true ∧ (gotD N ms gs x).dep ≤ 2 := by
  unfold gotD
  have pc : PyData.strOk ("column" : Str) = true := by decide +kernel
  have pp : PyData.strOk ("play" : Str) = true := by decide +kernel
  cases h : rdW N ms gs (Txt.split x " ") with
  | inl k =>
    refine ⟨?_, show 1 ≤ 2 by decide⟩
    show (D.tup [.str "column", .int _]).pl = true
    rw [D.pl]
    exact plA_mk fun y hy => by
      simp only [List.mem_cons, List.not_mem_nil, or_false] at hy
      rcases hy with rfl | rfl
      · exact pc
      · rfl
  | inr r =>
    obtain ⟨p, n, its⟩ := r
    have hi := rd_its h
    have pi : (D.tup its).pl = true ∧ (D.tup its).dep ≤ 1 := by
      refine ⟨?_, ?_⟩
      · rw [D.pl]
        exact plA_mk fun y hy => by rcases hi y hy with rfl | ⟨i, rfl⟩ <;> rfl
      · have := depA_le (n := 0) fun y hy => by rcases hi y hy with rfl | ⟨i, rfl⟩ <;> exact Nat.le_refl _
        show depA its + 1 ≤ 1
        omega
    refine ⟨?_, ?_⟩
    · show (D.tup [.str "play", .int p, .int n, .tup its]).pl = true
      rw [D.pl]
      exact plA_mk fun y hy => by
        simp only [List.mem_cons, List.not_mem_nil, or_false] at hy
        rcases hy with rfl | rfl | rfl | rfl
        · exact pp
        · rfl
        · rfl
        · exact pi.1
    · show max 0 (max 0 (max 0 (max (D.tup its).dep 0))) + 1 ≤ 2
      have := pi.2
      omega
/-- a module's text, a module's number -/
def strK (K : PySem.W.Frag) (x s : Str) : Bool := match PySem.W.nsIn K mainGlobals x with
  | some (some (.str y _)) => decide (y = s)
  | _ => false
def intK (K : PySem.W.Frag) (x : Str) (i : Int) : Bool := match PySem.W.nsIn K mainGlobals x with
  | some (some (.int y _)) => decide (y = i)
  | _ => false
theorem strK_at {K : PySem.W.Frag} {x s : Str} {h : Heap} {mg : Str → Option Value} (b : strK K x s = true) (X : K.In h) (G : h.Ns mainGlobals mg) : ∃ t, mg x = some (.str s t) := by
  unfold strK at b
  split at b
  · rename_i y t e
    have b := of_decide_eq_true b
    subst b
    exact ⟨t, PySem.W.mg_of X G e⟩
  · cases b
theorem intK_at {K : PySem.W.Frag} {x : Str} {i : Int} {h : Heap} {mg : Str → Option Value} (b : intK K x i = true) (X : K.In h) (G : h.Ns mainGlobals mg) : ∃ t, mg x = some (.int i t) := by
  unfold intK at b
  split at b
  · rename_i y t e
    have b := of_decide_eq_true b
    subst b
    exact ⟨t, PySem.W.mg_of X G e⟩
  · cases b
section
variable {P : Program} {w : World} {K : PySem.W.Frag} {TT : List (Addr × Str)} {mg : Str → Option Value} {base : Heap} {ad : Str → Addr}
abbrev s_law : Stmt := topS 69
theorem sc_law : FnScope ["_law_script", "_law_pen_here", "_law_book", "_law_made", "_law_lap", "_law_place", "_law_n", "_law_moves", "_law_play", "_law_text", "_law_index", "_law_turn", "_law_changed_here", "_law_bad"] ["_law_script"] (defScope s_law) := ⟨rfl, rfl, rfl, by decide +kernel, rfl, by decide +kernel, by decide +kernel⟩
theorem ok_law {f fp : Addr} {fd fdp : FuncData} (F : Fun K "law" "law" s_law f fd) (T : TB K mg ad) (Fp : FnG false P w K mg base CX0 1 fp fdp ["_law_script"] (spPen K)) (gp : mg "_law_pen" = some (.ref fp)) (kp : PySem.W.keepIn K (.ref fp) = true) (bp : Binds K fdp ["_law_script"] []) (f__law_draw : DFn false P w K TT mg base 1 "_law_draw" fwDraw) (f__law_pick : DFn false P w K TT mg base 2 "_law_pick" fwPick) (f__law_drawn_book : DFn false P w K TT mg base 6 "_law_drawn_book" fwDrawn) (f__law_made_book : DFn false P w K TT mg base 10 "_law_made_book" (fwMadeB ad)) (f__law_far : DFn false P w K TT mg base 3 "_law_far" fwFar) (f__law_drawn_moves : DFn false P w K TT mg base 9 "_law_drawn_moves" fwDrMv) (mk_Play : MkIX P w K TT mg base 9 "Play" (ad "Play") (fiPlay ad)) (f_play_text : DFn false P w K TT mg base 1 "play_text" (fwText ad)) (f_read_play : DFnX P w K TT mg base 11 "read_play" (fwRead ad)) (f__law_got : DFn false P w K TT mg base 12 "_law_got" (fwGot ad)) (f__law_changed : DFn false P w K TT mg base 3 "_law_changed" fwChg) (f__law_due : DFn false P w K TT mg base 11 "_law_due" fwDue) (E10 : EqE P w K TT mg base (levB ad) 10) (N0 : NeE K (levB ad)) : FnG false P w K mg base CX0 14 f fd ["_law_script"] (spLaw K TT) := by
  refine law_data (g := false) (P := P) (w := w) (mg := mg) (base := base) (k := 13) F sc_law (by decide) rfl (fun cdv A outer s H E hr => ps_set (i := 1) sc_law.nd rfl (by first | exact Or.inl rfl | exact Or.inr rfl) (pe_callG (E := E0) Fp (hr.mono (by decide)) nog (by rfl) gp kp bp pass0 (pa_cons (pv 0) pa_nil)))
    (fun cdv A outer s H E p cc B H1 hr hgs hcd => (dss_cons (ds_set (i := 2) sc_law.nd rfl (by first | exact Or.inl rfl | exact Or.inr rfl) (de_call f__law_drawn_book hr nog (by decide) (by rfl) (da_cons (de_var 1) da_nil)))
    (dss_cons (ds_set (i := 3) sc_law.nd rfl (by first | exact Or.inl rfl | exact Or.inr rfl) (de_call f__law_made_book hr nog (by decide) (by rfl) (da_cons (de_var 1) (da_cons (de_var 2) da_nil))))
    (dss_cons (ds_for PassesOwn.never rfl (di_range1 (by rfl) T.b_range (da_cons de_int da_nil)) (dg_name (i := 4) sc_law.nd rfl (by first | exact Or.inl rfl | exact Or.inr rfl))
    (dss_cons (ds_par2 (i := 5) (j := 6) (fun _ h => ps_par (i := 5) (j := 6) rfl sc_law.nd rfl rfl (by decide) rfl rfl h rfl) (da_cons (de_call f__law_draw hr nog (by decide) (by rfl) (da_cons (de_var 1) (da_cons (de_callB call_len rd_len (by rfl) T.b_len (by decide +kernel) (da_cons (de_sub2 hr (de_var 2) de_str (fun _ _ => rfl)) da_nil)) da_nil))) (da_cons (de_call f__law_pick hr nog (by decide) (by rfl) (da_cons (de_var 1) (da_cons (de_lst (da_cons (de_sub (de_call f__law_draw hr nog (by decide) (by rfl) (da_cons (de_var 1) (da_cons de_int da_nil))) de_int) (da_cons (de_call f__law_far hr nog (by decide) (by rfl) (da_cons (de_var 1) da_nil)) da_nil))) da_nil))) da_nil)))
    (dss_cons (ds_set (i := 7) sc_law.nd rfl (by first | exact Or.inl rfl | exact Or.inr rfl) (de_call f__law_drawn_moves hr nog (by decide) (by rfl) (da_cons (de_var 1) (da_cons (de_var 2) (da_cons (de_tup (da_cons (de_var 5) (da_cons (de_var 6) da_nil))) da_nil)))))
    (dss_cons (ds_set (i := 8) sc_law.nd rfl (by first | exact Or.inl rfl | exact Or.inr rfl) (de_mkI0 mk_Play hr (by decide) (by rfl) (da_cons (de_var 3) (da_cons (de_var 5) (da_cons (de_var 6) (da_cons (de_var 7) da_nil))))))
    (dss_cons (ds_set (i := 9) sc_law.nd rfl (by first | exact Or.inl rfl | exact Or.inr rfl) (de_call f_play_text hr nog (by decide) (by rfl) (da_cons (de_var 8) da_nil)))
    (dss_cons (ds_if (dt_neX (n := 10) E10 N0 hr (by decide) (de_var 9) (de_join de_str (de_add (de_lst (da_cons (de_callTy call_str_int rd_str (by rfl) T.b_str (by decide +kernel) (da_cons (de_var 5) da_nil)) (da_cons de_str (da_cons (de_add (de_callTy call_str_int rd_str (by rfl) T.b_str (by decide +kernel) (da_cons (de_var 6) da_nil)) de_str) da_nil)))) (DL.de (dl_lc (own := [("_law_index", 10)]) rfl sc_law.nd (di_seq (de_var 7)) (blkOk_by (own := [("_law_index", 10)]) (N := ["_law_script", "_law_pen_here", "_law_book", "_law_made", "_law_lap", "_law_place", "_law_n", "_law_moves", "_law_play", "_law_text", "_law_index", "_law_turn", "_law_changed_here", "_law_bad"]) (sc := defScope s_law) (by decide +kernel)) (fun _ _ _ _ _ => (dg_name (i := 10) sc_law.nd rfl (by first | exact Or.inl rfl | exact Or.inr rfl))) (by decide) (fun _ _ _ _ _ => dts_nil) (fun _ _ _ _ _ => (de_callTy call_str_int rd_str (by rfl) T.b_str (by decide +kernel) (da_cons (de_var 10) da_nil))))))))
    (dss_one (ds_ret de_bl))
    dss_nil)
    (dss_cons (ds_if (DTw.dt (dtw_or (dt_neX (n := 10) E10 N0 hr (by decide) (de_callX0 f_read_play hr (by decide) (by rfl) (da_cons (de_var 3) (da_cons (de_var 9) da_nil))) (de_var 8)) (dtw_or1 (dt_neX (n := 10) E10 N0 hr (by decide) (de_call f__law_got hr nog (by decide) (by rfl) (da_cons (de_var 3) (da_cons (de_var 9) da_nil))) (de_tup (da_cons de_str (da_cons (de_var 5) (da_cons (de_var 6) (da_cons (de_callTy call_tuple_of rd_tuple (by rfl) T.b_tuple (by decide +kernel) (da_cons (de_var 7) da_nil)) da_nil)))))))))
    (dss_one (ds_ret de_bl))
    dss_nil)
    (dss_one (ds_for PassesOwn.never rfl (di_range1 (by rfl) T.b_range (da_cons de_int da_nil)) (dg_name (i := 11) sc_law.nd rfl (by first | exact Or.inl rfl | exact Or.inr rfl))
    (dss_cons (ds_set (i := 12) sc_law.nd rfl (by first | exact Or.inl rfl | exact Or.inr rfl) (de_call f__law_changed hr nog (by decide) (by rfl) (da_cons (de_var 1) (da_cons (de_var 9) da_nil))))
    (dss_one (ds_if (dt_neX (n := 10) E10 N0 hr (by decide) (de_call f__law_got hr nog (by decide) (by rfl) (da_cons (de_var 3) (da_cons (de_var 12) da_nil))) (de_call f__law_due hr nog (by decide) (by rfl) (da_cons (de_var 2) (da_cons (de_var 12) da_nil))))
    (dss_one (ds_ret de_bl))
    dss_nil))))))))))))
    (dss_cons (ds_set (i := 13) sc_law.nd rfl (by first | exact Or.inl rfl | exact Or.inr rfl) (de_call f__law_pick hr nog (by decide) (by rfl) (da_cons (de_var 1) (da_cons (de_lst (da_cons de_non (da_cons de_int (da_cons (de_tup (da_cons de_str (da_cons de_str (da_cons de_str da_nil)))) (da_cons (de_lst (da_cons de_str da_nil)) (da_cons de_bl da_nil)))))) da_nil))))
    (dss_one (ds_ret (de_eqX (n := 10) E10 hr (by decide) (de_call f__law_got hr nog (by decide) (by rfl) (da_cons (de_var 3) (da_cons (de_var 13) da_nil))) (de_tup (da_cons de_str (da_cons de_int (da_cons de_int da_nil)))))))))))) ?_ (fun _ _ _ _ _ _ _ _ _ _ _ _ _ => rfl)
  refine ⟨rfl, by decide, fun ss ms gs m1 G20 _ hm1 => ?_⟩
  have G := G20.mono (L' := 60) (by decide)
  have s4 := G.s4; have s0 := G.s0
  have ml := G.ml
  have cp := T.cl "Play" (by decide)
  refine ⟨ss, ms, gs, rfl, G, by omega, fun m2 hm2 => ?_⟩
  refine ⟨⟨by decide, by decide⟩, fun i ρ m' => (∃ c4 c5 c6 c7 c8 c9 c10 c11 c12 c13, ρ = [.un, .dat .pen, .dat (bookT ss ms gs), .dat (bookO ad ss ms gs), c4, c5, c6, c7, c8, c9, c10, c11, c12, c13]) ∧ m' ≤ m2 + 400 * i, ⟨⟨_, _, _, _, _, _, _, _, _, _, rfl⟩, Nat.le_refl _⟩, ?_, ?_⟩
  · rintro i x ρ m4 hx ⟨⟨c4, c5, c6, c7, c8, c9, c10, c11, c12, c13, rfl⟩, hm4⟩
    have hi : i < 3 := (rngD_at (n := 3) hx).1
    refine cutS (k := ?k1) (fun ρ m' => (∃ p n its c4 c10 c11 c12 c13, 0 ≤ p ∧ p < (ss.length : Int) ∧ n.natAbs < 10 ^ 60 ∧ Full ms gs p n its ∧ (∀ x ∈ its, NatK x) ∧ its.length ≤ 20 ∧ ρ = [.un, .dat .pen, .dat (bookT ss ms gs), .dat (bookO ad ss ms gs), c4, .dat (.int p), .dat (.int n), .dat (.lst its), .dat (playO ad ss ms gs p n its), .dat (.str (textP p n its)), c10, c11, c12, c13]) ∧ m' ≤ m4 + 200) ?b1 fun tail => ?a1
    case a1 =>
      refine .inr ⟨_, rfl, (ss.length : Int), rfl, by omega, by omega, by omega, fun p p0 p1 => ?_⟩
      refine ⟨12, rfl, by decide, by decide, by omega, fun r r0 r1 => ⟨rfl, by omega, fun far m5 hfar hm5 => ⟨(show 2 ≤ sizeLine by decide), _, rfl, (show 0 < 2 by decide), (show 2 < 1073741824 by decide), by omega, fun y hy => ?_⟩⟩⟩
      obtain ⟨n, rfl, hn⟩ : ∃ n : Int, y = .int n ∧ n.natAbs < 10 ^ 60 := by
        simp only [List.mem_cons, List.not_mem_nil, or_false] at hy
        rcases hy with rfl | rfl
        · exact ⟨_, rfl, Nat.lt_trans (show (r - 4).natAbs < 100 by omega) (by decide)⟩
        · exact ⟨_, rfl, Nat.lt_trans hfar (by decide)⟩
      refine ⟨(show 2 ≤ sizeLine by decide), ss, ms, gs, p, n, rfl, G, p0, p1, by omega, fun its m6 hf hl hk hm6 => ?_⟩
      have ix : (D.int p).isIx ss.length = true := ix_yes p0 p1
      refine ⟨ss, ms, gs, .int p, .int n, .lst its, rfl, G, rfl, rfl, rfl, ⟨fun z => (by rw [ix] at z; cases z), fun _ z => (by cases z), fun a' b' e1 e2 _ => ?_⟩⟩
      cases e1
      cases e2
      refine ⟨fun z => (by cases z), fun _ => ⟨fun x hx => (by obtain ⟨j, rfl, _⟩ := hk x hx; rfl), (show its.length ≤ 1000 by omega), fun _ => ?_, fun hle _ _ => ?_⟩⟩
      · refine ⟨ss, ms, gs, p, n, its, rfl, p0, by omega, hn, hk, by omega, ?_⟩
        refine tail _ _ ?_
        exact ⟨⟨p, n, its, _, _, _, _, _, p0, p1, hn, hf, hk, hl, rfl⟩, by omega⟩
      · exfalso
        have hle : (walkS ms gs p n its).length ≤ its.length := hle
        unfold Full at hf
        omega
    rintro ρ m5 ⟨⟨p, n, its, c4, c10, c11, c12, c13, p0, p1, hn, hf, hk, hl, rfl⟩, hm5⟩
    have hkN : ∀ x ∈ its, NatD x := fun x hx => by
      obtain ⟨j, e, _⟩ := hk x hx
      exact ⟨j, e⟩
    have tok := textP_ok (p := p) (n := n) hkN
    have tln := textP_len p0 (by omega) hn hk (by omega)
    have small : (300 : Nat) ≤ sizeLine := by decide
    have lp : p.natAbs.log2 < 1920 := log_lt (Nat.lt_trans (show p.natAbs < 100 by omega) (by decide))
    have wk : ((toString n : String) ++ ":" : Str).length + 1 ≤ wt (wordsP p n its) := wt_ge (by unfold wordsP; simp)
    rw [Str.length_append] at wk
    refine cutS (k := ?k2) (fun ρ m' => ρ = [.un, .dat .pen, .dat (bookT ss ms gs), .dat (bookO ad ss ms gs), c4, .dat (.int p), .dat (.int n), .dat (.lst its), .dat (playO ad ss ms gs p n its), .dat (.str (textP p n its)), c10, c11, c12, c13] ∧ m' = m5) ?b2 fun tail => ?a2
    case a2 =>
      refine ⟨_, rfl, lp, log_lt hn, by omega, (show 3 ≤ sizeLine by decide), szl (by omega), IMap its (fun u => .str (numT u)) m5, ⟨rfl, rfl⟩, fun i x acc m' hx hI => ?_, fun acc m' hI => ?_⟩
      · obtain ⟨j, rfl, hj⟩ := hk x (List.mem_of_getElem? hx)
        exact ⟨log_lt (Nat.lt_trans (show ((j : Int)).natAbs < 100 by omega) (by decide)), hI.next hx rfl⟩
      obtain ⟨rfl, rfl⟩ := hI.fin
      refine ⟨by rw [List.length_map]; show 3 + its.length ≤ sizeLine; omega, wordsP p n its, ?_, ?_, pl_cmp tok tok, Nat.zero_le _, ?_⟩
      · unfold wordsP
        rw [List.map_cons, List.map_cons, List.map_cons, List.map_map]
        rfl
      · rw [wt_sum]
        exact Nat.le_trans tln.1 (by decide)
      rw [show (D.str (textP p n its)).eqb (.str (Txt.join " " (wordsP p n its))) = true from eqb_refl (d := .str (textP p n its)) tok]
      simp only [Bool.not_true, Bool.false_eq_true, if_false]
      try unfold wNext
      try dsimp only
      refine tail _ _ ?_
      exact ⟨rfl, rfl⟩
    rintro ρ m6 ⟨rfl, rfl⟩
    have rdP := rdW_P (ms := ms) (gs := gs) p0 p1 (by omega) hn hk hf
    have spP := split_P (p := p) (n := n) hkN
    obtain ⟨y1, y2, y3⟩ := play_cmp T G (p := p) (k := n) (p' := p) (k' := n) hkN hkN (.inl ⟨rfl, rfl, rfl⟩)
    refine cutS (k := ?k3) (fun ρ m' => ρ = [.un, .dat .pen, .dat (bookT ss ms gs), .dat (bookO ad ss ms gs), c4, .dat (.int p), .dat (.int n), .dat (.lst its), .dat (playO ad ss ms gs p n its), .dat (.str (textP p n its)), c10, c11, c12, c13] ∧ m' = m6) ?b3 fun tail => ?a3
    case a3 =>
      refine ⟨ss, ms, gs, .str (textP p n its), rfl, G, rfl, fun z => (by cases z), fun x e => ?_⟩
      cases e
      refine ⟨tok, by omega, fun k e1 => ?_, fun p' n' its' e1 => ?_⟩
      · rw [spP, rdP] at e1
        cases e1
      rw [spP, rdP] at e1
      cases e1
      refine ⟨y1, y2, ?_⟩
      rw [y3, decide_eq_true rfl]
      refine ⟨ss, ms, gs, .str (textP p n its), rfl, G, rfl, fun z => (by cases z), fun x e => ?_⟩
      cases e
      obtain ⟨g1, g2⟩ := gotD_pl (N := ss.length) (ms := ms) (gs := gs) (x := textP p n its)
      have gP := gotD_P (ms := ms) (gs := gs) p0 p1 (by omega) hn hk hf
      rw [gP] at g1 g2
      refine ⟨tok, by omega, (show 4 ≤ sizeLine by decide), ?_⟩
      rw [gP]
      refine ⟨pl_cmp g1 g1, by rw [need_dep g1]; omega, ?_⟩
      rw [eqb_refl g1]
      simp only [Bool.not_true, Bool.false_eq_true, if_false]
      try unfold wNext
      try dsimp only
      refine tail _ _ ?_
      exact ⟨rfl, rfl⟩
    rintro ρ m7 ⟨rfl, rfl⟩
    refine ⟨⟨by decide, by decide⟩, fun j ρ m' => (∃ c11 c12, ρ = [.un, .dat .pen, .dat (bookT ss ms gs), .dat (bookO ad ss ms gs), c4, .dat (.int p), .dat (.int n), .dat (.lst its), .dat (playO ad ss ms gs p n its), .dat (.str (textP p n its)), c10, c11, c12, c13]) ∧ m' ≤ m7 + 20 * j, ⟨⟨_, _, rfl⟩, Nat.le_refl _⟩, ?_, ?_⟩
    · rintro j x ρ m8 hx2 ⟨⟨c11, c12, rfl⟩, hm8⟩
      have hj : j < 4 := (rngD_at (n := 4) hx2).1
      refine ⟨textP p n its, rfl, tok, by omega, by omega, fun y m9 oy ly hm9 => ?_⟩
      obtain ⟨g1, g2⟩ := gotD_pl (N := ss.length) (ms := ms) (gs := gs) (x := y)
      refine ⟨ss, ms, gs, .str y, rfl, G, rfl, fun z => (by cases z), fun x e => ?_⟩
      cases e
      refine ⟨oy, ly, ss, ms, gs, y, rfl, G, oy, ly, pl_cmp g1 g1, by rw [need_dep g1]; omega, ?_⟩
      rw [eqb_refl g1]
      exact ⟨⟨_, _, rfl⟩, by omega⟩
    · rintro ρ m8 ⟨⟨c11, c12, rfl⟩, hm8⟩
      have e4 : (rngD 0 4).length = 4 := rngD_len 4
      rw [e4] at hm8
      exact ⟨⟨_, _, _, _, _, _, _, _, _, _, rfl⟩, by omega⟩
  · rintro ρ m4 ⟨⟨c4, c5, c6, c7, c8, c9, c10, c11, c12, c13, rfl⟩, hm4⟩
    have e3 : (rngD 0 3).length = 3 := rngD_len 3
    rw [e3] at hm4
    refine ⟨(show 3 ≤ sizeLine by decide), (show 1 ≤ sizeLine by decide), (show 5 ≤ sizeLine by decide), _, rfl, (show 0 < 5 by decide), (show 5 < 1073741824 by decide), by omega, fun z hz => ?_⟩
    have pn : PyData.strOk ("none" : Str) = true := by decide +kernel
    have pN : (D.tup [.str "none", .int 0, .int 0]).pl = true := by decide +kernel
    obtain ⟨z1, z2, z3⟩ : z.known (csB ad) = true ∧ z.isTy "str" = false ∧ ∀ x : Str, z ≠ .str x := by
      simp only [List.mem_cons, List.not_mem_nil, or_false] at hz
      rcases hz with rfl | rfl | rfl | rfl | rfl <;> exact ⟨rfl, rfl, fun x e => by cases e⟩
    refine ⟨ss, ms, gs, z, rfl, G, z1, fun _ => ?_, fun x e => absurd e (z3 x)⟩
    refine ⟨(show 3 ≤ sizeLine by decide), pl_cmp pN pN, by rw [need_dep pN]; show 1 ≤ 10; decide, ?_⟩
    rw [eqb_refl pN]
    rfl

end
end DW

namespace DW
open PySem PySem.Spec L2
open LamX
abbrev s_BadBook___init__ : Stmt := inClass (topS 4) 0
theorem sc_BadBook___init__ : FnScope ["self", "what", "index"] ["self", "what", "index"] (defScope s_BadBook___init__) := ⟨rfl, rfl, rfl, by decide +kernel, rfl, by decide +kernel, by decide +kernel⟩
theorem ini_BadBook {P : Program} {w : World} {K : PySem.W.Frag} {mg : Str → Option Value} {base : Heap} {C f : Addr} {fd : FuncData} (F : Fun K "__init__" "BadBook.__init__" s_BadBook___init__ f fd) (T : OexC K C) (N0 : PySem.W.findIn K (.ref C) "what" = some none) (N1 : PySem.W.findIn K (.ref C) "index" = some none) : FnOk P w K mg base CX0 1 f fd ["self", "what", "index"] (spX C ["what", "index"]) :=
  FnG.ok (fnG_of (g := false) F sc_BadBook___init__ (fun vs H Q E h => by
    obtain ⟨a, us, rfl, hl, _⟩ := h
    rw [List.length_cons, hl]
    rfl) fun cdv A outer s H vs Q E hr _ _ h => ⟨_, PSs.nox (pss_cons (ps_ost (pv 0) (pv 1)) (pss_one (ps_ost (pv 0) (pv 2)))), init2 T N0 N1 h⟩)
abbrev s_BadNumber___init__ : Stmt := inClass (topS 3) 0
theorem sc_BadNumber___init__ : FnScope ["self", "what", "value"] ["self", "what", "value"] (defScope s_BadNumber___init__) := ⟨rfl, rfl, rfl, by decide +kernel, rfl, by decide +kernel, by decide +kernel⟩
theorem ini_BadNumber {P : Program} {w : World} {K : PySem.W.Frag} {mg : Str → Option Value} {base : Heap} {C f : Addr} {fd : FuncData} (F : Fun K "__init__" "BadNumber.__init__" s_BadNumber___init__ f fd) (T : OexC K C) (N0 : PySem.W.findIn K (.ref C) "what" = some none) (N1 : PySem.W.findIn K (.ref C) "value" = some none) : FnOk P w K mg base CX0 1 f fd ["self", "what", "value"] (spX C ["what", "value"]) :=
  FnG.ok (fnG_of (g := false) F sc_BadNumber___init__ (fun vs H Q E h => by
    obtain ⟨a, us, rfl, hl, _⟩ := h
    rw [List.length_cons, hl]
    rfl) fun cdv A outer s H vs Q E hr _ _ h => ⟨_, PSs.nox (pss_cons (ps_ost (pv 0) (pv 1)) (pss_one (ps_ost (pv 0) (pv 2)))), init2 T N0 N1 h⟩)
abbrev s_BadPlace___init__ : Stmt := inClass (topS 5) 0
theorem sc_BadPlace___init__ : FnScope ["self", "value"] ["self", "value"] (defScope s_BadPlace___init__) := ⟨rfl, rfl, rfl, by decide +kernel, rfl, by decide +kernel, by decide +kernel⟩
theorem ini_BadPlace {P : Program} {w : World} {K : PySem.W.Frag} {mg : Str → Option Value} {base : Heap} {C f : Addr} {fd : FuncData} (F : Fun K "__init__" "BadPlace.__init__" s_BadPlace___init__ f fd) (T : OexC K C) (N0 : PySem.W.findIn K (.ref C) "value" = some none) : FnOk P w K mg base CX0 1 f fd ["self", "value"] (spX C ["value"]) :=
  FnG.ok (fnG_of (g := false) F sc_BadPlace___init__ (fun vs H Q E h => by
    obtain ⟨a, us, rfl, hl, _⟩ := h
    rw [List.length_cons, hl]
    rfl) fun cdv A outer s H vs Q E hr _ _ h => ⟨_, PSs.nox (pss_one (ps_ost (pv 0) (pv 1))), init1 T N0 h⟩)
abbrev s_BadRow___init__ : Stmt := inClass (topS 6) 0
theorem sc_BadRow___init__ : FnScope ["self", "value"] ["self", "value"] (defScope s_BadRow___init__) := ⟨rfl, rfl, rfl, by decide +kernel, rfl, by decide +kernel, by decide +kernel⟩
theorem ini_BadRow {P : Program} {w : World} {K : PySem.W.Frag} {mg : Str → Option Value} {base : Heap} {C f : Addr} {fd : FuncData} (F : Fun K "__init__" "BadRow.__init__" s_BadRow___init__ f fd) (T : OexC K C) (N0 : PySem.W.findIn K (.ref C) "value" = some none) : FnOk P w K mg base CX0 1 f fd ["self", "value"] (spX C ["value"]) :=
  FnG.ok (fnG_of (g := false) F sc_BadRow___init__ (fun vs H Q E h => by
    obtain ⟨a, us, rfl, hl, _⟩ := h
    rw [List.length_cons, hl]
    rfl) fun cdv A outer s H vs Q E hr _ _ h => ⟨_, PSs.nox (pss_one (ps_ost (pv 0) (pv 1))), init1 T N0 h⟩)
abbrev s_NoMove___init__ : Stmt := inClass (topS 8) 0
theorem sc_NoMove___init__ : FnScope ["self", "value"] ["self", "value"] (defScope s_NoMove___init__) := ⟨rfl, rfl, rfl, by decide +kernel, rfl, by decide +kernel, by decide +kernel⟩
theorem ini_NoMove {P : Program} {w : World} {K : PySem.W.Frag} {mg : Str → Option Value} {base : Heap} {C f : Addr} {fd : FuncData} (F : Fun K "__init__" "NoMove.__init__" s_NoMove___init__ f fd) (T : OexC K C) (N0 : PySem.W.findIn K (.ref C) "value" = some none) : FnOk P w K mg base CX0 1 f fd ["self", "value"] (spX C ["value"]) :=
  FnG.ok (fnG_of (g := false) F sc_NoMove___init__ (fun vs H Q E h => by
    obtain ⟨a, us, rfl, hl, _⟩ := h
    rw [List.length_cons, hl]
    rfl) fun cdv A outer s H vs Q E hr _ _ h => ⟨_, PSs.nox (pss_one (ps_ost (pv 0) (pv 1))), init1 T N0 h⟩)
abbrev s_BadText___init__ : Stmt := inClass (topS 7) 0
theorem sc_BadText___init__ : FnScope ["self", "line", "column"] ["self", "line", "column"] (defScope s_BadText___init__) := ⟨rfl, rfl, rfl, by decide +kernel, rfl, by decide +kernel, by decide +kernel⟩
theorem ini_BadText {P : Program} {w : World} {K : PySem.W.Frag} {mg : Str → Option Value} {base : Heap} {C f : Addr} {fd : FuncData} (F : Fun K "__init__" "BadText.__init__" s_BadText___init__ f fd) (T : OexC K C) (N0 : PySem.W.findIn K (.ref C) "line" = some none) (N1 : PySem.W.findIn K (.ref C) "column" = some none) : FnOk P w K mg base CX0 1 f fd ["self", "line", "column"] (spX C ["line", "column"]) :=
  FnG.ok (fnG_of (g := false) F sc_BadText___init__ (fun vs H Q E h => by
    obtain ⟨a, us, rfl, hl, _⟩ := h
    rw [List.length_cons, hl]
    rfl) fun cdv A outer s H vs Q E hr _ _ h => ⟨_, PSs.nox (pss_cons (ps_ost (pv 0) (pv 1)) (pss_one (ps_ost (pv 0) (pv 2)))), init2 T N0 N1 h⟩)
def defsK : List Str := (["is_whole", "is_row", "is_index", "tupled", "_is_condition", "_is_conditions", "_is_move", "_is_goal", "_need_sides", "_need_moves", "_need_goals", "_law_pick", "_law_some_condition", "_law_some_conditions", "_law_some_book", "_law_taking_book", "_law_drawn_book", "_law_listed", "_law_made_move", "_law_made_goal", "_law_made_book", "need_whole", "need_place", "need_state", "condition_holds"] : List Str) ++ (["all_hold", "open_moves", "_law_open", "_law_is_goal", "_law_holds", "_law_far", "by_place", "some_holds", "_states", "_end", "_law_number_of", "number_of", "play_text", "_column", "read_play", "_law_ended", "_law_drawn_moves", "_law_due", "_law_got", "_law_changed", "_law_pen", "_law_draw", "law"] : List Str)
def clsK : List Str := ["Move", "Goal", "Book", "Play"]
def namesK : List Str := (["Move", "Goal", "Book", "Play", "BadBook", "BadNumber", "BadPlace", "BadRow", "NoMove", "BadText", "WORDS"] : List Str) ++ defsK
def bltsK : List Str := ["isinstance", "int", "bool", "str", "list", "tuple", "len", "all", "any", "enumerate", "range", "max", "min", "abs", "sum"]
def methK : List (Str × Str) := [("Move", "__init__"), ("Goal", "__init__"), ("Book", "__init__"), ("Play", "__init__"), ("Move", "__eq__"), ("Goal", "__eq__"), ("Book", "__eq__"), ("Play", "__eq__"), ("BadBook", "__init__"), ("BadNumber", "__init__"), ("BadPlace", "__init__"), ("BadRow", "__init__"), ("NoMove", "__init__"), ("BadText", "__init__")]
def excK : List Str := ["BadBook", "BadNumber", "BadPlace", "BadRow", "NoMove", "BadText"]
def exfK : List (Str × Str) := [("BadBook", "what"), ("BadBook", "index"), ("BadNumber", "what"), ("BadNumber", "value"), ("BadPlace", "value"), ("BadRow", "value"), ("NoMove", "value"), ("BadText", "line"), ("BadText", "column")]
abbrev tabsK (K : PySem.W.Frag) : List (Addr × Str) := []
def chk_cns (K : PySem.W.Frag) : Bool := nsB K namesK bltsK
def chk_cfn (K : PySem.W.Frag) : Bool := fnB K defsK
def chk_cki (K : PySem.W.Frag) : Bool := kindsB K (csB (adr K))
def chk_cmt (K : PySem.W.Frag) : Bool := (methK.all fun r => mtB K (adr K r.1) r.2 (r.1 ++ ("." ++ r.2)))
def chk_cna (K : PySem.W.Frag) : Bool := (fldsB.all fun r => decide (PySem.W.findIn K (.ref (adr K r.1)) r.2 = some none))
def chk_cmk (K : PySem.W.Frag) : Bool := (clsK.all fun x => PySem.W.makesIn K (adr K x) && PySem.W.keepIn K (.ref (adr K x)))
def chk_cne (K : PySem.W.Frag) : Bool := (clsK.all fun x => decide (PySem.W.findIn K (.ref (adr K x)) "__ne__" = some (some (.builtin "object.__ne__"))))
def chk_cnf (K : PySem.W.Frag) : Bool := (clsK.all fun x => tyNs.all fun t => PySem.W.notFirst K (adr K x) (.type t))
def chk_cno (K : PySem.W.Frag) : Bool := (clsK.all fun x => clsK.all fun y => PySem.W.notFirst K (adr K x) (.ref (adr K y)))
def chk_cox (K : PySem.W.Frag) : Bool := (excK.all fun x => oexB K (adr K x))
def chk_cxf (K : PySem.W.Frag) : Bool := (excK.all fun x => xfB K (adr K x))
def chk_cex (K : PySem.W.Frag) : Bool := (exfK.all fun r => decide (PySem.W.findIn K (.ref (adr K r.1)) r.2 = some none))
def chk_cd1 (K : PySem.W.Frag) : Bool := decide (adr K "Move" ≠ adr K "Goal")
def chk_cd2 (K : PySem.W.Frag) : Bool := decide (adr K "Move" ≠ adr K "Book")
def chk_cd3 (K : PySem.W.Frag) : Bool := decide (adr K "Goal" ≠ adr K "Book")
def chk_cd4 (K : PySem.W.Frag) : Bool := decide (adr K "Move" ≠ adr K "Play")
def chk_cd5 (K : PySem.W.Frag) : Bool := decide (adr K "Goal" ≠ adr K "Play")
def chk_cd6 (K : PySem.W.Frag) : Bool := decide (adr K "Book" ≠ adr K "Play")
def chk_cwd (K : PySem.W.Frag) : Bool := strsB K (adr K "WORDS") wordsL
def chk_cdg (K : PySem.W.Frag) : Bool := strK K "DIGITS" digitsS
def chk_cmdg (K : PySem.W.Frag) : Bool := intK K "MOST_DIGITS" 60
def chk_cxm (K : PySem.W.Frag) : Bool := decide (PySem.W.exmOne K (.ref (adr K "BadText")) (.ref (adr K "BadText")) = some true)
theorem of_all {α : Type} {f : α → Bool} {xs : List α} (h : xs.all f = true) (x : α) (hx : x ∈ xs) : f x = true := List.all_eq_true.mp h x hx
theorem lev_ge {ad : Str → Addr} {C : Addr} (h : 0 < levB ad C) : 6 ≤ levB ad C := by
  have h : 0 < (if C = ad "Move" ∨ C = ad "Goal" then 6 else if C = ad "Book" then 8 else if C = ad "Play" then 10 else 0) := h
  show 6 ≤ (if C = ad "Move" ∨ C = ad "Goal" then 6 else if C = ad "Book" then 8 else if C = ad "Play" then 10 else 0)
  by_cases p : C = ad "Move" ∨ C = ad "Goal"
  · rw [if_pos p]
    decide
  · by_cases q : C = ad "Book"
    · rw [if_neg p, if_pos q]
      decide
    · by_cases z : C = ad "Play"
      · rw [if_neg p, if_neg q, if_pos z]
        decide
      · rw [if_neg p, if_neg q, if_neg z] at h
        cases h
theorem all_law {l : PySem.W.OpenLaw} {w : World} {K : PySem.W.Frag} {mg : Str → Option Value} {h : Heap} {fa : Addr} (X : K.In h) (G : h.Ns mainGlobals mg) (hfa : mg "law" = some (.ref fa)) (own : ∀ nm ∈ ([] : List Str), OwnTab K (adr K nm) h) (cns : chk_cns K = true) (cfn : chk_cfn K = true) (cki : chk_cki K = true) (cmt : chk_cmt K = true) (cna : chk_cna K = true) (cmk : chk_cmk K = true) (cne : chk_cne K = true) (cnf : chk_cnf K = true) (cno : chk_cno K = true) (cox : chk_cox K = true) (cxf : chk_cxf K = true) (cex : chk_cex K = true) (cd1 : chk_cd1 K = true) (cd2 : chk_cd2 K = true) (cd3 : chk_cd3 K = true) (cd4 : chk_cd4 K = true) (cd5 : chk_cd5 K = true) (cd6 : chk_cd6 K = true) (cwd : chk_cwd K = true) (cdg : chk_cdg K = true) (cmdg : chk_cmdg K = true) (cxm : chk_cxm K = true)
    (a_is_whole : FnAt K "is_whole" "is_whole" s_is_whole (adr K "is_whole"))
    (a_is_row : FnAt K "is_row" "is_row" s_is_row (adr K "is_row"))
    (a_is_index : FnAt K "is_index" "is_index" s_is_index (adr K "is_index"))
    (a_tupled : FnAt K "tupled" "tupled" s_tupled (adr K "tupled"))
    (a__is_condition : FnAt K "_is_condition" "_is_condition" s__is_condition (adr K "_is_condition"))
    (a__is_conditions : FnAt K "_is_conditions" "_is_conditions" s__is_conditions (adr K "_is_conditions"))
    (a__is_move : FnAt K "_is_move" "_is_move" s__is_move (adr K "_is_move"))
    (a__is_goal : FnAt K "_is_goal" "_is_goal" s__is_goal (adr K "_is_goal"))
    (a__need_sides : FnAt K "_need_sides" "_need_sides" s__need_sides (adr K "_need_sides"))
    (a__need_moves : FnAt K "_need_moves" "_need_moves" s__need_moves (adr K "_need_moves"))
    (a__need_goals : FnAt K "_need_goals" "_need_goals" s__need_goals (adr K "_need_goals"))
    (a__law_pick : FnAt K "_law_pick" "_law_pick" s__law_pick (adr K "_law_pick"))
    (a__law_some_condition : FnAt K "_law_some_condition" "_law_some_condition" s__law_some_condition (adr K "_law_some_condition"))
    (a__law_some_conditions : FnAt K "_law_some_conditions" "_law_some_conditions" s__law_some_conditions (adr K "_law_some_conditions"))
    (a__law_some_book : FnAt K "_law_some_book" "_law_some_book" s__law_some_book (adr K "_law_some_book"))
    (a__law_taking_book : FnAt K "_law_taking_book" "_law_taking_book" s__law_taking_book (adr K "_law_taking_book"))
    (a__law_drawn_book : FnAt K "_law_drawn_book" "_law_drawn_book" s__law_drawn_book (adr K "_law_drawn_book"))
    (a__law_listed : FnAt K "_law_listed" "_law_listed" s__law_listed (adr K "_law_listed"))
    (a__law_made_move : FnAt K "_law_made_move" "_law_made_move" s__law_made_move (adr K "_law_made_move"))
    (a__law_made_goal : FnAt K "_law_made_goal" "_law_made_goal" s__law_made_goal (adr K "_law_made_goal"))
    (a__law_made_book : FnAt K "_law_made_book" "_law_made_book" s__law_made_book (adr K "_law_made_book"))
    (a_need_whole : FnAt K "need_whole" "need_whole" s_need_whole (adr K "need_whole"))
    (a_need_place : FnAt K "need_place" "need_place" s_need_place (adr K "need_place"))
    (a_need_state : FnAt K "need_state" "need_state" s_need_state (adr K "need_state"))
    (a_condition_holds : FnAt K "condition_holds" "condition_holds" s_condition_holds (adr K "condition_holds"))
    (a_all_hold : FnAt K "all_hold" "all_hold" s_all_hold (adr K "all_hold"))
    (a_open_moves : FnAt K "open_moves" "open_moves" s_open_moves (adr K "open_moves"))
    (a__law_open : FnAt K "_law_open" "_law_open" s__law_open (adr K "_law_open"))
    (a__law_is_goal : FnAt K "_law_is_goal" "_law_is_goal" s__law_is_goal (adr K "_law_is_goal"))
    (a__law_holds : FnAt K "_law_holds" "_law_holds" s__law_holds (adr K "_law_holds"))
    (a__law_far : FnAt K "_law_far" "_law_far" s__law_far (adr K "_law_far"))
    (a_by_place : FnAt K "by_place" "by_place" s_by_place (adr K "by_place"))
    (a_some_holds : FnAt K "some_holds" "some_holds" s_some_holds (adr K "some_holds"))
    (a__states : FnAt K "_states" "_states" s__states (adr K "_states"))
    (a__end : FnAt K "_end" "_end" s__end (adr K "_end"))
    (a__law_number_of : FnAt K "_law_number_of" "_law_number_of" s__law_number_of (adr K "_law_number_of"))
    (a_number_of : FnAt K "number_of" "number_of" s_number_of (adr K "number_of"))
    (a_play_text : FnAt K "play_text" "play_text" s_play_text (adr K "play_text"))
    (a__column : FnAt K "_column" "_column" s__column (adr K "_column"))
    (a_read_play : FnAt K "read_play" "read_play" s_read_play (adr K "read_play"))
    (a__law_ended : FnAt K "_law_ended" "_law_ended" s__law_ended (adr K "_law_ended"))
    (a__law_drawn_moves : FnAt K "_law_drawn_moves" "_law_drawn_moves" s__law_drawn_moves (adr K "_law_drawn_moves"))
    (a__law_due : FnAt K "_law_due" "_law_due" s__law_due (adr K "_law_due"))
    (a__law_got : FnAt K "_law_got" "_law_got" s__law_got (adr K "_law_got"))
    (a__law_changed : FnAt K "_law_changed" "_law_changed" s__law_changed (adr K "_law_changed"))
    (a__law_pen : FnAt K "_law_pen" "_law_pen" s_pen (adr K "_law_pen"))
    (a__law_draw : FnAt K "_law_draw" "_law_draw" s_draw (adr K "_law_draw"))
    (a_law : FnAt K "law" "law" s_law (adr K "law"))
    (i_Move_init : FnAt K "__init__" "Move.__init__" s_Move___init__ (iniA K (adr K "Move") "__init__"))
    (i_Goal_init : FnAt K "__init__" "Goal.__init__" s_Goal___init__ (iniA K (adr K "Goal") "__init__"))
    (i_Book_init : FnAt K "__init__" "Book.__init__" s_Book___init__ (iniA K (adr K "Book") "__init__"))
    (i_Play_init : FnAt K "__init__" "Play.__init__" s_Play___init__ (iniA K (adr K "Play") "__init__"))
    (i_Move_eq : FnAt K "__eq__" "Move.__eq__" s_Move___eq__ (iniA K (adr K "Move") "__eq__"))
    (i_Goal_eq : FnAt K "__eq__" "Goal.__eq__" s_Goal___eq__ (iniA K (adr K "Goal") "__eq__"))
    (i_Book_eq : FnAt K "__eq__" "Book.__eq__" s_Book___eq__ (iniA K (adr K "Book") "__eq__"))
    (i_Play_eq : FnAt K "__eq__" "Play.__eq__" s_Play___eq__ (iniA K (adr K "Play") "__eq__"))
    (i_BadBook_init : FnAt K "__init__" "BadBook.__init__" s_BadBook___init__ (iniA K (adr K "BadBook") "__init__"))
    (i_BadNumber_init : FnAt K "__init__" "BadNumber.__init__" s_BadNumber___init__ (iniA K (adr K "BadNumber") "__init__"))
    (i_BadPlace_init : FnAt K "__init__" "BadPlace.__init__" s_BadPlace___init__ (iniA K (adr K "BadPlace") "__init__"))
    (i_BadRow_init : FnAt K "__init__" "BadRow.__init__" s_BadRow___init__ (iniA K (adr K "BadRow") "__init__"))
    (i_NoMove_init : FnAt K "__init__" "NoMove.__init__" s_NoMove___init__ (iniA K (adr K "NoMove") "__init__"))
    (i_BadText_init : FnAt K "__init__" "BadText.__init__" s_BadText___init__ (iniA K (adr K "BadText") "__init__"))
    (c_BadBook : ClsAt K (adr K "BadBook"))
    (c_BadNumber : ClsAt K (adr K "BadNumber"))
    (c_BadPlace : ClsAt K (adr K "BadPlace"))
    (c_BadRow : ClsAt K (adr K "BadRow"))
    (c_NoMove : ClsAt K (adr K "NoMove"))
    (c_BadText : ClsAt K (adr K "BadText")) : LawAtS l w K CX0 14 63 "_law_script" mg fa h := by
  unfold chk_cns at cns; unfold chk_cfn at cfn; unfold chk_cki at cki; unfold chk_cmt at cmt; unfold chk_cna at cna; unfold chk_cmk at cmk; unfold chk_cne at cne; unfold chk_cnf at cnf; unfold chk_cno at cno; unfold chk_cox at cox; unfold chk_cxf at cxf; unfold chk_cex at cex; unfold chk_cd1 at cd1; unfold chk_cd2 at cd2; unfold chk_cd3 at cd3; unfold chk_cd4 at cd4; unfold chk_cd5 at cd5; unfold chk_cd6 at cd6; unfold chk_cwd at cwd; unfold chk_cdg at cdg; unfold chk_cmdg at cmdg; unfold chk_cxm at cxm
  obtain ⟨bound, free⟩ := nsK cns X G
  have fb : ∀ x ∈ defsK, _ := fun x hx => fnB_at cfn hx
  have ki := kindsK cki
  have mkc : ∀ x ∈ clsK, PySem.W.makesIn K (adr K x) = true ∧ PySem.W.keepIn K (.ref (adr K x)) = true := fun x hx => by
    have := of_all cmk x hx
    rwa [Bool.and_eq_true] at this
  have F_is_whole := funK a_is_whole (fb "is_whole" (by decide +kernel)).1 (fb "is_whole" (by decide +kernel)).2
  have g_is_whole := bound "is_whole" (by decide +kernel)
  have B_is_whole : Binds K _ ["value"] [] := F_is_whole.binds (ps := ["value"]) fun _ _ _ _ _ _ us hl => match us, hl with | [_], _ => rfl
  have F_is_row := funK a_is_row (fb "is_row" (by decide +kernel)).1 (fb "is_row" (by decide +kernel)).2
  have g_is_row := bound "is_row" (by decide +kernel)
  have B_is_row : Binds K _ ["value"] [] := F_is_row.binds (ps := ["value"]) fun _ _ _ _ _ _ us hl => match us, hl with | [_], _ => rfl
  have F_is_index := funK a_is_index (fb "is_index" (by decide +kernel)).1 (fb "is_index" (by decide +kernel)).2
  have g_is_index := bound "is_index" (by decide +kernel)
  have B_is_index : Binds K _ ["value", "many"] [] := F_is_index.binds (ps := ["value", "many"]) fun _ _ _ _ _ _ us hl => match us, hl with | [_, _], _ => rfl
  have F_tupled := funK a_tupled (fb "tupled" (by decide +kernel)).1 (fb "tupled" (by decide +kernel)).2
  have g_tupled := bound "tupled" (by decide +kernel)
  have B_tupled : Binds K _ ["value"] [] := F_tupled.binds (ps := ["value"]) fun _ _ _ _ _ _ us hl => match us, hl with | [_], _ => rfl
  have F__is_condition := funK a__is_condition (fb "_is_condition" (by decide +kernel)).1 (fb "_is_condition" (by decide +kernel)).2
  have g__is_condition := bound "_is_condition" (by decide +kernel)
  have B__is_condition : Binds K _ ["value"] [] := F__is_condition.binds (ps := ["value"]) fun _ _ _ _ _ _ us hl => match us, hl with | [_], _ => rfl
  have F__is_conditions := funK a__is_conditions (fb "_is_conditions" (by decide +kernel)).1 (fb "_is_conditions" (by decide +kernel)).2
  have g__is_conditions := bound "_is_conditions" (by decide +kernel)
  have B__is_conditions : Binds K _ ["value"] [] := F__is_conditions.binds (ps := ["value"]) fun _ _ _ _ _ _ us hl => match us, hl with | [_], _ => rfl
  have F__is_move := funK a__is_move (fb "_is_move" (by decide +kernel)).1 (fb "_is_move" (by decide +kernel)).2
  have g__is_move := bound "_is_move" (by decide +kernel)
  have B__is_move : Binds K _ ["value", "places"] [] := F__is_move.binds (ps := ["value", "places"]) fun _ _ _ _ _ _ us hl => match us, hl with | [_, _], _ => rfl
  have F__is_goal := funK a__is_goal (fb "_is_goal" (by decide +kernel)).1 (fb "_is_goal" (by decide +kernel)).2
  have g__is_goal := bound "_is_goal" (by decide +kernel)
  have B__is_goal : Binds K _ ["value", "places"] [] := F__is_goal.binds (ps := ["value", "places"]) fun _ _ _ _ _ _ us hl => match us, hl with | [_, _], _ => rfl
  have F__need_sides := funK a__need_sides (fb "_need_sides" (by decide +kernel)).1 (fb "_need_sides" (by decide +kernel)).2
  have g__need_sides := bound "_need_sides" (by decide +kernel)
  have B__need_sides : Binds K _ ["sides"] [] := F__need_sides.binds (ps := ["sides"]) fun _ _ _ _ _ _ us hl => match us, hl with | [_], _ => rfl
  have F__need_moves := funK a__need_moves (fb "_need_moves" (by decide +kernel)).1 (fb "_need_moves" (by decide +kernel)).2
  have g__need_moves := bound "_need_moves" (by decide +kernel)
  have B__need_moves : Binds K _ ["moves", "places"] [] := F__need_moves.binds (ps := ["moves", "places"]) fun _ _ _ _ _ _ us hl => match us, hl with | [_, _], _ => rfl
  have F__need_goals := funK a__need_goals (fb "_need_goals" (by decide +kernel)).1 (fb "_need_goals" (by decide +kernel)).2
  have g__need_goals := bound "_need_goals" (by decide +kernel)
  have B__need_goals : Binds K _ ["goals", "places"] [] := F__need_goals.binds (ps := ["goals", "places"]) fun _ _ _ _ _ _ us hl => match us, hl with | [_, _], _ => rfl
  have F__law_pick := funK a__law_pick (fb "_law_pick" (by decide +kernel)).1 (fb "_law_pick" (by decide +kernel)).2
  have g__law_pick := bound "_law_pick" (by decide +kernel)
  have B__law_pick : Binds K _ ["_law_pen_here", "_law_some"] [] := F__law_pick.binds (ps := ["_law_pen_here", "_law_some"]) fun _ _ _ _ _ _ us hl => match us, hl with | [_, _], _ => rfl
  have F__law_some_condition := funK a__law_some_condition (fb "_law_some_condition" (by decide +kernel)).1 (fb "_law_some_condition" (by decide +kernel)).2
  have g__law_some_condition := bound "_law_some_condition" (by decide +kernel)
  have B__law_some_condition : Binds K _ ["_law_pen_here", "_law_wide", "_law_modulus"] [] := F__law_some_condition.binds (ps := ["_law_pen_here", "_law_wide", "_law_modulus"]) fun _ _ _ _ _ _ us hl => match us, hl with | [_, _, _], _ => rfl
  have F__law_some_conditions := funK a__law_some_conditions (fb "_law_some_conditions" (by decide +kernel)).1 (fb "_law_some_conditions" (by decide +kernel)).2
  have g__law_some_conditions := bound "_law_some_conditions" (by decide +kernel)
  have B__law_some_conditions : Binds K _ ["_law_pen_here", "_law_wide", "_law_modulus"] [] := F__law_some_conditions.binds (ps := ["_law_pen_here", "_law_wide", "_law_modulus"]) fun _ _ _ _ _ _ us hl => match us, hl with | [_, _, _], _ => rfl
  have F__law_some_book := funK a__law_some_book (fb "_law_some_book" (by decide +kernel)).1 (fb "_law_some_book" (by decide +kernel)).2
  have g__law_some_book := bound "_law_some_book" (by decide +kernel)
  have B__law_some_book : Binds K _ ["_law_pen_here"] [] := F__law_some_book.binds (ps := ["_law_pen_here"]) fun _ _ _ _ _ _ us hl => match us, hl with | [_], _ => rfl
  have F__law_taking_book := funK a__law_taking_book (fb "_law_taking_book" (by decide +kernel)).1 (fb "_law_taking_book" (by decide +kernel)).2
  have g__law_taking_book := bound "_law_taking_book" (by decide +kernel)
  have B__law_taking_book : Binds K _ ["_law_pen_here"] [] := F__law_taking_book.binds (ps := ["_law_pen_here"]) fun _ _ _ _ _ _ us hl => match us, hl with | [_], _ => rfl
  have F__law_drawn_book := funK a__law_drawn_book (fb "_law_drawn_book" (by decide +kernel)).1 (fb "_law_drawn_book" (by decide +kernel)).2
  have g__law_drawn_book := bound "_law_drawn_book" (by decide +kernel)
  have B__law_drawn_book : Binds K _ ["_law_pen_here"] [] := F__law_drawn_book.binds (ps := ["_law_pen_here"]) fun _ _ _ _ _ _ us hl => match us, hl with | [_], _ => rfl
  have F__law_listed := funK a__law_listed (fb "_law_listed" (by decide +kernel)).1 (fb "_law_listed" (by decide +kernel)).2
  have g__law_listed := bound "_law_listed" (by decide +kernel)
  have B__law_listed : Binds K _ ["_law_pen_here", "_law_row"] [] := F__law_listed.binds (ps := ["_law_pen_here", "_law_row"]) fun _ _ _ _ _ _ us hl => match us, hl with | [_, _], _ => rfl
  have F__law_made_move := funK a__law_made_move (fb "_law_made_move" (by decide +kernel)).1 (fb "_law_made_move" (by decide +kernel)).2
  have g__law_made_move := bound "_law_made_move" (by decide +kernel)
  have B__law_made_move : Binds K _ ["_law_pen_here", "_law_move"] [] := F__law_made_move.binds (ps := ["_law_pen_here", "_law_move"]) fun _ _ _ _ _ _ us hl => match us, hl with | [_, _], _ => rfl
  have F__law_made_goal := funK a__law_made_goal (fb "_law_made_goal" (by decide +kernel)).1 (fb "_law_made_goal" (by decide +kernel)).2
  have g__law_made_goal := bound "_law_made_goal" (by decide +kernel)
  have B__law_made_goal : Binds K _ ["_law_pen_here", "_law_goal"] [] := F__law_made_goal.binds (ps := ["_law_pen_here", "_law_goal"]) fun _ _ _ _ _ _ us hl => match us, hl with | [_, _], _ => rfl
  have F__law_made_book := funK a__law_made_book (fb "_law_made_book" (by decide +kernel)).1 (fb "_law_made_book" (by decide +kernel)).2
  have g__law_made_book := bound "_law_made_book" (by decide +kernel)
  have B__law_made_book : Binds K _ ["_law_pen_here", "_law_book"] [] := F__law_made_book.binds (ps := ["_law_pen_here", "_law_book"]) fun _ _ _ _ _ _ us hl => match us, hl with | [_, _], _ => rfl
  have F_need_whole := funK a_need_whole (fb "need_whole" (by decide +kernel)).1 (fb "need_whole" (by decide +kernel)).2
  have g_need_whole := bound "need_whole" (by decide +kernel)
  have B_need_whole : Binds K _ ["what", "value"] [] := F_need_whole.binds (ps := ["what", "value"]) fun _ _ _ _ _ _ us hl => match us, hl with | [_, _], _ => rfl
  have F_need_place := funK a_need_place (fb "need_place" (by decide +kernel)).1 (fb "need_place" (by decide +kernel)).2
  have g_need_place := bound "need_place" (by decide +kernel)
  have B_need_place : Binds K _ ["book", "place"] [] := F_need_place.binds (ps := ["book", "place"]) fun _ _ _ _ _ _ us hl => match us, hl with | [_, _], _ => rfl
  have F_need_state := funK a_need_state (fb "need_state" (by decide +kernel)).1 (fb "need_state" (by decide +kernel)).2
  have g_need_state := bound "need_state" (by decide +kernel)
  have B_need_state : Binds K _ ["book", "place", "n"] [] := F_need_state.binds (ps := ["book", "place", "n"]) fun _ _ _ _ _ _ us hl => match us, hl with | [_, _, _], _ => rfl
  have F_condition_holds := funK a_condition_holds (fb "condition_holds" (by decide +kernel)).1 (fb "condition_holds" (by decide +kernel)).2
  have g_condition_holds := bound "condition_holds" (by decide +kernel)
  have B_condition_holds : Binds K _ ["condition", "n"] [] := F_condition_holds.binds (ps := ["condition", "n"]) fun _ _ _ _ _ _ us hl => match us, hl with | [_, _], _ => rfl
  have F_all_hold := funK a_all_hold (fb "all_hold" (by decide +kernel)).1 (fb "all_hold" (by decide +kernel)).2
  have g_all_hold := bound "all_hold" (by decide +kernel)
  have B_all_hold : Binds K _ ["conditions", "n"] [] := F_all_hold.binds (ps := ["conditions", "n"]) fun _ _ _ _ _ _ us hl => match us, hl with | [_, _], _ => rfl
  have F_open_moves := funK a_open_moves (fb "open_moves" (by decide +kernel)).1 (fb "open_moves" (by decide +kernel)).2
  have g_open_moves := bound "open_moves" (by decide +kernel)
  have B_open_moves : Binds K _ ["book", "place", "n"] [] := F_open_moves.binds (ps := ["book", "place", "n"]) fun _ _ _ _ _ _ us hl => match us, hl with | [_, _, _], _ => rfl
  have F__law_open := funK a__law_open (fb "_law_open" (by decide +kernel)).1 (fb "_law_open" (by decide +kernel)).2
  have g__law_open := bound "_law_open" (by decide +kernel)
  have B__law_open : Binds K _ ["_law_book", "_law_place", "_law_n"] [] := F__law_open.binds (ps := ["_law_book", "_law_place", "_law_n"]) fun _ _ _ _ _ _ us hl => match us, hl with | [_, _, _], _ => rfl
  have F__law_is_goal := funK a__law_is_goal (fb "_law_is_goal" (by decide +kernel)).1 (fb "_law_is_goal" (by decide +kernel)).2
  have g__law_is_goal := bound "_law_is_goal" (by decide +kernel)
  have B__law_is_goal : Binds K _ ["_law_book", "_law_place", "_law_n"] [] := F__law_is_goal.binds (ps := ["_law_book", "_law_place", "_law_n"]) fun _ _ _ _ _ _ us hl => match us, hl with | [_, _, _], _ => rfl
  have F__law_holds := funK a__law_holds (fb "_law_holds" (by decide +kernel)).1 (fb "_law_holds" (by decide +kernel)).2
  have g__law_holds := bound "_law_holds" (by decide +kernel)
  have B__law_holds : Binds K _ ["_law_conditions", "_law_n"] [] := F__law_holds.binds (ps := ["_law_conditions", "_law_n"]) fun _ _ _ _ _ _ us hl => match us, hl with | [_, _], _ => rfl
  have F__law_far := funK a__law_far (fb "_law_far" (by decide +kernel)).1 (fb "_law_far" (by decide +kernel)).2
  have g__law_far := bound "_law_far" (by decide +kernel)
  have B__law_far : Binds K _ ["_law_pen_here"] [] := F__law_far.binds (ps := ["_law_pen_here"]) fun _ _ _ _ _ _ us hl => match us, hl with | [_], _ => rfl
  have F_by_place := funK a_by_place (fb "by_place" (by decide +kernel)).1 (fb "by_place" (by decide +kernel)).2
  have g_by_place := bound "by_place" (by decide +kernel)
  have B_by_place : Binds K _ ["rules", "places"] [] := F_by_place.binds (ps := ["rules", "places"]) fun _ _ _ _ _ _ us hl => match us, hl with | [_, _], _ => rfl
  have F_some_holds := funK a_some_holds (fb "some_holds" (by decide +kernel)).1 (fb "some_holds" (by decide +kernel)).2
  have g_some_holds := bound "some_holds" (by decide +kernel)
  have B_some_holds : Binds K _ ["goals", "n"] [] := F_some_holds.binds (ps := ["goals", "n"]) fun _ _ _ _ _ _ us hl => match us, hl with | [_, _], _ => rfl
  have F__states := funK a__states (fb "_states" (by decide +kernel)).1 (fb "_states" (by decide +kernel)).2
  have g__states := bound "_states" (by decide +kernel)
  have B__states : Binds K _ ["book", "place", "n", "moves"] [] := F__states.binds (ps := ["book", "place", "n", "moves"]) fun _ _ _ _ _ _ us hl => match us, hl with | [_, _, _, _], _ => rfl
  have F__end := funK a__end (fb "_end" (by decide +kernel)).1 (fb "_end" (by decide +kernel)).2
  have g__end := bound "_end" (by decide +kernel)
  have B__end : Binds K _ ["book", "state"] [] := F__end.binds (ps := ["book", "state"]) fun _ _ _ _ _ _ us hl => match us, hl with | [_, _], _ => rfl
  have F__law_number_of := funK a__law_number_of (fb "_law_number_of" (by decide +kernel)).1 (fb "_law_number_of" (by decide +kernel)).2
  have g__law_number_of := bound "_law_number_of" (by decide +kernel)
  have B__law_number_of : Binds K _ ["_law_word"] [] := F__law_number_of.binds (ps := ["_law_word"]) fun _ _ _ _ _ _ us hl => match us, hl with | [_], _ => rfl
  have F_number_of := funK a_number_of (fb "number_of" (by decide +kernel)).1 (fb "number_of" (by decide +kernel)).2
  have g_number_of := bound "number_of" (by decide +kernel)
  have B_number_of : Binds K _ ["word"] [] := F_number_of.binds (ps := ["word"]) fun _ _ _ _ _ _ us hl => match us, hl with | [_], _ => rfl
  have F_play_text := funK a_play_text (fb "play_text" (by decide +kernel)).1 (fb "play_text" (by decide +kernel)).2
  have g_play_text := bound "play_text" (by decide +kernel)
  have B_play_text : Binds K _ ["play"] [] := F_play_text.binds (ps := ["play"]) fun _ _ _ _ _ _ us hl => match us, hl with | [_], _ => rfl
  have F__column := funK a__column (fb "_column" (by decide +kernel)).1 (fb "_column" (by decide +kernel)).2
  have g__column := bound "_column" (by decide +kernel)
  have B__column : Binds K _ ["words", "number"] [] := F__column.binds (ps := ["words", "number"]) fun _ _ _ _ _ _ us hl => match us, hl with | [_, _], _ => rfl
  have F_read_play := funK a_read_play (fb "read_play" (by decide +kernel)).1 (fb "read_play" (by decide +kernel)).2
  have g_read_play := bound "read_play" (by decide +kernel)
  have B_read_play : Binds K _ ["book", "text"] [] := F_read_play.binds (ps := ["book", "text"]) fun _ _ _ _ _ _ us hl => match us, hl with | [_, _], _ => rfl
  have F__law_ended := funK a__law_ended (fb "_law_ended" (by decide +kernel)).1 (fb "_law_ended" (by decide +kernel)).2
  have g__law_ended := bound "_law_ended" (by decide +kernel)
  have B__law_ended : Binds K _ ["_law_book", "_law_place", "_law_n"] [] := F__law_ended.binds (ps := ["_law_book", "_law_place", "_law_n"]) fun _ _ _ _ _ _ us hl => match us, hl with | [_, _, _], _ => rfl
  have F__law_drawn_moves := funK a__law_drawn_moves (fb "_law_drawn_moves" (by decide +kernel)).1 (fb "_law_drawn_moves" (by decide +kernel)).2
  have g__law_drawn_moves := bound "_law_drawn_moves" (by decide +kernel)
  have B__law_drawn_moves : Binds K _ ["_law_pen_here", "_law_book", "_law_state"] [] := F__law_drawn_moves.binds (ps := ["_law_pen_here", "_law_book", "_law_state"]) fun _ _ _ _ _ _ us hl => match us, hl with | [_, _, _], _ => rfl
  have F__law_due := funK a__law_due (fb "_law_due" (by decide +kernel)).1 (fb "_law_due" (by decide +kernel)).2
  have g__law_due := bound "_law_due" (by decide +kernel)
  have B__law_due : Binds K _ ["_law_book", "_law_text"] [] := F__law_due.binds (ps := ["_law_book", "_law_text"]) fun _ _ _ _ _ _ us hl => match us, hl with | [_, _], _ => rfl
  have F__law_got := funK a__law_got (fb "_law_got" (by decide +kernel)).1 (fb "_law_got" (by decide +kernel)).2
  have g__law_got := bound "_law_got" (by decide +kernel)
  have B__law_got : Binds K _ ["_law_made", "_law_text"] [] := F__law_got.binds (ps := ["_law_made", "_law_text"]) fun _ _ _ _ _ _ us hl => match us, hl with | [_, _], _ => rfl
  have F__law_changed := funK a__law_changed (fb "_law_changed" (by decide +kernel)).1 (fb "_law_changed" (by decide +kernel)).2
  have g__law_changed := bound "_law_changed" (by decide +kernel)
  have B__law_changed : Binds K _ ["_law_pen_here", "_law_text"] [] := F__law_changed.binds (ps := ["_law_pen_here", "_law_text"]) fun _ _ _ _ _ _ us hl => match us, hl with | [_, _], _ => rfl
  have F__law_pen := funK a__law_pen (fb "_law_pen" (by decide +kernel)).1 (fb "_law_pen" (by decide +kernel)).2
  have g__law_pen := bound "_law_pen" (by decide +kernel)
  have B__law_pen : Binds K _ ["_law_script"] [] := F__law_pen.binds (ps := ["_law_script"]) fun _ _ _ _ _ _ us hl => match us, hl with | [_], _ => rfl
  have F__law_draw := funK a__law_draw (fb "_law_draw" (by decide +kernel)).1 (fb "_law_draw" (by decide +kernel)).2
  have g__law_draw := bound "_law_draw" (by decide +kernel)
  have B__law_draw : Binds K _ ["_law_pen_here", "_law_many"] [] := F__law_draw.binds (ps := ["_law_pen_here", "_law_many"]) fun _ _ _ _ _ _ us hl => match us, hl with | [_, _], _ => rfl
  have F_law := funK a_law (fb "law" (by decide +kernel)).1 (fb "law" (by decide +kernel)).2
  have g_law := bound "law" (by decide +kernel)
  have B_law : Binds K _ ["_law_script"] [] := F_law.binds (ps := ["_law_script"]) fun _ _ _ _ _ _ us hl => match us, hl with | [_], _ => rfl
  have m_Move_init := mtK (of_all cmt ("Move", "__init__") (by decide +kernel))
  have F_Move_init := funK i_Move_init m_Move_init.2.2.1 m_Move_init.2.2.2
  have B_Move_init : Binds K _ ["self", "place", "conditions", "shift", "target"] [] := F_Move_init.binds (ps := ["self", "place", "conditions", "shift", "target"]) fun _ _ _ _ _ _ us hl => match us, hl with | [_, _, _, _, _], _ => rfl
  have m_Goal_init := mtK (of_all cmt ("Goal", "__init__") (by decide +kernel))
  have F_Goal_init := funK i_Goal_init m_Goal_init.2.2.1 m_Goal_init.2.2.2
  have B_Goal_init : Binds K _ ["self", "place", "conditions"] [] := F_Goal_init.binds (ps := ["self", "place", "conditions"]) fun _ _ _ _ _ _ us hl => match us, hl with | [_, _, _], _ => rfl
  have m_Book_init := mtK (of_all cmt ("Book", "__init__") (by decide +kernel))
  have F_Book_init := funK i_Book_init m_Book_init.2.2.1 m_Book_init.2.2.2
  have B_Book_init : Binds K _ ["self", "sides", "moves", "goals"] [] := F_Book_init.binds (ps := ["self", "sides", "moves", "goals"]) fun _ _ _ _ _ _ us hl => match us, hl with | [_, _, _, _], _ => rfl
  have m_Play_init := mtK (of_all cmt ("Play", "__init__") (by decide +kernel))
  have F_Play_init := funK i_Play_init m_Play_init.2.2.1 m_Play_init.2.2.2
  have B_Play_init : Binds K _ ["self", "book", "place", "n", "moves"] [] := F_Play_init.binds (ps := ["self", "book", "place", "n", "moves"]) fun _ _ _ _ _ _ us hl => match us, hl with | [_, _, _, _, _], _ => rfl
  have m_Move_eq := mtK (of_all cmt ("Move", "__eq__") (by decide +kernel))
  have F_Move_eq := funK i_Move_eq m_Move_eq.2.2.1 m_Move_eq.2.2.2
  have B_Move_eq : Binds K _ ["self", "other"] [] := F_Move_eq.binds (ps := ["self", "other"]) fun _ _ _ _ _ _ us hl => match us, hl with | [_, _], _ => rfl
  have m_Goal_eq := mtK (of_all cmt ("Goal", "__eq__") (by decide +kernel))
  have F_Goal_eq := funK i_Goal_eq m_Goal_eq.2.2.1 m_Goal_eq.2.2.2
  have B_Goal_eq : Binds K _ ["self", "other"] [] := F_Goal_eq.binds (ps := ["self", "other"]) fun _ _ _ _ _ _ us hl => match us, hl with | [_, _], _ => rfl
  have m_Book_eq := mtK (of_all cmt ("Book", "__eq__") (by decide +kernel))
  have F_Book_eq := funK i_Book_eq m_Book_eq.2.2.1 m_Book_eq.2.2.2
  have B_Book_eq : Binds K _ ["self", "other"] [] := F_Book_eq.binds (ps := ["self", "other"]) fun _ _ _ _ _ _ us hl => match us, hl with | [_, _], _ => rfl
  have m_Play_eq := mtK (of_all cmt ("Play", "__eq__") (by decide +kernel))
  have F_Play_eq := funK i_Play_eq m_Play_eq.2.2.1 m_Play_eq.2.2.2
  have B_Play_eq : Binds K _ ["self", "other"] [] := F_Play_eq.binds (ps := ["self", "other"]) fun _ _ _ _ _ _ us hl => match us, hl with | [_, _], _ => rfl
  have m_BadBook_init := mtK (of_all cmt ("BadBook", "__init__") (by decide +kernel))
  have F_BadBook_init := funK i_BadBook_init m_BadBook_init.2.2.1 m_BadBook_init.2.2.2
  have B_BadBook_init : Binds K _ ["self", "what", "index"] [] := F_BadBook_init.binds (ps := ["self", "what", "index"]) fun _ _ _ _ _ _ us hl => match us, hl with | [_, _, _], _ => rfl
  have m_BadNumber_init := mtK (of_all cmt ("BadNumber", "__init__") (by decide +kernel))
  have F_BadNumber_init := funK i_BadNumber_init m_BadNumber_init.2.2.1 m_BadNumber_init.2.2.2
  have B_BadNumber_init : Binds K _ ["self", "what", "value"] [] := F_BadNumber_init.binds (ps := ["self", "what", "value"]) fun _ _ _ _ _ _ us hl => match us, hl with | [_, _, _], _ => rfl
  have m_BadPlace_init := mtK (of_all cmt ("BadPlace", "__init__") (by decide +kernel))
  have F_BadPlace_init := funK i_BadPlace_init m_BadPlace_init.2.2.1 m_BadPlace_init.2.2.2
  have B_BadPlace_init : Binds K _ ["self", "value"] [] := F_BadPlace_init.binds (ps := ["self", "value"]) fun _ _ _ _ _ _ us hl => match us, hl with | [_, _], _ => rfl
  have m_BadRow_init := mtK (of_all cmt ("BadRow", "__init__") (by decide +kernel))
  have F_BadRow_init := funK i_BadRow_init m_BadRow_init.2.2.1 m_BadRow_init.2.2.2
  have B_BadRow_init : Binds K _ ["self", "value"] [] := F_BadRow_init.binds (ps := ["self", "value"]) fun _ _ _ _ _ _ us hl => match us, hl with | [_, _], _ => rfl
  have m_NoMove_init := mtK (of_all cmt ("NoMove", "__init__") (by decide +kernel))
  have F_NoMove_init := funK i_NoMove_init m_NoMove_init.2.2.1 m_NoMove_init.2.2.2
  have B_NoMove_init : Binds K _ ["self", "value"] [] := F_NoMove_init.binds (ps := ["self", "value"]) fun _ _ _ _ _ _ us hl => match us, hl with | [_, _], _ => rfl
  have m_BadText_init := mtK (of_all cmt ("BadText", "__init__") (by decide +kernel))
  have F_BadText_init := funK i_BadText_init m_BadText_init.2.2.1 m_BadText_init.2.2.2
  have B_BadText_init : Binds K _ ["self", "line", "column"] [] := F_BadText_init.binds (ps := ["self", "line", "column"]) fun _ _ _ _ _ _ us hl => match us, hl with | [_, _, _], _ => rfl
  have TBs : TB K mg (adr K) := { b_isinstance := free "isinstance" (by decide +kernel), b_int := free "int" (by decide +kernel), b_bool := free "bool" (by decide +kernel), b_str := free "str" (by decide +kernel), b_list := free "list" (by decide +kernel), b_tuple := free "tuple" (by decide +kernel), b_len := free "len" (by decide +kernel), b_all := free "all" (by decide +kernel), b_any := free "any" (by decide +kernel), b_enumerate := free "enumerate" (by decide +kernel), b_range := free "range" (by decide +kernel), b_max := free "max" (by decide +kernel), b_min := free "min" (by decide +kernel), b_abs := free "abs" (by decide +kernel), b_sum := free "sum" (by decide +kernel), mg_Move := bound "Move" (by decide +kernel), mg_Goal := bound "Goal" (by decide +kernel), mg_Book := bound "Book" (by decide +kernel), mg_Play := bound "Play" (by decide +kernel), mg_WORDS := bound "WORDS" (by decide +kernel), ki := ki, ne := ⟨of_decide_eq_true cd1, of_decide_eq_true cd2, of_decide_eq_true cd3⟩, np := ⟨of_decide_eq_true cd4, of_decide_eq_true cd5, of_decide_eq_true cd6⟩, cl := fun x hx => (ki.ins _ (by
      simp only [List.mem_cons, List.not_mem_nil, or_false] at hx
      rcases hx with rfl | rfl | rfl | rfl <;> simp)).cl, na := fun r hr => show PySem.W.findIn K (.ref (adr K r.1)) r.2 = some none from of_decide_eq_true (of_all cna r hr), words := cwd }
  have isf : ∀ {a : Addr}, PySem.W.typeIn K (.ref a) = some (.type "function") → PySem.W.isFn K (.ref a) = true := fun z => by
    unfold PySem.W.isFn
    rw [z]
    rfl
  have memC : ∀ {C : Addr}, 0 < levB (adr K) C → ∃ x : Str, C = adr K x ∧ x ∈ clsK := fun hC => by
    have hC := lev_pos3 hC
    simp only [List.mem_append, List.mem_cons, List.not_mem_nil, or_false] at hC
    rcases hC with (rfl | rfl | rfl) | rfl
    · exact ⟨"Move", rfl, by decide +kernel⟩
    · exact ⟨"Goal", rfl, by decide +kernel⟩
    · exact ⟨"Book", rfl, by decide +kernel⟩
    · exact ⟨"Play", rfl, by decide +kernel⟩
  have N0 : NeE K (levB (adr K)) := fun C hC => by
    obtain ⟨x, rfl, hx⟩ := memC hC
    exact of_decide_eq_true (of_all cne x hx)
  have nft : ∀ {x : Str}, x ∈ clsK → (∀ t ∈ tyNs, PySem.W.notFirst K (adr K x) (.type t) = true) ∧ ∀ C', 0 < levB (adr K) C' → PySem.W.notFirst K (adr K x) (.ref C') = true := fun {x} hx => by
    refine ⟨fun t ht => of_all (of_all cnf x hx) t ht, fun C' hC' => ?_⟩
    obtain ⟨y, rfl, hy⟩ := memC hC'
    exact of_all (of_all cno x hx) y hy
  have e := hfa.symm.trans g_law
  cases e
  refine ⟨fdK K "law" "law" s_law (adr K "law"), [], spLaw K (tabsK K), fun r hr => (by cases hr), fun r hr => (by cases hr), fun r hr => (by cases hr), fun s u => .of_eq rfl, fun H a ns hlen _ hH hS => ⟨a, ns, rfl, hS, hlen, fun r hr => (by cases hr), fun _ => rfl⟩, fun base _ _ hTB => ?_⟩
  have Elow : ∀ n, n ≤ 5 → EqE l.prog w K (tabsK K) mg base (levB (adr K)) n := fun n hn => ⟨fun C h1 h2 => absurd (Nat.le_trans (lev_ge h1) (Nat.le_trans h2 hn)) (by decide), fun C h1 => ki.ins C (lev_pos h1)⟩
  have E0 := Elow 0 (by decide)
  have E5 := Elow 5 (by decide)
  have eqMove : EqC l.prog w K (tabsK K) mg base (levB (adr K)) (adr K "Move") := ⟨ki.ins _ (by simp), ⟨_, _, _, m_Move_eq.1, isf m_Move_eq.2.1, by rw [lev_M]; exact (ok_Move___eq__ F_Move_eq TBs E5).ok, B_Move_eq⟩, (nft (by decide +kernel)).1, (nft (by decide +kernel)).2⟩
  have eqGoal : EqC l.prog w K (tabsK K) mg base (levB (adr K)) (adr K "Goal") := ⟨ki.ins _ (by simp), ⟨_, _, _, m_Goal_eq.1, isf m_Goal_eq.2.1, by rw [lev_G]; exact (ok_Goal___eq__ F_Goal_eq TBs E5).ok, B_Goal_eq⟩, (nft (by decide +kernel)).1, (nft (by decide +kernel)).2⟩
  have E7 : EqE l.prog w K (tabsK K) mg base (levB (adr K)) 7 := ⟨fun C h1 h2 => by
    have := lev_pos3 h1
    simp only [List.mem_append, List.mem_cons, List.not_mem_nil, or_false] at this
    rcases this with (rfl | rfl | rfl) | rfl
    · exact eqMove
    · exact eqGoal
    · rw [lev_B TBs] at h2
      exact absurd h2 (by decide)
    · rw [lev_P TBs] at h2
      exact absurd h2 (by decide), fun C h1 => ki.ins C (lev_pos h1)⟩
  have eqBook : EqC l.prog w K (tabsK K) mg base (levB (adr K)) (adr K "Book") := ⟨ki.ins _ (by simp), ⟨_, _, _, m_Book_eq.1, isf m_Book_eq.2.1, by rw [lev_B TBs]; exact (ok_Book___eq__ F_Book_eq TBs E7).ok, B_Book_eq⟩, (nft (by decide +kernel)).1, (nft (by decide +kernel)).2⟩
  have E8 : EqE l.prog w K (tabsK K) mg base (levB (adr K)) 8 := ⟨fun C h1 h2 => by
    have := lev_pos3 h1
    simp only [List.mem_append, List.mem_cons, List.not_mem_nil, or_false] at this
    rcases this with (rfl | rfl | rfl) | rfl
    · exact eqMove
    · exact eqGoal
    · exact eqBook
    · rw [lev_P TBs] at h2
      exact absurd h2 (by decide), fun C h1 => ki.ins C (lev_pos h1)⟩
  have E9 : EqE l.prog w K (tabsK K) mg base (levB (adr K)) 9 := ⟨fun C h1 h2 => by
    have := lev_pos3 h1
    simp only [List.mem_append, List.mem_cons, List.not_mem_nil, or_false] at this
    rcases this with (rfl | rfl | rfl) | rfl
    · exact eqMove
    · exact eqGoal
    · exact eqBook
    · rw [lev_P TBs] at h2
      exact absurd h2 (by decide), fun C h1 => ki.ins C (lev_pos h1)⟩
  have eqPlay : EqC l.prog w K (tabsK K) mg base (levB (adr K)) (adr K "Play") := ⟨ki.ins _ (by simp), ⟨_, _, _, m_Play_eq.1, isf m_Play_eq.2.1, by rw [lev_P TBs]; exact (ok_Play___eq__ F_Play_eq TBs E9).ok, B_Play_eq⟩, (nft (by decide +kernel)).1, (nft (by decide +kernel)).2⟩
  have E10 : EqE l.prog w K (tabsK K) mg base (levB (adr K)) 10 := ⟨fun C h1 h2 => by
    have := lev_pos3 h1
    simp only [List.mem_append, List.mem_cons, List.not_mem_nil, or_false] at this
    rcases this with (rfl | rfl | rfl) | rfl
    · exact eqMove
    · exact eqGoal
    · exact eqBook
    · exact eqPlay, fun C h1 => ki.ins C (lev_pos h1)⟩
  have TP : TPen mg := ⟨free "int" (by decide +kernel), free "len" (by decide +kernel), free "list" (by decide +kernel)⟩
  have mk_BadBook : MkX l.prog w K mg base "BadBook" (adr K "BadBook") ["what", "index"] := ⟨oexK c_BadBook (of_all cox "BadBook" (by decide +kernel)), ⟨_, _, _, m_BadBook_init.1, m_BadBook_init.2.1, ini_BadBook F_BadBook_init (oexK c_BadBook (of_all cox "BadBook" (by decide +kernel))) (of_decide_eq_true (of_all cex ("BadBook", "what") (by decide +kernel))) (of_decide_eq_true (of_all cex ("BadBook", "index") (by decide +kernel))), B_BadBook_init⟩, bound "BadBook" (by decide +kernel), by decide⟩
  have mk_BadNumber : MkX l.prog w K mg base "BadNumber" (adr K "BadNumber") ["what", "value"] := ⟨oexK c_BadNumber (of_all cox "BadNumber" (by decide +kernel)), ⟨_, _, _, m_BadNumber_init.1, m_BadNumber_init.2.1, ini_BadNumber F_BadNumber_init (oexK c_BadNumber (of_all cox "BadNumber" (by decide +kernel))) (of_decide_eq_true (of_all cex ("BadNumber", "what") (by decide +kernel))) (of_decide_eq_true (of_all cex ("BadNumber", "value") (by decide +kernel))), B_BadNumber_init⟩, bound "BadNumber" (by decide +kernel), by decide⟩
  have mk_BadPlace : MkX l.prog w K mg base "BadPlace" (adr K "BadPlace") ["value"] := ⟨oexK c_BadPlace (of_all cox "BadPlace" (by decide +kernel)), ⟨_, _, _, m_BadPlace_init.1, m_BadPlace_init.2.1, ini_BadPlace F_BadPlace_init (oexK c_BadPlace (of_all cox "BadPlace" (by decide +kernel))) (of_decide_eq_true (of_all cex ("BadPlace", "value") (by decide +kernel))), B_BadPlace_init⟩, bound "BadPlace" (by decide +kernel), by decide⟩
  have mk_BadRow : MkX l.prog w K mg base "BadRow" (adr K "BadRow") ["value"] := ⟨oexK c_BadRow (of_all cox "BadRow" (by decide +kernel)), ⟨_, _, _, m_BadRow_init.1, m_BadRow_init.2.1, ini_BadRow F_BadRow_init (oexK c_BadRow (of_all cox "BadRow" (by decide +kernel))) (of_decide_eq_true (of_all cex ("BadRow", "value") (by decide +kernel))), B_BadRow_init⟩, bound "BadRow" (by decide +kernel), by decide⟩
  have mk_NoMove : MkX l.prog w K mg base "NoMove" (adr K "NoMove") ["value"] := ⟨oexK c_NoMove (of_all cox "NoMove" (by decide +kernel)), ⟨_, _, _, m_NoMove_init.1, m_NoMove_init.2.1, ini_NoMove F_NoMove_init (oexK c_NoMove (of_all cox "NoMove" (by decide +kernel))) (of_decide_eq_true (of_all cex ("NoMove", "value") (by decide +kernel))), B_NoMove_init⟩, bound "NoMove" (by decide +kernel), by decide⟩
  have mk_BadText : MkX l.prog w K mg base "BadText" (adr K "BadText") ["line", "column"] := ⟨oexK c_BadText (of_all cox "BadText" (by decide +kernel)), ⟨_, _, _, m_BadText_init.1, m_BadText_init.2.1, ini_BadText F_BadText_init (oexK c_BadText (of_all cox "BadText" (by decide +kernel))) (of_decide_eq_true (of_all cex ("BadText", "line") (by decide +kernel))) (of_decide_eq_true (of_all cex ("BadText", "column") (by decide +kernel))), B_BadText_init⟩, bound "BadText" (by decide +kernel), by decide⟩
  have f__law_draw : DFn false l.prog w K (tabsK K) mg base 1 "_law_draw" fwDraw := dfn_mk (ok_draw F__law_draw TP) g__law_draw F__law_draw.kp B__law_draw
  have f_is_whole : DFn false l.prog w K (tabsK K) mg base 1 "is_whole" (fwWhole (csB (adr K))) := dfn_mk (ok_is_whole F_is_whole TBs ) g_is_whole F_is_whole.kp B_is_whole
  have f_is_row : DFn false l.prog w K (tabsK K) mg base 1 "is_row" (fwRow (csB (adr K))) := dfn_mk (ok_is_row F_is_row TBs ) g_is_row F_is_row.kp B_is_row
  have d_tup : ∀ n : Nat, DFn false l.prog w K (tabsK K) mg base (n + 2) "tupled" (fwTup (csB (adr K)) n) := fun n => by
    induction n with
    | zero => exact dfn_mk (ok_tupled0 F_tupled TBs f_is_row) g_tupled F_tupled.kp B_tupled
    | succ n ih => exact dfn_mk (ok_tupled F_tupled TBs f_is_row ih) g_tupled F_tupled.kp B_tupled
  have f_tupled : DFn false l.prog w K (tabsK K) mg base 6 "tupled" (fwTup (csB (adr K)) 4) := d_tup 4
  have f_is_index : DFn false l.prog w K (tabsK K) mg base 2 "is_index" (fwIndex (csB (adr K))) := dfn_mk (ok_is_index F_is_index TBs f_is_whole) g_is_index F_is_index.kp B_is_index
  have f__is_condition : DFn false l.prog w K (tabsK K) mg base 2 "_is_condition" (fwCond (csB (adr K))) := dfn_mk (ok__is_condition F__is_condition TBs f_is_whole E0) g__is_condition F__is_condition.kp B__is_condition
  have f__is_conditions : DFn false l.prog w K (tabsK K) mg base 3 "_is_conditions" (fwConds (csB (adr K))) := dfn_mk (ok__is_conditions F__is_conditions TBs f__is_condition) g__is_conditions F__is_conditions.kp B__is_conditions
  have f__is_move : DFn false l.prog w K (tabsK K) mg base 4 "_is_move" (fwIsMv (adr K)) := dfn_mk (ok__is_move F__is_move TBs f_is_whole f_is_index f__is_conditions) g__is_move F__is_move.kp B__is_move
  have f__is_goal : DFn false l.prog w K (tabsK K) mg base 4 "_is_goal" (fwIsGl (adr K)) := dfn_mk (ok__is_goal F__is_goal TBs f_is_index f__is_conditions) g__is_goal F__is_goal.kp B__is_goal
  have f__need_sides : DFnX l.prog w K (tabsK K) mg base 3 "_need_sides" (fwNeedS (adr K)) := ⟨_, _, _, ok__need_sides F__need_sides TBs f_is_row f_is_index mk_BadBook E0, g__need_sides, F__need_sides.kp, B__need_sides⟩
  have f__need_moves : DFnX l.prog w K (tabsK K) mg base 5 "_need_moves" (fwNeedM (adr K)) := ⟨_, _, _, ok__need_moves F__need_moves TBs f_is_row f__is_move mk_BadBook, g__need_moves, F__need_moves.kp, B__need_moves⟩
  have f__need_goals : DFnX l.prog w K (tabsK K) mg base 5 "_need_goals" (fwNeedG (adr K)) := ⟨_, _, _, ok__need_goals F__need_goals TBs f_is_row f__is_goal mk_BadBook, g__need_goals, F__need_goals.kp, B__need_goals⟩
  have mk_Move : MkI l.prog w K (tabsK K) mg base 7 "Move" (adr K "Move") (fiMove (adr K)) := ⟨⟨_, _, _, ⟨(mkc "Move" (by decide +kernel)).1, m_Move_init.1, isf m_Move_init.2.1, (mkc "Move" (by decide +kernel)).2⟩, ini_Move F_Move_init TBs f_tupled, B_Move_init⟩, bound "Move" (by decide +kernel)⟩
  have mk_Goal : MkI l.prog w K (tabsK K) mg base 7 "Goal" (adr K "Goal") (fiGoal (adr K)) := ⟨⟨_, _, _, ⟨(mkc "Goal" (by decide +kernel)).1, m_Goal_init.1, isf m_Goal_init.2.1, (mkc "Goal" (by decide +kernel)).2⟩, ini_Goal F_Goal_init TBs f_tupled, B_Goal_init⟩, bound "Goal" (by decide +kernel)⟩
  have mk_Book : MkIX l.prog w K (tabsK K) mg base 6 "Book" (adr K "Book") (fiBook (adr K)) := ⟨⟨_, _, _, ⟨(mkc "Book" (by decide +kernel)).1, m_Book_init.1, isf m_Book_init.2.1, (mkc "Book" (by decide +kernel)).2⟩, ini_Book F_Book_init TBs f__need_sides f__need_moves f__need_goals, B_Book_init⟩, bound "Book" (by decide +kernel)⟩
  have f__law_pick : DFn false l.prog w K (tabsK K) mg base 2 "_law_pick" fwPick := dfn_mk (ok__law_pick F__law_pick TBs f__law_draw) g__law_pick F__law_pick.kp B__law_pick
  have f__law_some_condition : DFn false l.prog w K (tabsK K) mg base 3 "_law_some_condition" fwSomeC := dfn_mk (ok__law_some_condition F__law_some_condition TBs f__law_draw f__law_pick E0 N0) g__law_some_condition F__law_some_condition.kp B__law_some_condition
  have f__law_some_conditions : DFn false l.prog w K (tabsK K) mg base 4 "_law_some_conditions" fwSomeCs := dfn_mk (ok__law_some_conditions F__law_some_conditions TBs f__law_pick f__law_some_condition) g__law_some_conditions F__law_some_conditions.kp B__law_some_conditions
  have f__law_some_book : DFn false l.prog w K (tabsK K) mg base 5 "_law_some_book" fwBook := dfn_mk (ok__law_some_book F__law_some_book TBs f__law_draw f__law_pick f__law_some_conditions E0 N0) g__law_some_book F__law_some_book.kp B__law_some_book
  have f__law_taking_book : DFn false l.prog w K (tabsK K) mg base 5 "_law_taking_book" fwTaking := dfn_mk (ok__law_taking_book F__law_taking_book TBs f__law_draw f__law_pick E0 N0) g__law_taking_book F__law_taking_book.kp B__law_taking_book
  have f__law_drawn_book : DFn false l.prog w K (tabsK K) mg base 6 "_law_drawn_book" fwDrawn := dfn_mk (ok__law_drawn_book F__law_drawn_book TBs f__law_draw f__law_taking_book f__law_some_book) g__law_drawn_book F__law_drawn_book.kp B__law_drawn_book
  have f__law_listed : DFn false l.prog w K (tabsK K) mg base 3 "_law_listed" fwListed := dfn_mk (ok__law_listed F__law_listed TBs f__law_pick) g__law_listed F__law_listed.kp B__law_listed
  have f__law_made_move : DFn false l.prog w K (tabsK K) mg base 9 "_law_made_move" (fwMadeM (adr K)) := dfn_mk (ok__law_made_move F__law_made_move TBs f__law_listed mk_Move) g__law_made_move F__law_made_move.kp B__law_made_move
  have f__law_made_goal : DFn false l.prog w K (tabsK K) mg base 9 "_law_made_goal" (fwMadeG (adr K)) := dfn_mk (ok__law_made_goal F__law_made_goal TBs f__law_listed mk_Goal) g__law_made_goal F__law_made_goal.kp B__law_made_goal
  have f__law_made_book : DFn false l.prog w K (tabsK K) mg base 10 "_law_made_book" (fwMadeB (adr K)) := dfn_mk (ok__law_made_book F__law_made_book TBs f__law_listed f__law_made_move f__law_made_goal mk_Book) g__law_made_book F__law_made_book.kp B__law_made_book
  have f_need_whole : DFnX l.prog w K (tabsK K) mg base 3 "need_whole" (fwNeedW (adr K)) := ⟨_, _, _, ok_need_whole F_need_whole TBs f_is_whole mk_BadNumber, g_need_whole, F_need_whole.kp, B_need_whole⟩
  have f_need_place : DFnX l.prog w K (tabsK K) mg base 3 "need_place" (fwNeedP (adr K)) := ⟨_, _, _, ok_need_place F_need_place TBs f_is_index mk_BadPlace, g_need_place, F_need_place.kp, B_need_place⟩
  have f_need_state : DFnX l.prog w K (tabsK K) mg base 4 "need_state" (fwNeedSt (adr K)) := ⟨_, _, _, ok_need_state F_need_state TBs f_need_place f_need_whole, g_need_state, F_need_state.kp, B_need_state⟩
  have f_condition_holds : DFn false l.prog w K (tabsK K) mg base 2 "condition_holds" fwCondH := dfn_mk (ok_condition_holds F_condition_holds TBs E0 N0) g_condition_holds F_condition_holds.kp B_condition_holds
  have f_all_hold : DFn false l.prog w K (tabsK K) mg base 3 "all_hold" fwAllH := dfn_mk (ok_all_hold F_all_hold TBs f_condition_holds) g_all_hold F_all_hold.kp B_all_hold
  have f_open_moves : DFnX l.prog w K (tabsK K) mg base 5 "open_moves" (fwOpen (adr K)) := ⟨_, _, _, ok_open_moves F_open_moves TBs f_need_state f_all_hold E0 N0, g_open_moves, F_open_moves.kp, B_open_moves⟩
  have f__law_holds : DFn false l.prog w K (tabsK K) mg base 3 "_law_holds" fwAllH := dfn_mk (ok__law_holds F__law_holds TBs E0 N0) g__law_holds F__law_holds.kp B__law_holds
  have f__law_far : DFn false l.prog w K (tabsK K) mg base 3 "_law_far" fwFar := dfn_mk (ok__law_far F__law_far TBs f__law_draw f__law_pick) g__law_far F__law_far.kp B__law_far
  have f_by_place : DFn false l.prog w K (tabsK K) mg base 1 "by_place" (fwByPl (adr K)) := dfn_mk (ok_by_place (lev := levB (adr K)) F_by_place TBs ) g_by_place F_by_place.kp B_by_place
  have f_some_holds : DFn false l.prog w K (tabsK K) mg base 4 "some_holds" (fwSomeH (adr K)) := dfn_mk (ok_some_holds F_some_holds TBs f_all_hold) g_some_holds F_some_holds.kp B_some_holds
  have f__states : DFn false l.prog w K (tabsK K) mg base 5 "_states" (fwStates (adr K)) := dfn_mk (ok__states F__states TBs f_by_place f_is_index f_some_holds f_all_hold E0 N0) g__states F__states.kp B__states
  have f__end : DFn false l.prog w K (tabsK K) mg base 6 "_end" (fwEnd (adr K)) := dfn_mk (ok__end F__end TBs f_some_holds f_open_moves E0 N0) g__end F__end.kp B__end
  have mk_Play : MkIX l.prog w K (tabsK K) mg base 9 "Play" (adr K "Play") (fiPlay (adr K)) := ⟨⟨_, _, _, ⟨(mkc "Play" (by decide +kernel)).1, m_Play_init.1, isf m_Play_init.2.1, (mkc "Play" (by decide +kernel)).2⟩, ini_Play F_Play_init TBs f_need_state f_is_row f__states f__end mk_BadRow mk_NoMove, B_Play_init⟩, bound "Play" (by decide +kernel)⟩
  have f__law_number_of : DFn false l.prog w K (tabsK K) mg base 10 "_law_number_of" fwNum := dfn_mk (ok__law_number_of F__law_number_of TBs E8 N0) g__law_number_of F__law_number_of.kp B__law_number_of
  obtain ⟨tkD, mgD⟩ := strK_at cdg X G
  obtain ⟨tkM, mgM⟩ := intK_at cmdg X G
  have f_number_of : DFn false l.prog w K (tabsK K) mg base 2 "number_of" fwNum := dfn_mk (ok_number_of F_number_of TBs mgD mgM E0 N0) g_number_of F_number_of.kp B_number_of
  have f_play_text : DFn false l.prog w K (tabsK K) mg base 1 "play_text" (fwText (adr K)) := dfn_mk (ok_play_text F_play_text TBs ) g_play_text F_play_text.kp B_play_text
  have f__column : DFn false l.prog w K (tabsK K) mg base 1 "_column" fwCol := dfn_mk (ok__column F__column TBs ) g__column F__column.kp B__column
  have f_read_play : DFnX l.prog w K (tabsK K) mg base 11 "read_play" (fwRead (adr K)) := ⟨_, _, _, ok_read_play F_read_play TBs f_number_of f_is_index f__column f__states mk_BadText mk_Play E0 N0, g_read_play, F_read_play.kp, B_read_play⟩
  have f__law_got : DFn false l.prog w K (tabsK K) mg base 12 "_law_got" (fwGot (adr K)) := dfn_mk (ok__law_got F__law_got TBs f_read_play (bound "BadText" (by decide +kernel)) (xfB_ok (of_all cxf "BadText" (by decide +kernel))) (of_decide_eq_true (of_all cex ("BadText", "line") (by decide +kernel))) (of_decide_eq_true (of_all cex ("BadText", "column") (by decide +kernel))) (of_decide_eq_true cxm)) g__law_got F__law_got.kp B__law_got
  have f__law_changed : DFn false l.prog w K (tabsK K) mg base 3 "_law_changed" fwChg := dfn_mk (ok__law_changed F__law_changed TBs f__law_draw f__law_pick E0 N0) g__law_changed F__law_changed.kp B__law_changed
  have f__law_open : DFn false l.prog w K (tabsK K) mg base 4 "_law_open" fwLOpen := dfn_mk (ok__law_open F__law_open TBs f__law_holds E0 N0) g__law_open F__law_open.kp B__law_open
  have f__law_is_goal : DFn false l.prog w K (tabsK K) mg base 7 "_law_is_goal" fwLGoal := dfn_mk (ok__law_is_goal F__law_is_goal TBs f__law_holds E5 N0) g__law_is_goal F__law_is_goal.kp B__law_is_goal
  have f__law_ended : DFn false l.prog w K (tabsK K) mg base 8 "_law_ended" fwEndB := dfn_mk (ok__law_ended F__law_ended TBs f__law_is_goal f__law_open E5 N0) g__law_ended F__law_ended.kp B__law_ended
  have f__law_drawn_moves : DFn false l.prog w K (tabsK K) mg base 9 "_law_drawn_moves" fwDrMv := dfn_mk (ok__law_drawn_moves F__law_drawn_moves TBs f__law_pick f__law_ended f__law_open) g__law_drawn_moves F__law_drawn_moves.kp B__law_drawn_moves
  have f__law_due : DFn false l.prog w K (tabsK K) mg base 11 "_law_due" fwDue := dfn_mk (ok__law_due F__law_due TBs f__law_number_of f__law_is_goal f__law_open E0 N0) g__law_due F__law_due.kp B__law_due
  exact (ok_law F_law TBs (ok_pen F__law_pen TP) g__law_pen F__law_pen.kp B__law_pen f__law_draw f__law_pick f__law_drawn_book f__law_made_book f__law_far f__law_drawn_moves mk_Play f_play_text f_read_play f__law_got f__law_changed f__law_due E10 N0).ok
end DW

open PySem PySem.W PyProof.Rows
set_option maxRecDepth 100000 in
set_option maxHeartbeats 0 in
theorem PySem.Challenge.cw_anylead_k33_texts_of_plays_holds : PySem.Challenge.rw_anylead_k33_texts_of_plays.Holds := by
  w_on; o_law; k_head; (case hw => w_witness2)
  k_fill
  refine DW.walk_tabsN (n := 63) (k := 14) (x := "_law_script") (CX := fun _ => L2.CX0) [] rfl (by decide) rfl ⟨rfl, by decide, by decide⟩ (by kernel_rfl) (fun w h Y => PySem.W.kIn_of Y) (fun w => by kernel_rfl) ?F (fun _ _ _ _ _ z => z)
  case F =>
    intro w mg fa h Y KX G hmg own
    exact DW.all_law KX G hmg own (by kernel_rfl) (by kernel_rfl) (by kernel_rfl) (by kernel_rfl) (by kernel_rfl) (by kernel_rfl) (by kernel_rfl) (by kernel_rfl) (by kernel_rfl) (by kernel_rfl) (by kernel_rfl) (by kernel_rfl) (by kernel_rfl) (by kernel_rfl) (by kernel_rfl) (by kernel_rfl) (by kernel_rfl) (by kernel_rfl) (by kernel_rfl) (by kernel_rfl) (by kernel_rfl) (by kernel_rfl) (by kernel_rfl) (by kernel_rfl) (by kernel_rfl) (by kernel_rfl) (by kernel_rfl) (by kernel_rfl) (by kernel_rfl) (by kernel_rfl) (by kernel_rfl) (by kernel_rfl) (by kernel_rfl) (by kernel_rfl) (by kernel_rfl) (by kernel_rfl) (by kernel_rfl) (by kernel_rfl) (by kernel_rfl) (by kernel_rfl) (by kernel_rfl) (by kernel_rfl) (by kernel_rfl) (by kernel_rfl) (by kernel_rfl) (by kernel_rfl) (by kernel_rfl) (by kernel_rfl) (by kernel_rfl) (by kernel_rfl) (by kernel_rfl) (by kernel_rfl) (by kernel_rfl) (by kernel_rfl) (by kernel_rfl) (by kernel_rfl) (by kernel_rfl) (by kernel_rfl) (by kernel_rfl) (by kernel_rfl) (by kernel_rfl) (by kernel_rfl) (by kernel_rfl) (by kernel_rfl) (by kernel_rfl) (by kernel_rfl) (by kernel_rfl) (by kernel_rfl) (by kernel_rfl) (by kernel_rfl) (by kernel_rfl) (by kernel_rfl) (by kernel_rfl) (by kernel_rfl) (by kernel_rfl) (by kernel_rfl) (by kernel_rfl) (by kernel_rfl) (by kernel_rfl) (by kernel_rfl) (by kernel_rfl) (by kernel_rfl) (by kernel_rfl) (by kernel_rfl) (by kernel_rfl) (by kernel_rfl) (by kernel_rfl) (by kernel_rfl) (by kernel_rfl) (by kernel_rfl)

