import PyProof.Rows.All
import Wide.All
import OpenK.AllK
import Wide.FinOn
import HandS.ForMost
import HandS.Exc
import HandS.ExcInit
import HandS.Flow
import HandS.Style
import HandS.TupAny
import HandS.TupLe
import HandS.TupMul
import HandS.IsInst
import KE.KExcIs
import HandS.ExcValue
import HandS.ExcField
import HandS.ExcIs
import PyProof.StrLawsRepr
import PyProof.Rows.ReprOcc
import PySem.Challenge.RW_anylead_k00_errors_made_by_hand
set_option Elab.async false
set_option linter.all false
set_option maxRecDepth 100000
set_option maxHeartbeats 4000000
set_option exponentiation.threshold 3000
/-! DW0: defs that may ask for a text of data (repr): they are promised where nothing is being shown (g = true). -/
namespace DW
open PySem PySem.Spec PySem.Calls L2

/-- a def keeps sp; with g = true only where no text of data is being made -/
structure FnG (g : Bool) (P : Program) (w : World) (K : PySem.W.Frag) (mg : Str → Option Value) (base : Heap) (CX : CXT) (k : Nat) (f : Addr) (fd : FuncData) (ps : List Str) (sp : Sp) : Prop where
  len : ∀ vs H Q E, sp vs H Q E → vs.length = ps.length
  run : ∀ (A : Around) (outer : List PySem.Env) (s : Shared) (H : Hp) (args : Args) (us : List Value) (vs : List V) (Q : VK) (E : XK), Room k A → (g = true → A.guards = some []) → Env0 P w K mg base A outer s H →
    BindsTo s fd args (ps.zip us) → Vals vs us → sp vs H Q E → codeAny (model P w) A (.call (.ref f) args) (CR CX outer P w H s Q E) s
theorem FnG.of {g : Bool} {P : Program} {w : World} {K : PySem.W.Frag} {mg : Str → Option Value} {base : Heap} {CX : CXT} {k : Nat} {f : Addr} {fd : FuncData} {ps : List Str} {sp : Sp} (F : FnOk P w K mg base CX k f fd ps sp) : FnG g P w K mg base CX k f fd ps sp :=
  ⟨F.len, fun A outer s H args us vs Q E hr _ => F.run A outer s H args us vs Q E hr⟩
theorem FnG.ok {P : Program} {w : World} {K : PySem.W.Frag} {mg : Str → Option Value} {base : Heap} {CX : CXT} {k : Nat} {f : Addr} {fd : FuncData} {ps : List Str} {sp : Sp} (F : FnG false P w K mg base CX k f fd ps sp) : FnOk P w K mg base CX k f fd ps sp :=
  ⟨F.len, fun A outer s H args us vs Q E hr => F.run A outer s H args us vs Q E hr (fun z => nomatch z)⟩
theorem FnG.mono {g : Bool} {P : Program} {w : World} {K : PySem.W.Frag} {mg : Str → Option Value} {base : Heap} {CX : CXT} {j k : Nat} {f : Addr} {fd : FuncData} {ps : List Str} {sp : Sp} (F : FnG g P w K mg base CX j f fd ps sp) (h : j ≤ k) : FnG g P w K mg base CX k f fd ps sp :=
  ⟨F.len, fun A outer s H args us vs Q E hr => F.run A outer s H args us vs Q E (hr.mono h)⟩
theorem FnG.any {g : Bool} {P : Program} {w : World} {K : PySem.W.Frag} {mg : Str → Option Value} {base : Heap} {CX : CXT} {k : Nat} {f : Addr} {fd : FuncData} {ps : List Str} {sp : Sp} (F : FnG g P w K mg base CX k f fd ps sp) : FnG true P w K mg base CX k f fd ps sp :=
  ⟨F.len, fun A outer s H args us vs Q E hr hg => F.run A outer s H args us vs Q E hr fun _ => hg rfl⟩

/-- a body's walk makes the promise -/
theorem fnG_of {g : Bool} {CX : CXT} {P : Program} {w : World} {K : PySem.W.Frag} {mg : Str → Option Value} {base : Heap} {k : Nat} {f : Addr} {x qual : Str} {st : Stmt} {fd : FuncData} {N ps : List Str} {sp : Sp} (F : Fun K x qual st f fd) (S : FnScope N ps (defScope st)) (len : ∀ vs H Q E, sp vs H Q E → vs.length = ps.length)
    (body : ∀ (cdv : Value) (A : Around) (outer : List PySem.Env) (s : Shared) (H : Hp) (vs : List V) (Q : VK) (E : XK), Room k (A.deeper (PyProof.Rows.envOfC qual (defScope st) s.heap.objs.size f cdv)) → (g = true → A.guards = some []) → sp vs H Q E →
      ∃ t, PSs (cxOf CX P w K mg base N qual (defScope st) f cdv A outer s H E) (defBody st) t ∧ t { nx := fun _ H' => Q .non H', rt := Q } (L2.start N vs) H) : FnG g P w K mg base CX (k + 1) f fd ps sp := by
  obtain ⟨oc, od, kV, doc, pm, an, cdv, ct, osl, rfl, lk, hcd⟩ := F.ex
  refine ⟨len, fun A outer s H args us vs Q E hr hg env bnd rel hs => ?_⟩
  have count : vs.length = ps.length := len vs H Q E hs
  have old : ∀ b o, base.get? b = some o → s.heap.get? b = some o := fun b o e => (env.bs b o e).1
  have written : K.In s.heap := env.mod.kin.keeps old
  have kinds : ∀ y ∈ ps.zip us, (defScope st).names.lookup y.1 = some .local ∨ ((defScope st).names.lookup y.1 = some .cell ∧ ((cellsFrom (s.heap.objs.size + 1) (defScope st).names []).lookup y.1).isSome = true) := by
    rintro ⟨n, u⟩ hy
    cases S.par n (List.of_mem_zip hy).1 with
    | inl q => exact Or.inl q
    | inr q => exact Or.inr ⟨q, PySem.W.cellsFrom_some _ _ _ (Or.inl q)⟩
  refine codeAny_call_function hr.depth (written _ _ lk) rfl S.co S.gen rfl (PySem.W.codeRec_of written hcd) (bnd _ _ _ _ ?_)
  refine wpAny_newFunctionEnv_cells S.kind kinds fun e1 he s1 made => ?_
  subst he
  refine ⟨(env.mod.nolimit.keeps old).keeps made.toInCall.keep, codeAny_func ?_⟩
  obtain ⟨t, derived, reads⟩ := body cdv A outer s H vs Q E (hr.deeper _) hg hs
  have start1 := inv_start (CX := CX) (E := E) (qual := qual) (f := f) S hr.hd env count rel made
  refine wpAny_mono (derived.run [] s1 _ H _ start1 reads) (fun flow s2 post => ?_) fun err s2 post => post
  cases flow with
  | ret u =>
    obtain ⟨v, σ2, H2, J, rv, q⟩ := post
    exact ⟨v, H2, J.os, J.bare, J.base, J.hok, rv, q⟩
  | next =>
    obtain ⟨σ2, H2, J, q⟩ := post
    exact ⟨V.non, H2, J.os, J.bare, J.base, J.hok, rfl, q⟩
  | brk => exact (post.elim fun _ z => z.elim fun _ z => z.2).elim
  | cont => exact (post.elim fun _ z => z.elim fun _ z => z.2).elim

section
variable {X : Cx} {CX : CXT} {g : Bool} {k : Nat} {f : Addr} {fd : FuncData} {ps : List Str} {sp : Sp} {E : XK} {x : Str} {p pos : Pos} {e : Expr} {es : List Expr} {t : TA}
theorem runG {pins : List (Addr × Obj)} {σ : L2.St} {H : Hp} {s : Shared} {Q : VK} {us : List Value} {vs : List V} (F : FnG g X.prog X.w X.K X.mg X.base CX k f fd ps sp) (hr : Room k X.A) (hg : g = true → X.A.guards = some []) (hb : Binds X.K fd ps []) (hx : Passes CX X E)
    (I : Inv X pins σ H s) (r : Vals vs us) (h : sp vs H Q E) : wpAny (model X.prog X.w) X.A (call (.ref f) us) (EP X pins σ Q) X.xe s := by
  have count : us.length = ps.length := by
    rw [← r.length]
    exact F.len vs H Q E h
  have bnd : BindsTo s fd ⟨us, []⟩ (ps.zip us) := by
    have z := hb s us I.kIn (by rw [List.append_nil]; exact count)
    rwa [List.append_nil] at z
  refine wpAny_call (codeAny_mono (F.run X.A X.stack s H ⟨us, []⟩ us vs Q E hr hg I.env0 bnd r h) fun res s2 post => ?_)
  match res, post with
  | .error err, post => exact hx pins σ H s err s2 I post
  | .ok (.ret u), post => exact I.after post
theorem pe_callG (F : FnG g X.prog X.w X.K X.mg X.base CX k f fd ps sp) (hr : Room k X.A) (hg : g = true → X.A.guards = some []) (gl : Gl X x) (hm : X.mg x = some (.ref f)) (hk : PySem.W.keepIn X.K (.ref f) = true) (hb : Binds X.K fd ps []) (hx : Passes CX X E)
    (ha : PA X (e :: es) t) (hdb : (x == ("__debug__" : Str)) = false := by decide) (he : starEach (e :: es) X.env = (false, eval e X.env) :: starEach es X.env := by rfl) (hpl : (backTo pos (starEach es X.env)).any (·.1) = false := by rfl) :
    PE X (.Call (.Name x p) (e :: es) [] pos) (tCall sp [] E t) := by
  constructor
  intro pins s σ H Q I h
  refine wpAny_Call_Name_kw (ld_glob I gl hm ?_ hdb)
  refine PySem.W.callWith_K (h₀ := X.base) I.ok.mod.kin hk (thn (ha.run pos pins s σ H _ I h) ?_) he hpl
  rintro us s1 ⟨vs, H1, I1, r, q⟩
  rw [List.append_nil] at q
  exact ⟨I1.kIn, runG F hr hg hb hx I1 r q⟩
theorem pe_callG0 (F : FnG g X.prog X.w X.K X.mg X.base CX k f fd ps sp) (hr : Room k X.A) (hg : g = true → X.A.guards = some []) (gl : Gl X x) (hm : X.mg x = some (.ref f)) (hk : PySem.W.keepIn X.K (.ref f) = true) (hb : Binds X.K fd ps []) (hx : Passes CX X E)
    (hdb : (x == ("__debug__" : Str)) = false := by decide) : PE X (.Call (.Name x p) [] [] pos) (tCall sp [] E tNil) := by
  constructor
  intro pins s σ H Q I h
  refine wpAny_Call_Name_kw (ld_glob I gl hm ?_ hdb)
  exact PySem.W.callWith_K0 I.kIn hk (runG (us := []) F hr hg hb hx I .nil h)
end
end DW

/-! DW: a calculus of plain data over the hand layer. An expression's reading is told over data alone; the heap is dealt with once, here. -/
namespace DW
open PySem PySem.Spec L2

/-- plain data: what a value says, wherever it stands -/
inductive D where
  | non | bl (b : Bool) | int (i : Int) | str (s : Str)
  | lst (ds : List D) | tup (ds : List D)
  | obj (C : Addr) (fs : List (Str × D))
  | exc (C : Addr) (fs : List (Str × D))
  | pen

mutual
inductive Rep (p : Option Addr) (K : PySem.W.Frag) (H : Hp) : V → D → Prop
  | non : Rep p K H .non .non
  | bl (b : Bool) : Rep p K H (.bl b) (.bl b)
  | int (i : Int) : Rep p K H (.int i) (.int i)
  | str (x : Str) : Rep p K H (.str x) (.str x)
  | lst {a : Addr} {xs : List V} {ds : List D} : H a = some (.lst xs) → RepA p K H xs ds → Rep p K H (.ref a) (.lst ds)
  | tup {a : Addr} {xs : List V} {ds : List D} : SqT K H a xs → RepA p K H xs ds → Rep p K H (.ref a) (.tup ds)
  | obj {a C dx : Addr} {fs : List (Str × V)} {ds : List (Str × D)} : H a = some (.ins C dx fs) → RepF p K H fs ds → Rep p K H (.ref a) (.obj C ds)
  | exc {a C d : Addr} {fs : List (Str × V)} {ds : List (Str × D)} : H a = some (exo a C (some d)) → H d = some (exd d fs) → RepF p K H fs ds → Rep p K H (.ref a) (.exc C ds)
  | exc0 {a C : Addr} : H a = some (exo a C none) → Rep p K H (.ref a) (.exc C [])
  | pen {a : Addr} : p = some a → Rep p K H (.ref a) .pen
inductive RepA (p : Option Addr) (K : PySem.W.Frag) (H : Hp) : List V → List D → Prop
  | nil : RepA p K H [] []
  | cons {v : V} {d : D} {vs : List V} {ds : List D} : Rep p K H v d → RepA p K H vs ds → RepA p K H (v :: vs) (d :: ds)
inductive RepF (p : Option Addr) (K : PySem.W.Frag) (H : Hp) : List (Str × V) → List (Str × D) → Prop
  | nil : RepF p K H [] []
  | cons {f : Str} {v : V} {d : D} {vs : List (Str × V)} {ds : List (Str × D)} : Rep p K H v d → RepF p K H vs ds → RepF p K H ((f, v) :: vs) ((f, d) :: ds)
end

def Ext (H H' : Hp) : Prop := ∀ b o, H b = some o → H' b = some o

section
variable {p : Option Addr} {K : PySem.W.Frag} {H H' : Hp}
theorem SqT.ext {a : Addr} {xs : List V} (h : SqT K H a xs) (e : Ext H H') : SqT K H' a xs := by
  rcases h with (h | ⟨o, h⟩) | h
  · exact .inl (.inl (e _ _ h))
  · exact .inl (.inr ⟨o, e _ _ h⟩)
  · exact .inr h
mutual
theorem Rep.ext (e : Ext H H') : ∀ {v : V} {d : D}, Rep p K H v d → Rep p K H' v d
  | _, _, .non => .non
  | _, _, .bl b => .bl b
  | _, _, .int i => .int i
  | _, _, .str x => .str x
  | _, _, .lst h r => .lst (e _ _ h) (RepA.ext e r)
  | _, _, .tup h r => .tup (SqT.ext h e) (RepA.ext e r)
  | _, _, .obj h r => .obj (e _ _ h) (RepF.ext e r)
  | _, _, .exc h h2 r => .exc (e _ _ h) (e _ _ h2) (RepF.ext e r)
  | _, _, .exc0 h => .exc0 (e _ _ h)
  | _, _, .pen h => .pen h
theorem RepA.ext (e : Ext H H') : ∀ {v : List V} {d : List D}, RepA p K H v d → RepA p K H' v d
  | _, _, .nil => .nil
  | _, _, .cons h r => .cons (Rep.ext e h) (RepA.ext e r)
theorem RepF.ext (e : Ext H H') : ∀ {v : List (Str × V)} {d : List (Str × D)}, RepF p K H v d → RepF p K H' v d
  | _, _, .nil => .nil
  | _, _, .cons h r => .cons (Rep.ext e h) (RepF.ext e r)
end
theorem RepA.length : ∀ {v : List V} {d : List D}, RepA p K H v d → v.length = d.length
  | _, _, .nil => rfl
  | _, _, .cons _ r => congrArg (· + 1) (RepA.length r)
theorem RepA.get : ∀ {vs : List V} {ds : List D} {i : Nat} {d : D}, RepA p K H vs ds → ds[i]? = some d → ∃ v, vs[i]? = some v ∧ Rep p K H v d
  | _, _, _, _, .nil, h => by simp at h
  | _, _, 0, _, .cons h _, e => by
    simp at e
    subst e
    exact ⟨_, rfl, h⟩
  | _, _, i + 1, d, .cons _ r, e => by
    obtain ⟨v, h1, h2⟩ := RepA.get (i := i) (d := d) r (by simpa using e)
    exact ⟨v, by simpa using h1, h2⟩
theorem RepA.getV : ∀ {vs : List V} {ds : List D} {i : Nat} {v : V}, RepA p K H vs ds → vs[i]? = some v → ∃ d, ds[i]? = some d ∧ Rep p K H v d
  | _, _, _, _, .nil, h => by simp at h
  | _, _, 0, _, .cons h _, e => by
    simp at e
    subst e
    exact ⟨_, rfl, h⟩
  | _, _, i + 1, d, .cons _ r, e => by
    obtain ⟨v, h1, h2⟩ := RepA.getV (i := i) r (by simpa using e)
    exact ⟨v, by simpa using h1, h2⟩
theorem RepA.append : ∀ {vs ws : List V} {ds es : List D}, RepA p K H vs ds → RepA p K H ws es → RepA p K H (vs ++ ws) (ds ++ es)
  | _, _, _, _, .nil, s => s
  | _, _, _, _, .cons h r, s => .cons h (RepA.append r s)
theorem RepA.one {v : V} {d : D} (h : Rep p K H v d) : RepA p K H [v] [d] := .cons h .nil
theorem RepA.take : ∀ {vs : List V} {ds : List D} (n : Nat), RepA p K H vs ds → RepA p K H (vs.take n) (ds.take n)
  | _, _, 0, _ => .nil
  | _, _, _ + 1, .nil => .nil
  | _, _, n + 1, .cons h r => .cons h (RepA.take n r)
theorem RepA.drop : ∀ {vs : List V} {ds : List D} (n : Nat), RepA p K H vs ds → RepA p K H (vs.drop n) (ds.drop n)
  | _, _, 0, r => r
  | _, _, _ + 1, .nil => .nil
  | _, _, n + 1, .cons _ r => RepA.drop n r
theorem RepA.set {v : V} {d : D} (h : Rep p K H v d) : ∀ {vs : List V} {ds : List D} (i : Nat), RepA p K H vs ds → RepA p K H (vs.set i v) (ds.set i d)
  | _, _, _, .nil => .nil
  | _, _, 0, .cons _ r => .cons h r
  | _, _, i + 1, .cons q r => .cons q (RepA.set h i r)
theorem RepA.ints : ∀ {vs : List V} {ns : List Int}, RepA p K H vs (ns.map D.int) → vs = ns.map V.int
  | _, [], .nil => rfl
  | _, n :: ns, .cons h r => by
    cases h
    rw [RepA.ints r]
    rfl
theorem RepF.look : ∀ {fs : List (Str × V)} {ds : List (Str × D)} {f : Str} {d : D}, RepF p K H fs ds → ds.lookup f = some d → ∃ v, fs.lookup f = some v ∧ Rep p K H v d
  | _, _, _, _, .nil, h => by cases h
  | _, _, f, d, .cons (f := g) h r, e => by
    by_cases q : f = g
    · subst q
      simp [List.lookup] at e
      subst e
      exact ⟨_, by simp [List.lookup], h⟩
    · have q' : (f == g) = false := by simpa using q
      simp [List.lookup, q'] at e
      obtain ⟨v, h1, h2⟩ := RepF.look r e
      exact ⟨v, by simp [List.lookup, q', h1], h2⟩
theorem RepF.none : ∀ {fs : List (Str × V)} {ds : List (Str × D)} {f : Str}, RepF p K H fs ds → ds.lookup f = Option.none → fs.lookup f = Option.none
  | _, _, _, .nil, h => rfl
  | _, _, f, .cons (f := g) h r, e => by
    by_cases q : f = g
    · subst q
      simp [List.lookup] at e
    · have q' : (f == g) = false := by simpa using q
      unfold List.lookup at e ⊢
      rw [q'] at e ⊢
      exact RepF.none r e
end

/-- the heap without what is owned -/
def cut (A : List Addr) (H : Hp) : Hp := fun b => if b ∈ A then none else H b
theorem cut_some {A : List Addr} {H : Hp} {b : Addr} {o : HO} (h : cut A H b = some o) : b ∉ A ∧ H b = some o := by
  unfold cut at h
  by_cases q : b ∈ A
  · rw [if_pos q] at h
    cases h
  · rw [if_neg q] at h
    exact ⟨q, h⟩
theorem cut_of {A : List Addr} {H : Hp} {b : Addr} {o : HO} (q : b ∉ A) (h : H b = some o) : cut A H b = some o := by
  unfold cut
  rw [if_neg q]
  exact h
theorem cut_ext {A : List Addr} {H : Hp} : Ext (cut A H) H := fun _ _ h => (cut_some h).2
/-- all but what is owned stays -/
def Grow (A : List Addr) (H H' : Hp) : Prop := ∀ b o, b ∉ A → H b = some o → H' b = some o
theorem Grow.refl {A : List Addr} {H : Hp} : Grow A H H := fun _ _ _ h => h
theorem Grow.trans {A : List Addr} {H H1 H2 : Hp} (a : Grow A H H1) (b : Grow A H1 H2) : Grow A H H2 := fun x o n h => b x o n (a x o n h)
theorem Grow.cut {A : List Addr} {H H' : Hp} (g : Grow A H H') : Ext (cut A H) (DW.cut A H') := fun b o h => by
  obtain ⟨n, q⟩ := cut_some h
  exact cut_of n (g b o n q)
theorem Grow.new {A : List Addr} {H : Hp} {a : Addr} {o : HO} (h : H a = none) : Grow A H (upd H a o) := fun b u _ e => by
  rw [upd_ne (ne_of_none e h)]
  exact e
theorem cut_sub {A B : List Addr} {H : Hp} (s : ∀ a ∈ B, a ∈ A) : Ext (cut A H) (cut B H) := fun b o h => by
  obtain ⟨n, q⟩ := cut_some h
  exact cut_of (fun z => n (s b z)) q

/-- the pen: the law's draws. Behind at most m draws -/
def penKvs (c : Addr) (at_ digits count fold : Int) : List (Key × V) :=
  [(Sum.inr ("cells" : Str), .ref c), (Sum.inr ("at" : Str), .int at_), (Sum.inr ("digits" : Str), .int digits), (Sum.inr ("count" : Str), .int count), (Sum.inr ("fold" : Str), .int fold)]
structure PenAt (H : Hp) (q c : Addr) (m : Nat) : Prop where
  ex : ∃ (ns : List Int) (i : Nat) (digits count fold : Int), H q = some (.dK (penKvs c i digits count fold)) ∧ H c = some (.lst (ns.map V.int)) ∧ i ≤ ns.length ∧ ns.length ≤ 63 ∧ 0 ≤ digits ∧
    0 ≤ count ∧ count ≤ m ∧ 0 ≤ fold ∧ fold < 2147483587
theorem PenAt.mono {H : Hp} {q c : Addr} {m n : Nat} (h : PenAt H q c m) (l : m ≤ n) : PenAt H q c n := by
  obtain ⟨ns, i, dg, ct, fd, h1, h2, h3, h4, h5, h6, h7, h8⟩ := h.ex
  exact ⟨ns, i, dg, ct, fd, h1, h2, h3, h4, h5, h6, by omega, h8⟩
theorem PenAt.keep {H H' : Hp} {q c : Addr} {m : Nat} (h : PenAt H q c m) (e : Ext H H') : PenAt H' q c m := by
  obtain ⟨ns, i, dg, ct, fd, h1, h2, h3⟩ := h.ex
  exact ⟨ns, i, dg, ct, fd, e _ _ h1, e _ _ h2, h3⟩

/-- what stays fixed through a def's body: the heap at its entry, the pen, what its callers own -/
structure C0 where
  H0 : Hp
  p : Option Addr
  cc : Addr
  A0 : List Addr

/-- a local's content: unset, data, a list of the def's own (it may change) -/
inductive Cell where
  | un
  | dat (d : D)
  | own (ds : List D)
abbrev Env := List Cell

def CellOk (K : PySem.W.Frag) (c : C0) (A : List Addr) (H : Hp) (ρ : DW.Env) (σ : L2.St) (i : Nat) : Cell → Prop
  | .un => True
  | .dat d => ∃ v, σ[i]? = some (some v) ∧ Rep c.p K (cut A H) v d
  | .own ds => ∃ l xs, σ[i]? = some (some (.ref l)) ∧ l ∈ A ∧ l ∉ c.A0 ∧ H l = some (.lst xs) ∧ RepA c.p K (cut A H) xs ds ∧ ∀ j es, j ≠ i → ρ[j]? = some (.own es) → σ[j]? ≠ some (some (.ref l))
/-- behind a step: the entry's objects but the pen are as they were -/
structure Base (K : PySem.W.Frag) (c : C0) (A : List Addr) (m : Nat) (H : Hp) : Prop where
  ex : ∀ b o, c.p ≠ some b → c.H0 b = some o → H b = some o
  pn : ∀ q, c.p = some q → q ∈ c.A0 ∧ c.cc ∈ c.A0 ∧ PenAt H q c.cc m
  sub : ∀ a ∈ c.A0, a ∈ A
  new : ∀ a ∈ A, a ∈ c.A0 ∨ c.H0 a = none
  thr : ∀ a ∈ A, ∃ o, H a = some o
structure Good (K : PySem.W.Frag) (c : C0) (A : List Addr) (ρ : DW.Env) (m : Nat) (σ : L2.St) (H : Hp) : Prop extends Base K c A m H where
  len : ρ.length = σ.length
  cell : ∀ i k, ρ[i]? = some k → CellOk K c A H ρ σ i k

section
variable {K : PySem.W.Frag} {c : C0} {A : List Addr} {ρ : DW.Env} {m m' : Nat} {σ : L2.St} {H H' : Hp}
/-- how the heap grows through an expression: what is not the pen stays -/
def Keep (c : C0) (H H' : Hp) : Prop := ∀ b o, c.p ≠ some b → H b = some o → H' b = some o
theorem Keep.refl : Keep c H H := fun _ _ _ h => h
theorem Keep.trans {H1 H2 : Hp} (a : Keep c H H1) (b : Keep c H1 H2) : Keep c H H2 := fun x o n h => b x o n (a x o n h)
theorem Keep.new {a : Addr} {o : HO} (h : H a = none) : Keep c H (upd H a o) := fun b u _ e => by
  rw [upd_ne (ne_of_none e h)]
  exact e
theorem Keep.ofExt (e : Ext H H') : Keep c H H' := fun b o _ h => e b o h
theorem Keep.grow (B : Base K c A m H) (k : Keep c H H') : Grow A H H' := fun b o n h => k b o (fun e => n (B.sub b (B.pn b e).1)) h
theorem Base.step (B : Base K c A m H) (k : Keep c H H') (pn : ∀ q, c.p = some q → PenAt H' q c.cc m') : Base K c A m' H' :=
  ⟨fun b o n e => k b o n (B.ex b o n e), fun q e => ⟨(B.pn q e).1, (B.pn q e).2.1, pn q e⟩, B.sub, B.new, fun a h => by
    by_cases z : c.p = some a
    · obtain ⟨_, _, _, _, _, h1, _⟩ := (pn a z).ex
      exact ⟨_, h1⟩
    · obtain ⟨o, e⟩ := B.thr a h
      exact ⟨o, k a o z e⟩⟩
theorem Good.step (G : Good K c A ρ m σ H) (k : Keep c H H') (pn : ∀ q, c.p = some q → PenAt H' q c.cc m') : Good K c A ρ m' σ H' := by
  refine ⟨G.toBase.step k pn, G.len, fun i kk e => ?_⟩
  have g := (k.grow G.toBase).cut
  have q := G.cell i kk e
  cases kk with
  | un => trivial
  | dat d =>
    obtain ⟨v, h1, h2⟩ := q
    exact ⟨v, h1, h2.ext g⟩
  | own ds =>
    obtain ⟨l, xs, h1, h2, h3, h4, h5, h6⟩ := q
    refine ⟨l, xs, h1, h2, h3, k l _ (fun z => h3 (G.pn l z).1) h4, h5.ext g, h6⟩
/-- a new object that is no one's -/
theorem Good.fresh (G : Good K c A ρ m σ H) {a : Addr} {o : HO} (h : H a = none) : Good K c A ρ m σ (upd H a o) :=
  G.step (Keep.new h) fun q e => ((G.pn q e).2.2).keep fun b u e => by
    rw [upd_ne (ne_of_none e h)]
    exact e
/-- a new object is owned by none -/
theorem Base.notin (B : Base K c A m H) {a : Addr} (h : H a = none) : a ∉ A := fun z => by
  obtain ⟨o, e⟩ := B.thr a z
  rw [h] at e
  cases e
end
end DW

/-! DW2: the judgements, expressions. -/
namespace DW
open PySem PySem.Spec L2

abbrev WE := DW.Env → Nat → (D → Nat → Prop) → Prop
abbrev WT := DW.Env → Nat → (Bool → Nat → Prop) → Prop
abbrev WA := DW.Env → Nat → (List D → Nat → Prop) → Prop

def RdE (K : PySem.W.Frag) (c : C0) (t : TE) (w : WE) : Prop := ∀ A ρ m σ H, Good K c A ρ m σ H → ∀ (Q : D → Nat → Prop) (Qv : VK), w ρ m Q →
  (∀ v d m' H', Good K c A ρ m' σ H' → Keep c H H' → Rep c.p K (cut A H') v d → Q d m' → Qv v H') → t σ H Qv
def RdT (K : PySem.W.Frag) (c : C0) (t : TT) (w : WT) : Prop := ∀ A ρ m σ H, Good K c A ρ m σ H → ∀ (Q : Bool → Nat → Prop) (Qv : Bool → Hp → Prop), w ρ m Q →
  (∀ b m' H', Good K c A ρ m' σ H' → Keep c H H' → Q b m' → Qv b H') → t σ H Qv
def RdA (K : PySem.W.Frag) (c : C0) (t : TA) (w : WA) : Prop := ∀ A ρ m σ H, Good K c A ρ m σ H → ∀ (Q : List D → Nat → Prop) (Qv : List V → Hp → Prop), w ρ m Q →
  (∀ vs ds m' H', Good K c A ρ m' σ H' → Keep c H H' → RepA c.p K (cut A H') vs ds → Q ds m' → Qv vs H') → t σ H Qv
/-- a new list (one's own) -/
def RdL (K : PySem.W.Frag) (c : C0) (t : TE) (w : WA) : Prop := ∀ A ρ m σ H, Good K c A ρ m σ H → ∀ (Q : List D → Nat → Prop) (Qv : VK), w ρ m Q →
  (∀ a xs ds m' H', Good K c (a :: A) ρ m' σ H' → a ∉ A → H a = none → Keep c H H' → H' a = some (.lst xs) → RepA c.p K (cut (a :: A) H') xs ds → Q ds m' → Qv (.ref a) H') → t σ H Qv

structure DE (X : Cx) (c : C0) (e : Expr) (w : WE) where
  t : TE
  pe : PE X e t
  rd : RdE X.K c t w
structure DT (X : Cx) (c : C0) (e : Expr) (w : WT) where
  t : TT
  pe : PT X e t
  rd : RdT X.K c t w
structure DTw (X : Cx) (c : C0) (e : Expr) (w : WT) where
  t : TT
  pe : PW X e t
  rd : RdT X.K c t w
structure DA (X : Cx) (c : C0) (es : List Expr) (w : WA) where
  t : TA
  pe : PA X es t
  rd : RdA X.K c t w
structure DL (X : Cx) (c : C0) (e : Expr) (w : WA) where
  t : TE
  pe : PE X e t
  rd : RdL X.K c t w

/-! ### what is owned by none any more -/
section
variable {K : PySem.W.Frag} {c : C0} {A : List Addr} {ρ : DW.Env} {m : Nat} {σ : L2.St} {H : Hp} {a : Addr}
theorem Good.drop (G : Good K c (a :: A) ρ m σ H) (sub : ∀ b ∈ c.A0, b ∈ A) (hown : ∀ (i : Nat) (es : List D), ρ[i]? = some (Cell.own es) → σ[i]? ≠ some (some (V.ref a))) : Good K c A ρ m σ H := by
  refine ⟨⟨G.ex, G.pn, sub, fun b h => G.new b (List.mem_cons_of_mem _ h), fun b h => G.thr b (List.mem_cons_of_mem _ h)⟩, G.len, fun i k e => ?_⟩
  have q := G.cell i k e
  have s : Ext (cut (a :: A) H) (cut A H) := cut_sub fun b h => List.mem_cons_of_mem _ h
  cases k with
  | un => trivial
  | dat d =>
    obtain ⟨v, h1, h2⟩ := q
    exact ⟨v, h1, h2.ext s⟩
  | own ds =>
    obtain ⟨l, xs, h1, h2, h3, h4, h5, h6⟩ := q
    refine ⟨l, xs, h1, ?_, h3, h4, h5.ext s, h6⟩
    rcases List.mem_cons.mp h2 with z | z
    · subst z
      exact absurd h1 (hown i ds e)
    · exact z
theorem Good.ownIn (G : Good K c A ρ m σ H) {i : Nat} {es : List D} (e : ρ[i]? = some (Cell.own es)) : ∃ l ∈ A, σ[i]? = some (some (V.ref l)) := by
  obtain ⟨l, xs, h1, h2, _⟩ := G.cell i _ e
  exact ⟨l, h2, h1⟩
/-- a new object, owned by itself -/
theorem Good.take (G : Good K c A ρ m σ H) {o : HO} (h : H a = none) : Good K c (a :: A) ρ m σ (upd H a o) := by
  have G1 : Good K c A ρ m σ (upd H a o) := G.fresh h
  have na : a ∉ A := G.notin h
  refine ⟨⟨G1.ex, G1.pn, fun b hb => List.mem_cons_of_mem _ (G.sub b hb), fun b hb => ?_, fun b hb => ?_⟩, G.len, fun i k e => ?_⟩
  · rcases List.mem_cons.mp hb with z | z
    · subst z
      refine .inr ?_
      cases q : c.H0 b with
      | none => rfl
      | some u =>
        by_cases hp : c.p = some b
        · obtain ⟨_, _, _, _, _, h1, _⟩ := (G.pn b hp).2.2.ex
          rw [h] at h1
          cases h1
        · have := G.ex b u hp q
          rw [h] at this
          cases this
    · exact G.new b z
  · rcases List.mem_cons.mp hb with z | z
    · subst z
      exact ⟨o, upd_same⟩
    · exact G1.thr b z
  · have s : Ext (cut A H) (cut (a :: A) (upd H a o)) := fun b u hb => by
      obtain ⟨n, q⟩ := cut_some hb
      have nb : b ≠ a := ne_of_none q h
      exact cut_of (fun z => (List.mem_cons.mp z).elim nb n) (by rw [upd_ne nb]; exact q)
    have q := G.cell i k e
    cases k with
    | un => trivial
    | dat d =>
      obtain ⟨v, h1, h2⟩ := q
      exact ⟨v, h1, h2.ext s⟩
    | own ds =>
      obtain ⟨l, xs, h1, h2, h3, h4, h5, h6⟩ := q
      exact ⟨l, xs, h1, List.mem_cons_of_mem _ h2, h3, by rw [upd_ne (ne_of_none h4 h)]; exact h4, h5.ext s, h6⟩
end
theorem none_back {K : PySem.W.Frag} {c : C0} {A : List Addr} {ρ : DW.Env} {m1 : Nat} {σ : L2.St} {H H1 : Hp} {a : Addr} (G1 : Good K c A ρ m1 σ H1) (k : Keep c H H1) (h : H1 a = none) : H a = none := by
  cases q : H a with
  | none => rfl
  | some o =>
    by_cases hp : c.p = some a
    · obtain ⟨_, _, _, _, _, h1, _⟩ := (G1.pn a hp).2.2.ex
      rw [h] at h1
      cases h1
    · have := k a o hp q
      rw [h] at this
      cases this
/-- the contents of a list made of what stood before -/
theorem take_ext {A : List Addr} {H : Hp} {a : Addr} {o : HO} (h : H a = none) : Ext (cut A H) (cut (a :: A) (upd H a o)) := fun b u hb => by
  obtain ⟨n, q⟩ := cut_some hb
  have nb : b ≠ a := ne_of_none q h
  exact cut_of (fun z => (List.mem_cons.mp z).elim nb n) (by rw [upd_ne nb]; exact q)

section
variable {X : Cx} {c : C0} {e a b : Expr} {es : List Expr} {wa wb w : WE} {pos : Pos}
/-- a new list, as data -/
def DL.de {w : WA} (h : DL X c e w) : DE X c e (fun ρ m Q => w ρ m fun ds m1 => Q (.lst ds) m1) := by
  obtain ⟨t, ht, r⟩ := h
  refine ⟨t, ht, fun A ρ m σ H G Q Qv hw k => r A ρ m σ H G _ Qv hw fun a xs ds m' H' G' na ha kp ea rep q => ?_⟩
  refine k (.ref a) (.lst ds) m' H' (G'.drop G.sub fun i es ei es' => ?_) kp (.lst (cut_of na ea) (rep.ext (cut_sub fun b h => List.mem_cons_of_mem _ h))) q
  obtain ⟨l, hl, e2⟩ := G.ownIn ei
  rw [e2] at es'
  cases es'
  exact na hl

/-! ### names and constants -/
def wVar (i : Nat) : WE := fun ρ m Q => match ρ[i]? with
  | some (.dat d) => Q d m
  | _ => False
def de_var (i : Nat) {x : Str} {pos : Pos} (hN : X.N[i]? = some x := by rfl) (hv : Vis X.env.scope x := by first | exact Or.inl rfl | exact Or.inr (Or.inl rfl) | exact Or.inr (Or.inr rfl)) (hd : (x == ("__debug__" : Str)) = false := by decide)
    (hcd : (x == ("__classdict__" : Str)) = false := by decide) : DE X c (.Name x pos) (wVar i) := by
  refine ⟨_, pe_var hN hv hd hcd, fun A ρ m σ H G Q Qv hw k => ?_⟩
  unfold wVar at hw
  split at hw
  · rename_i d e
    obtain ⟨v, h1, h2⟩ := G.cell i _ e
    exact ⟨v, h1, k v d m H G Keep.refl h2 hw⟩
  · cases hw
def wC (d : D) : WE := fun _ m Q => Q d m
def de_int {i : Int} {j pos} : DE X c (.Constant (.int i) j pos) (wC (.int i)) := ⟨_, pe_int, fun A ρ m σ H G Q Qv hw k => k _ _ m H G Keep.refl (.int i) hw⟩
def de_bl {b : Bool} {j pos} : DE X c (.Constant (.bool b) j pos) (wC (.bl b)) := ⟨_, pe_bl, fun A ρ m σ H G Q Qv hw k => k _ _ m H G Keep.refl (.bl b) hw⟩
def de_non {j pos} : DE X c (.Constant .none j pos) (wC .non) := ⟨_, pe_non, fun A ρ m σ H G Q Qv hw k => k _ _ m H G Keep.refl .non hw⟩
def de_str {x : Str} {j pos} : DE X c (.Constant (.str x) j pos) (wC (.str x)) := ⟨_, pe_str, fun A ρ m σ H G Q Qv hw k => k _ _ m H G Keep.refl (.str x) hw⟩
/-- a module's constant -/
def de_glob {x : Str} {v : V} {d : D} {u : Value} (hg : Gl X x) (hm : X.mg x = some u) (r : RelV v u) (hd : ∀ H, Rep c.p X.K H v d) (hdb : (x == ("__debug__" : Str)) = false := by decide) : DE X c (.Name x pos) (wC d) :=
  ⟨_, pe_glob hg hm r hdb, fun A ρ m σ H G Q Qv hw k => k _ _ m H G Keep.refl (hd _) hw⟩

/-! ### operators -/
/-- what an operator's reading says of data -/
def RdOp (K : PySem.W.Frag) (c : C0) (r : R2) (f : D → D → (D → Prop) → Prop) : Prop := ∀ A ρ m σ H, Good K c A ρ m σ H → ∀ x y d e, Rep c.p K (cut A H) x d → Rep c.p K (cut A H) y e → ∀ (Q : D → Prop) (Qv : VK), f d e Q →
  (∀ v d' H', Good K c A ρ m σ H' → Keep c H H' → Rep c.p K (cut A H') v d' → Q d' → Qv v H') → r x y H Qv
def wOp (f : D → D → (D → Prop) → Prop) (wa wb : WE) : WE := fun ρ m Q => wa ρ m fun x m1 => wb ρ m1 fun y m2 => f x y fun z => Q z m2
theorem rd_two {K : PySem.W.Frag} {ta tb : TE} (ra : RdE K c ta wa) (rb : RdE K c tb wb) {A : List Addr} {ρ : DW.Env} {m : Nat} {σ : L2.St} {H : Hp} (G : Good K c A ρ m σ H) {Q : D → D → Nat → Prop} {R : V → V → Hp → Prop} (hw : wa ρ m fun x m1 => wb ρ m1 fun y m2 => Q x y m2)
    (k : ∀ x y d e m' H', Good K c A ρ m' σ H' → Keep c H H' → Rep c.p K (cut A H') x d → Rep c.p K (cut A H') y e → Q d e m' → R x y H') : ta σ H fun x H1 => tb σ H1 fun y H2 => R x y H2 := by
  refine ra A ρ m σ H G _ _ hw fun v d m1 H1 G1 k1 r1 q1 => ?_
  refine rb A ρ m1 σ H1 G1 _ _ q1 fun u e m2 H2 G2 k2 r2 q2 => ?_
  exact k v u d e m2 H2 G2 (k1.trans k2) (r1.ext ((k2.grow G1.toBase).cut)) r2 q2
theorem rdE_op {K : PySem.W.Frag} {ta tb : TE} {r : R2} {f : D → D → (D → Prop) → Prop} (ra : RdE K c ta wa) (rb : RdE K c tb wb) (hr : RdOp K c r f) : RdE K c (tOp r ta tb) (wOp f wa wb) := fun A ρ m σ H G Q Qv hw k =>
  rd_two ra rb G hw fun x y d e m' H' G' kp rx ry q => hr A ρ m' σ H' G' x y d e rx ry _ Qv q fun v d' H2 G2 k2 rv q2 => k v d' m' H2 G2 (kp.trans k2) rv q2
def de_binop {op : Operator} {r : R2} {f : D → D → (D → Prop) → Prop} (ho : OpR X (binaryOp op) r) (hr : RdOp X.K c r f) (ha : DE X c a wa) (hb : DE X c b wb) : DE X c (.BinOp a op b pos) (wOp f wa wb) := by
  obtain ⟨ta, pa, ra⟩ := ha
  obtain ⟨tb, pb, rb⟩ := hb
  exact ⟨_, pe_op ho pa pb, rdE_op ra rb hr⟩
def de_cmp {op : CmpOp} {r : R2} {f : D → D → (D → Prop) → Prop} (ho : OpR X (compareOp op) r) (hr : RdOp X.K c r f) (ha : DE X c a wa) (hb : DE X c b wb) (hm : behindInMarks op b = false) : DE X c (.Compare a [op] [b] pos) (wOp f wa wb) := by
  obtain ⟨ta, pa, ra⟩ := ha
  obtain ⟨tb, pb, rb⟩ := hb
  exact ⟨_, pe_cmpR ho pa pb hm, rdE_op ra rb hr⟩
theorem RdOp.or {K : PySem.W.Frag} {r r' : R2} {f f' g : D → D → (D → Prop) → Prop} (h : RdOp K c r f) (h' : RdOp K c r' f') (hg : ∀ d e Q, g d e Q → f d e Q ∨ f' d e Q) : RdOp K c (fun x y H Q => r x y H Q ∨ r' x y H Q) g := fun A ρ m σ H G x y d e rx ry Q Qv hf k => by
  rcases hg d e Q hf with z | z
  · exact .inl (h A ρ m σ H G x y d e rx ry Q Qv z k)
  · exact .inr (h' A ρ m σ H G x y d e rx ry Q Qv z k)
/-- ints in, a flat value out -/
theorem rd_I {K : PySem.W.Frag} {C : Int → Int → Prop} {g : Int → Int → V} {gd : Int → Int → D} (hg : ∀ (p : Option Addr) i j H, Rep p K H (g i j) (gd i j)) {f : D → D → (D → Prop) → Prop} (hf : ∀ d e Q, f d e Q → ∃ i j, d = .int i ∧ e = .int j ∧ C i j ∧ Q (gd i j)) :
    RdOp K c (rI C g) f := fun A ρ m σ H G x y d e rx ry Q Qv h k => by
  obtain ⟨i, j, rfl, rfl, hc, q⟩ := hf d e Q h
  cases rx
  cases ry
  exact ⟨i, j, rfl, rfl, hc, k _ _ H G Keep.refl (hg _ _ _ _) q⟩
theorem rd_I0 {K : PySem.W.Frag} {g : Int → Int → V} {gd : Int → Int → D} (hg : ∀ (p : Option Addr) i j H, Rep p K H (g i j) (gd i j)) {f : D → D → (D → Prop) → Prop} (hf : ∀ d e Q, f d e Q → ∃ i j, d = .int i ∧ e = .int j ∧ Q (gd i j)) :
    RdOp K c (rI0 g) f := fun A ρ m σ H G x y d e rx ry Q Qv h k => by
  obtain ⟨i, j, rfl, rfl, q⟩ := hf d e Q h
  cases rx
  cases ry
  exact ⟨i, j, rfl, rfl, k _ _ H G Keep.refl (hg _ _ _ _) q⟩

def addD : D → D → (D → Prop) → Prop
  | .int i, .int j, Q => Q (.int (i + j))
  | .str a, .str b, Q => a.length + b.length ≤ sizeLine ∧ Q (.str (a ++ b))
  | .lst a, .lst b, Q => a.length + b.length ≤ sizeLine ∧ Q (.lst (a ++ b))
  | .tup a, .tup b, Q => a.length + b.length ≤ sizeLine ∧ Q (.tup (a ++ b))
  | _, _, _ => False
theorem SqT.uncut {K : PySem.W.Frag} {A : List Addr} {H : Hp} {a : Addr} {xs : List V} (h : SqT K (cut A H) a xs) : SqT K H a xs := SqT.ext h cut_ext
theorem Good.freshN {K : PySem.W.Frag} {A : List Addr} {ρ : DW.Env} {m : Nat} {σ : L2.St} {H : Hp} (G : Good K c A ρ m σ H) {q : Addr} (h : H q = none) {o : HO} : cut A (upd H q o) q = some o := cut_of (G.notin h) upd_same
theorem fresh_ext {A : List Addr} {H : Hp} {q : Addr} {o : HO} (h : H q = none) : Ext (cut A H) (cut A (upd H q o)) := fun b u hb => by
  obtain ⟨n, z⟩ := cut_some hb
  exact cut_of n (by rw [upd_ne (ne_of_none z h)]; exact z)
def addL : D → D → (D → Prop) → Prop
  | .lst a, .lst b, Q => a.length + b.length ≤ sizeLine ∧ Q (.lst (a ++ b))
  | _, _, _ => False
def addT : D → D → (D → Prop) → Prop
  | .tup a, .tup b, Q => a.length + b.length ≤ sizeLine ∧ Q (.tup (a ++ b))
  | _, _, _ => False
def addS : D → D → (D → Prop) → Prop
  | .str a, .str b, Q => a.length + b.length ≤ sizeLine ∧ Q (.str (a ++ b))
  | _, _, _ => False
def addI : D → D → (D → Prop) → Prop
  | .int i, .int j, Q => Q (.int (i + j))
  | _, _, _ => False
theorem rd_addI {K : PySem.W.Frag} : RdOp K c (rI0 fun i j => .int (i + j)) addI := rd_I0 (gd := fun i j => .int (i + j)) (fun _ _ _ _ => .int _) fun d e Q h => by
  unfold addI at h
  split at h
  · exact ⟨_, _, rfl, rfl, h⟩
  · cases h
theorem rd_addS {K : PySem.W.Frag} : RdOp K c (fun x y H Q => ∃ i j, x = .str i ∧ y = .str j ∧ i.length + j.length ≤ sizeLine ∧ Q (.str (i ++ j)) H) addS := fun A ρ m σ H G x y d e rx ry Q Qv h k => by
  unfold addS at h
  split at h
  · cases rx
    cases ry
    exact ⟨_, _, rfl, rfl, h.1, k _ _ H G Keep.refl (.str _) h.2⟩
  · cases h
theorem rd_addL {K : PySem.W.Frag} : RdOp K c rCat addL := fun A ρ m σ H G x y d e rx ry Q Qv h k => by
  unfold addL at h
  split at h
  · cases rx with
    | lst h1 r1 =>
      cases ry with
      | lst h2 r2 =>
        refine ⟨_, _, _, _, rfl, rfl, (cut_some h1).2, (cut_some h2).2, ?_, fun p hp => ?_⟩
        · rw [r1.length, r2.length]
          exact h.1
        · exact k _ _ _ (G.fresh hp) (Keep.new hp) (.lst (G.freshN hp) ((r1.append r2).ext (fresh_ext hp))) h.2
  · cases h
theorem rd_addT {K : PySem.W.Frag} : RdOp K c (rCatA K) addT := fun A ρ m σ H G x y d e rx ry Q Qv h k => by
  unfold addT at h
  split at h
  · rename_i ds es
    cases rx with
    | tup h1 r1 =>
      cases ry with
      | tup h2 r2 =>
        rename_i a xs b ys
        refine ⟨a, b, xs, ys, rfl, rfl, SqT.uncut h1, SqT.uncut h2, ?_, fun e => ?_, fun _ e => ?_, fun _ _ p hp => ?_⟩
        · rw [r1.length, r2.length]
          exact h.1
        · subst e
          cases r1
          exact k _ _ H G Keep.refl (.tup h2 r2) (by simpa using h.2)
        · subst e
          cases r2
          exact k _ _ H G Keep.refl (.tup h1 r1) (by simpa using h.2)
        · exact k _ _ _ (G.fresh hp) (Keep.new hp) (.tup (SqT.of (G.freshN hp)) ((r1.append r2).ext (fresh_ext hp))) h.2
  · cases h
def de_add (ha : DE X c a wa) (hb : DE X c b wb) : DE X c (.BinOp a .Add b pos) (wOp addD wa wb) :=
  de_binop (OpR.or (OpR.or op_add op_add_str) (OpR.or op_cat op_catA)) (RdOp.or (RdOp.or rd_addI rd_addS fun _ _ _ h => h) (RdOp.or rd_addL rd_addT fun _ _ _ h => h) (g := addD) (f := fun d e Q => addI d e Q ∨ addS d e Q) (f' := fun d e Q => addL d e Q ∨ addT d e Q) fun d e Q h => by
    unfold addD at h
    split at h
    · exact .inl (.inl h)
    · exact .inl (.inr h)
    · exact .inr (.inl h)
    · exact .inr (.inr h)
    · cases h) ha hb
def subD : D → D → (D → Prop) → Prop
  | .int i, .int j, Q => Q (.int (i - j))
  | _, _, _ => False
def de_sub (ha : DE X c a wa) (hb : DE X c b wb) : DE X c (.BinOp a .Sub b pos) (wOp subD wa wb) := de_binop op_sub (rd_I0 (gd := fun i j => .int (i - j)) (fun _ _ _ _ => .int _) fun d e Q h => by
  unfold subD at h
  split at h
  · exact ⟨_, _, rfl, rfl, h⟩
  · cases h) ha hb
def mulI : D → D → (D → Prop) → Prop
  | .int i, .int j, Q => CMul i j ∧ Q (.int (i * j))
  | _, _, _ => False
def de_mulI (ha : DE X c a wa) (hb : DE X c b wb) : DE X c (.BinOp a .Mult b pos) (wOp mulI wa wb) := de_binop op_mul (rd_I (gd := fun i j => .int (i * j)) (fun _ _ _ _ => .int _) fun d e Q h => by
  unfold mulI at h
  split at h
  · exact ⟨_, _, rfl, rfl, h⟩
  · cases h) ha hb
def modD : D → D → (D → Prop) → Prop
  | .int i, .int j, Q => 0 < j ∧ Q (.int (i % j))
  | _, _, _ => False
def de_mod (ha : DE X c a wa) (hb : DE X c b wb) : DE X c (.BinOp a .Mod b pos) (wOp modD wa wb) := de_binop op_mod (rd_I (gd := fun i j => .int (i % j)) (fun _ _ _ _ => .int _) fun d e Q h => by
  unfold modD at h
  split at h
  · exact ⟨_, _, rfl, rfl, h⟩
  · cases h) ha hb
def fdivD : D → D → (D → Prop) → Prop
  | .int i, .int j, Q => CDiv i j ∧ Q (.int (i / j))
  | _, _, _ => False
def de_fdiv (ha : DE X c a wa) (hb : DE X c b wb) : DE X c (.BinOp a .FloorDiv b pos) (wOp fdivD wa wb) := de_binop op_fdiv (rd_I (gd := fun i j => .int (i / j)) (fun _ _ _ _ => .int _) fun d e Q h => by
  unfold fdivD at h
  split at h
  · exact ⟨_, _, rfl, rfl, h⟩
  · cases h) ha hb
def powD : D → D → (D → Prop) → Prop
  | .int i, .int j, Q => CPow i j ∧ Q (.int (i ^ j.toNat))
  | _, _, _ => False
def de_pow (ha : DE X c a wa) (hb : DE X c b wb) : DE X c (.BinOp a .Pow b pos) (wOp powD wa wb) := de_binop op_pow (rd_I (gd := fun i j => .int (i ^ j.toNat)) (fun _ _ _ _ => .int _) fun d e Q h => by
  unfold powD at h
  split at h
  · exact ⟨_, _, rfl, rfl, h⟩
  · cases h) ha hb
def negD : D → (D → Prop) → Prop
  | .int i, Q => Q (.int (-i))
  | _, _ => False
def wUn (f : D → (D → Prop) → Prop) (wa : WE) : WE := fun ρ m Q => wa ρ m fun x m1 => f x fun z => Q z m1
def de_neg (ha : DE X c a wa) : DE X c (.UnaryOp .USub a pos) (wUn negD wa) := by
  obtain ⟨ta, pa, ra⟩ := ha
  refine ⟨_, pe_un un_neg pa, fun A ρ m σ H G Q Qv hw k => ra A ρ m σ H G _ _ hw fun v d m1 H1 G1 k1 r1 q1 => ?_⟩
  unfold negD at q1
  split at q1
  · cases r1
    exact ⟨_, rfl, k _ _ m1 H1 G1 k1 (.int _) q1⟩
  · cases q1

/-! ### comparisons -/
def cmpD (f : Int → Int → Bool) : D → D → (D → Prop) → Prop
  | .int i, .int j, Q => Q (.bl (f i j))
  | _, _, _ => False
theorem rd_cmp {K : PySem.W.Frag} {f : Int → Int → Bool} : RdOp K c (rI0 fun i j => .bl (f i j)) (cmpD f) := rd_I0 (gd := fun i j => .bl (f i j)) (fun _ _ _ _ => .bl _) fun d e Q h => by
  unfold cmpD at h
  split at h
  · exact ⟨_, _, rfl, rfl, h⟩
  · cases h
abbrev ltD := cmpD fun i j => decide (i < j)
abbrev leD := cmpD fun i j => decide (i ≤ j)
abbrev gtD := cmpD fun i j => decide (j < i)
abbrev geD := cmpD fun i j => decide (j ≤ i)
def de_lt (ha : DE X c a wa) (hb : DE X c b wb) : DE X c (.Compare a [.Lt] [b] pos) (wOp ltD wa wb) := de_cmp op_lt rd_cmp ha hb (nomark _)
def de_le (ha : DE X c a wa) (hb : DE X c b wb) : DE X c (.Compare a [.LtE] [b] pos) (wOp leD wa wb) := de_cmp op_le rd_cmp ha hb (nomark _)
def de_gt (ha : DE X c a wa) (hb : DE X c b wb) : DE X c (.Compare a [.Gt] [b] pos) (wOp gtD wa wb) := de_cmp op_gt rd_cmp ha hb (nomark _)
def de_ge (ha : DE X c a wa) (hb : DE X c b wb) : DE X c (.Compare a [.GtE] [b] pos) (wOp geD wa wb) := de_cmp op_ge rd_cmp ha hb (nomark _)
end
end DW

/-! DW3: tests, ==, calls, displays, subscripts. -/
namespace DW
open PySem PySem.Spec L2

section
variable {X : Cx} {c : C0} {e a b : Expr} {es rest : List Expr} {wa wb w : WE} {ta tb : WT} {pos : Pos}

/-! ### == of plain data -/
mutual
def D.py : D → Option PyData
  | .non => some .none
  | .bl b => some (.bool b)
  | .int i => some (.int i)
  | .str x => some (.str x)
  | .lst ds => (pyAll ds).map .list
  | .tup ds => (pyAll ds).map .tuple
  | _ => none
def pyAll : List D → Option (List PyData)
  | [] => some []
  | d :: ds => match d.py, pyAll ds with
    | some x, some xs => some (x :: xs)
    | _, _ => none
end
mutual
theorem Rep.dp {p : Option Addr} {K : PySem.W.Frag} {A : List Addr} {H : Hp} : ∀ {d : D} {v : V} {q : PyData}, Rep p K (cut A H) v d → d.py = some q → Dp K H v q
  | .non, _, q, .non, e => by
    simp [D.py] at e
    subst e
    exact .non
  | .bl b, _, q, .bl _, e => by
    simp [D.py] at e
    subst e
    exact .bl b
  | .int i, _, q, .int _, e => by
    simp [D.py] at e
    subst e
    exact .int i
  | .str x, _, q, .str _, e => by
    simp [D.py] at e
    subst e
    exact .str x
  | .lst ds, _, q, .lst h r, e => by
    rw [D.py] at e
    cases z : pyAll ds with
    | none =>
      rw [z] at e
      cases e
    | some qs =>
      rw [z] at e
      have e' : PyData.list qs = q := Option.some.inj e
      subst e'
      exact .lst (SqL.of (cut_some h).2) (RepA.dp r z)
  | .tup ds, _, q, .tup h r, e => by
    rw [D.py] at e
    cases z : pyAll ds with
    | none =>
      rw [z] at e
      cases e
    | some qs =>
      rw [z] at e
      have e' : PyData.tuple qs = q := Option.some.inj e
      subst e'
      exact .tup (SqT.uncut h) (RepA.dp r z)
  | .obj _ _, _, q, _, e => by simp [D.py] at e
  | .exc _ _, _, q, _, e => by simp [D.py] at e
  | .pen, _, q, _, e => by simp [D.py] at e
theorem RepA.dp {p : Option Addr} {K : PySem.W.Frag} {A : List Addr} {H : Hp} : ∀ {ds : List D} {vs : List V} {qs : List PyData}, RepA p K (cut A H) vs ds → pyAll ds = some qs → DpAll K H vs qs
  | [], _, qs, .nil, e => by
    simp [pyAll] at e
    subst e
    exact .nil
  | d :: ds, _, qs, .cons h r, e => by
    rw [pyAll] at e
    cases z1 : d.py with
    | none =>
      rw [z1] at e
      cases e
    | some x =>
      cases z2 : pyAll ds with
      | none =>
        rw [z1, z2] at e
        cases e
      | some xs =>
        rw [z1, z2] at e
        have e' : x :: xs = qs := Option.some.inj e
        subst e'
        exact .cons (Rep.dp h z1) (RepA.dp r z2)
end
def eqD (d e : D) (Q : D → Prop) : Prop := ∃ q r, d.py = some q ∧ e.py = some r ∧ SeqAt.shaped q = true ∧ SeqAt.shaped r = true ∧ Q (.bl (PyData.eqv q r))
def neD (d e : D) (Q : D → Prop) : Prop := ∃ q r, d.py = some q ∧ e.py = some r ∧ SeqAt.shaped q = true ∧ SeqAt.shaped r = true ∧ Q (.bl (!PyData.eqv q r))
theorem rd_eq {K : PySem.W.Frag} : RdOp K c (rEqD K) eqD := fun A ρ m σ H G x y d e rx ry Q Qv h k => by
  obtain ⟨q, r, h1, h2, h3, h4, h5⟩ := h
  exact ⟨q, r, rx.dp h1, ry.dp h2, h3, h4, k _ _ H G Keep.refl (.bl _) h5⟩
theorem rd_ne {K : PySem.W.Frag} : RdOp K c (rNeD K) neD := fun A ρ m σ H G x y d e rx ry Q Qv h k => by
  obtain ⟨q, r, h1, h2, h3, h4, h5⟩ := h
  exact ⟨q, r, rx.dp h1, ry.dp h2, h3, h4, k _ _ H G Keep.refl (.bl _) h5⟩
/-- two texts, of any kind -/
def eqS (d e : D) (Q : D → Prop) : Prop := ∃ x y, d = .str x ∧ e = .str y ∧ Q (.bl (decide (x = y)))
def neS (d e : D) (Q : D → Prop) : Prop := ∃ x y, d = .str x ∧ e = .str y ∧ Q (.bl (!decide (x = y)))
theorem str_dec (x y : Str) : decide (V.str x = V.str y) = decide (x = y) := by
  by_cases h : x = y
  · rw [decide_eq_true h, h]
    exact decide_eq_true rfl
  · rw [decide_eq_false h, decide_eq_false fun z => h (V.str.inj z)]
theorem rd_eqS {K : PySem.W.Frag} : RdOp K c rEq eqS := fun A ρ m σ H G x y d e rx ry Q Qv h k => by
  obtain ⟨p, q, rfl, rfl, h5⟩ := h
  cases rx
  cases ry
  exact ⟨rfl, k _ _ H G Keep.refl (.bl _) (by rw [str_dec]; exact h5)⟩
theorem rd_neS {K : PySem.W.Frag} : RdOp K c rNe neS := fun A ρ m σ H G x y d e rx ry Q Qv h k => by
  obtain ⟨p, q, rfl, rfl, h5⟩ := h
  cases rx
  cases ry
  exact ⟨rfl, k _ _ H G Keep.refl (.bl _) (by rw [str_dec]; exact h5)⟩
def eqA (d e : D) (Q : D → Prop) : Prop := eqD d e Q ∨ eqS d e Q
def neA (d e : D) (Q : D → Prop) : Prop := neD d e Q ∨ neS d e Q
def de_eq {k : Nat} (hr : Room k X.A) (ha : DE X c a wa) (hb : DE X c b wb) : DE X c (.Compare a [.Eq] [b] pos) (wOp eqA wa wb) := de_cmp (OpR.or (op_eqD hr.units) op_eq) (RdOp.or rd_eq rd_eqS fun _ _ _ h => h) ha hb (nomark _)
def de_ne {k : Nat} (hr : Room k X.A) (ha : DE X c a wa) (hb : DE X c b wb) : DE X c (.Compare a [.NotEq] [b] pos) (wOp neA wa wb) := de_cmp (OpR.or (op_neD hr.units) op_ne) (RdOp.or rd_ne rd_neS fun _ _ _ h => h) ha hb (nomark _)
/-- x is None -/
def D.isNon : D → Bool
  | .non => true
  | _ => false
def isND (f : Bool → Bool) : D → (D → Prop) → Prop := fun d Q => Q (.bl (f d.isNon))
theorem rep_non {p : Option Addr} {K : PySem.W.Frag} {H : Hp} {v : V} {d : D} (r : Rep p K H v d) : decide (v = .non) = d.isNon := by
  cases r <;> first | rfl | (exact decide_eq_false (fun z => nomatch z))
def de_isN {j pos'} (ha : DE X c a wa) : DE X c (.Compare a [.Is] [.Constant .none j pos'] pos) (wUn (isND id) wa) := by
  obtain ⟨t, pa, ra⟩ := ha
  refine ⟨_, pe_cmp (pc_isN pa) rfl, fun A ρ m σ H G Q Qv hw k => ra A ρ m σ H G _ _ hw fun v d m1 H1 G1 k1 r1 q1 => ?_⟩
  refine k _ (.bl (decide (v = .non))) m1 H1 G1 k1 (.bl _) ?_
  rw [rep_non r1]
  exact q1
def de_notN {j pos'} (ha : DE X c a wa) : DE X c (.Compare a [.IsNot] [.Constant .none j pos'] pos) (wUn (isND not) wa) := by
  obtain ⟨t, pa, ra⟩ := ha
  refine ⟨_, pe_cmp (pc_notN pa) rfl, fun A ρ m σ H G Q Qv hw k => ra A ρ m σ H G _ _ hw fun v d m1 H1 G1 k1 r1 q1 => ?_⟩
  refine k _ (.bl (!decide (v = .non))) m1 H1 G1 k1 (.bl _) ?_
  rw [rep_non r1]
  exact q1

/-! ### tests -/
def wTest (wa : WE) : WT := fun ρ m Q => wa ρ m fun d m1 => match d with
  | .bl b => Q b m1
  | _ => False
theorem rdT_test {K : PySem.W.Frag} {t : TE} (ra : RdE K c t wa) : RdT K c (tB t) (wTest wa) := fun A ρ m σ H G Q Qv hw k => ra A ρ m σ H G _ _ hw fun v d m1 H1 G1 k1 r1 q1 => by
  cases d <;> first | (exact False.elim q1) | skip
  cases r1
  exact ⟨_, rfl, k _ m1 H1 G1 k1 q1⟩
/-- a comparison as a test -/
def dt_cmp {op : CmpOp} {r : R2} {f : D → D → (D → Prop) → Prop} (ho : OpR X (compareOp op) r) (hr : RdOp X.K c r f) (ha : DE X c a wa) (hb : DE X c b wb) (hm : behindInMarks op b = false) : DT X c (.Compare a [op] [b] pos) (wTest (wOp f wa wb)) := by
  obtain ⟨ta, pa, ra⟩ := ha
  obtain ⟨tb, pb, rb⟩ := hb
  exact ⟨_, pt_cmpR ho pa pb hm, rdT_test (rdE_op ra rb hr)⟩
def dt_lt (ha : DE X c a wa) (hb : DE X c b wb) : DT X c (.Compare a [.Lt] [b] pos) (wTest (wOp ltD wa wb)) := dt_cmp op_lt rd_cmp ha hb (nomark _)
def dt_le (ha : DE X c a wa) (hb : DE X c b wb) : DT X c (.Compare a [.LtE] [b] pos) (wTest (wOp leD wa wb)) := dt_cmp op_le rd_cmp ha hb (nomark _)
def dt_gt (ha : DE X c a wa) (hb : DE X c b wb) : DT X c (.Compare a [.Gt] [b] pos) (wTest (wOp gtD wa wb)) := dt_cmp op_gt rd_cmp ha hb (nomark _)
def dt_ge (ha : DE X c a wa) (hb : DE X c b wb) : DT X c (.Compare a [.GtE] [b] pos) (wTest (wOp geD wa wb)) := dt_cmp op_ge rd_cmp ha hb (nomark _)
def dt_eq {k : Nat} (hr : Room k X.A) (ha : DE X c a wa) (hb : DE X c b wb) : DT X c (.Compare a [.Eq] [b] pos) (wTest (wOp eqA wa wb)) := dt_cmp (OpR.or (op_eqD hr.units) op_eq) (RdOp.or rd_eq rd_eqS fun _ _ _ h => h) ha hb (nomark _)
def dt_ne {k : Nat} (hr : Room k X.A) (ha : DE X c a wa) (hb : DE X c b wb) : DT X c (.Compare a [.NotEq] [b] pos) (wTest (wOp neA wa wb)) := dt_cmp (OpR.or (op_neD hr.units) op_ne) (RdOp.or rd_ne rd_neS fun _ _ _ h => h) ha hb (nomark _)
def dt_isN {j pos'} (ha : DE X c a wa) : DT X c (.Compare a [.Is] [.Constant .none j pos'] pos) (wTest (wUn (isND id) wa)) := by
  obtain ⟨t, pa, ra⟩ := ha
  refine ⟨_, pt_cmp (pc_isN pa) rfl, rdT_test fun A ρ m σ H G Q Qv hw k => ra A ρ m σ H G _ _ hw fun v d m1 H1 G1 k1 r1 q1 => ?_⟩
  refine k _ (.bl (decide (v = .non))) m1 H1 G1 k1 (.bl _) ?_
  rw [rep_non r1]
  exact q1
def dt_notN {j pos'} (ha : DE X c a wa) : DT X c (.Compare a [.IsNot] [.Constant .none j pos'] pos) (wTest (wUn (isND not) wa)) := by
  obtain ⟨t, pa, ra⟩ := ha
  refine ⟨_, pt_cmp (pc_notN pa) rfl, rdT_test fun A ρ m σ H G Q Qv hw k => ra A ρ m σ H G _ _ hw fun v d m1 H1 G1 k1 r1 q1 => ?_⟩
  refine k _ (.bl (!decide (v = .non))) m1 H1 G1 k1 (.bl _) ?_
  rw [rep_non r1]
  exact q1
/-- any expression whose value is a truth value, as a test -/
def dt_val (ha : DE X c e wa) (he : ∀ whole, isTrue e X.env whole = (do let v ← whole; standAt e.pos; holding [v] (truthy v)) := by intro _; rfl) : DT X c e (wTest wa) := by
  obtain ⟨t, pa, ra⟩ := ha
  exact ⟨_, pt_val pa he, rdT_test ra⟩
/-- .. by its truth -/
def truD : D → Option Bool
  | .non => some false
  | .bl b => some b
  | .int i => some (i != 0)
  | .lst ds => some (!ds.isEmpty)
  | .tup ds => some (!ds.isEmpty)
  | _ => none
def wTruth (wa : WE) : WT := fun ρ m Q => wa ρ m fun d m1 => match truD d with
  | some b => Q b m1
  | none => False
theorem tru_of {K : PySem.W.Frag} {p : Option Addr} {A : List Addr} {H : Hp} {v : V} {d : D} {k : Bool} (r : Rep p K (cut A H) v d) (h : truD d = some k) : TruV K v H k := by
  cases r with
  | non =>
    cases h
    rfl
  | bl b =>
    cases h
    rfl
  | int i =>
    cases h
    rfl
  | str x => cases h
  | lst h1 r1 =>
    cases h
    refine .inl ⟨_, SqL.of (cut_some h1).2, ?_⟩
    have := r1.length
    cases r1 <;> rfl
  | tup h1 r1 =>
    cases h
    refine .inr (.inl ⟨_, SqT.uncut h1, ?_⟩)
    cases r1 <;> rfl
  | obj _ _ => cases h
  | exc _ _ _ => cases h
  | exc0 _ => cases h
  | pen _ => cases h
def dt_truth (ha : DE X c a wa) (he : ∀ whole, isTrue a X.env whole = (do let v ← whole; standAt a.pos; holding [v] (truthy v)) := by intro _; rfl) : DT X c a (wTruth wa) := by
  obtain ⟨t, pa, ra⟩ := ha
  refine ⟨_, pt_truth pa he, fun A ρ m σ H G Q Qv hw k => ra A ρ m σ H G _ _ hw fun v d m1 H1 G1 k1 r1 q1 => ?_⟩
  split at q1
  · rename_i b hb
    exact ⟨b, tru_of r1 hb, k b m1 H1 G1 k1 q1⟩
  · cases q1
def wNot (t : WT) : WT := fun ρ m Q => t ρ m fun b m1 => Q (!b) m1
def dt_not (ha : DT X c a ta) : DT X c (.UnaryOp .Not a pos) (wNot ta) := by
  obtain ⟨t, pa, ra⟩ := ha
  exact ⟨_, pt_not pa, fun A ρ m σ H G Q Qv hw k => ra A ρ m σ H G _ _ hw fun b m1 H1 G1 k1 q1 => k _ m1 H1 G1 k1 q1⟩
def wAnd (t u : WT) : WT := fun ρ m Q => t ρ m fun b m1 => if b = true then u ρ m1 Q else Q false m1
def wOr (t u : WT) : WT := fun ρ m Q => t ρ m fun b m1 => if b = true then Q true m1 else u ρ m1 Q
def dtw_and1 (ha : DT X c a ta) : DTw X c (.BoolOp .And [a] pos) ta := by
  obtain ⟨t, pa, ra⟩ := ha
  exact ⟨_, pw_and1 pa, ra⟩
def dtw_or1 (ha : DT X c a ta) : DTw X c (.BoolOp .Or [a] pos) ta := by
  obtain ⟨t, pa, ra⟩ := ha
  exact ⟨_, pw_or1 pa, ra⟩
def dtw_and (ha : DT X c a ta) (hb : DTw X c (.BoolOp .And (b :: rest) pos) tb) : DTw X c (.BoolOp .And (a :: b :: rest) pos) (wAnd ta tb) := by
  obtain ⟨t, pa, ra⟩ := ha
  obtain ⟨u, pb, rb⟩ := hb
  refine ⟨_, pw_and pa pb, fun A ρ m σ H G Q Qv hw k => ra A ρ m σ H G _ _ hw fun b m1 H1 G1 k1 q1 => ?_⟩
  cases b with
  | true => exact rb A ρ m1 σ H1 G1 _ _ q1 fun b2 m2 H2 G2 k2 q2 => k b2 m2 H2 G2 (k1.trans k2) q2
  | false => exact k false m1 H1 G1 k1 q1
def dtw_or (ha : DT X c a ta) (hb : DTw X c (.BoolOp .Or (b :: rest) pos) tb) : DTw X c (.BoolOp .Or (a :: b :: rest) pos) (wOr ta tb) := by
  obtain ⟨t, pa, ra⟩ := ha
  obtain ⟨u, pb, rb⟩ := hb
  refine ⟨_, pw_or pa pb, fun A ρ m σ H G Q Qv hw k => ra A ρ m σ H G _ _ hw fun b m1 H1 G1 k1 q1 => ?_⟩
  cases b with
  | true => exact k true m1 H1 G1 k1 q1
  | false => exact rb A ρ m1 σ H1 G1 _ _ q1 fun b2 m2 H2 G2 k2 q2 => k b2 m2 H2 G2 (k1.trans k2) q2
def DTw.dt (h : DTw X c e ta) : DT X c e ta := by
  obtain ⟨t, pa, ra⟩ := h
  exact ⟨t, pa.pt, ra⟩
/-! ### and, or, not of truth values; a if t else b -/
def wAndV (wa wb : WE) : WE := fun ρ m Q => wa ρ m fun d m1 => match d with
  | .bl b => if b = true then wb ρ m1 Q else Q (.bl false) m1
  | _ => False
def wOrV (wa wb : WE) : WE := fun ρ m Q => wa ρ m fun d m1 => match d with
  | .bl b => if b = true then Q (.bl true) m1 else wb ρ m1 Q
  | _ => False
def de_one {op} (ha : DE X c a wa) : DE X c (.BoolOp op [a] pos) wa := by
  obtain ⟨t, pa, ra⟩ := ha
  exact ⟨_, pe_one pa, ra⟩
def de_and (ha : DE X c a wa) (hb : DE X c (.BoolOp .And (b :: rest) pos) wb) : DE X c (.BoolOp .And (a :: b :: rest) pos) (wAndV wa wb) := by
  obtain ⟨t, pa, ra⟩ := ha
  obtain ⟨u, pb, rb⟩ := hb
  refine ⟨_, pe_and pa pb, fun A ρ m σ H G Q Qv hw k => ra A ρ m σ H G _ _ hw fun v d m1 H1 G1 k1 r1 q1 => ?_⟩
  cases d <;> first | (exact False.elim q1) | skip
  rename_i bb
  cases r1
  refine ⟨bb, rfl, ?_⟩
  cases bb with
  | true => exact rb A ρ m1 σ H1 G1 _ _ q1 fun v2 d2 m2 H2 G2 k2 r2 q2 => k v2 d2 m2 H2 G2 (k1.trans k2) r2 q2
  | false => exact k _ _ m1 H1 G1 k1 (.bl false) q1
def de_or (ha : DE X c a wa) (hb : DE X c (.BoolOp .Or (b :: rest) pos) wb) : DE X c (.BoolOp .Or (a :: b :: rest) pos) (wOrV wa wb) := by
  obtain ⟨t, pa, ra⟩ := ha
  obtain ⟨u, pb, rb⟩ := hb
  refine ⟨_, pe_or pa pb, fun A ρ m σ H G Q Qv hw k => ra A ρ m σ H G _ _ hw fun v d m1 H1 G1 k1 r1 q1 => ?_⟩
  cases d <;> first | (exact False.elim q1) | skip
  rename_i bb
  cases r1
  refine ⟨bb, rfl, ?_⟩
  cases bb with
  | true => exact k _ _ m1 H1 G1 k1 (.bl true) q1
  | false => exact rb A ρ m1 σ H1 G1 _ _ q1 fun v2 d2 m2 H2 G2 k2 r2 q2 => k v2 d2 m2 H2 G2 (k1.trans k2) r2 q2
def notD : D → (D → Prop) → Prop
  | .bl b, Q => Q (.bl (!b))
  | _, _ => False
def de_not (ha : DE X c a wa) : DE X c (.UnaryOp .Not a pos) (wUn notD wa) := by
  obtain ⟨t, pa, ra⟩ := ha
  refine ⟨_, pe_not pa, fun A ρ m σ H G Q Qv hw k => ra A ρ m σ H G _ _ hw fun v d m1 H1 G1 k1 r1 q1 => ?_⟩
  cases d <;> first | (exact False.elim q1) | skip
  rename_i bb
  cases r1
  exact ⟨bb, rfl, k _ _ m1 H1 G1 k1 (.bl _) q1⟩
def wIf (t : WT) (wa wb : WE) : WE := fun ρ m Q => t ρ m fun b m1 => if b = true then wa ρ m1 Q else wb ρ m1 Q
def de_ifExp {t : Expr} {wt : WT} (ht : DT X c t wt) (ha : DE X c a wa) (hb : DE X c b wb) : DE X c (.IfExp t a b pos) (wIf wt wa wb) := by
  obtain ⟨tt, pt, rt⟩ := ht
  obtain ⟨ta, pa, ra⟩ := ha
  obtain ⟨tb, pb, rb⟩ := hb
  refine ⟨_, pe_ifExp pt pa pb, fun A ρ m σ H G Q Qv hw k => rt A ρ m σ H G _ _ hw fun b m1 H1 G1 k1 q1 => ?_⟩
  cases b with
  | true => exact ra A ρ m1 σ H1 G1 _ _ q1 fun v2 d2 m2 H2 G2 k2 r2 q2 => k v2 d2 m2 H2 G2 (k1.trans k2) r2 q2
  | false => exact rb A ρ m1 σ H1 G1 _ _ q1 fun v2 d2 m2 H2 G2 k2 r2 q2 => k v2 d2 m2 H2 G2 (k1.trans k2) r2 q2

/-! ### arguments, displays -/
def wNil : WA := fun _ m Q => Q [] m
def wCons (wa : WE) (wr : WA) : WA := fun ρ m Q => wa ρ m fun d m1 => wr ρ m1 fun ds m2 => Q (d :: ds) m2
def da_nil : DA X c [] wNil := ⟨_, pa_nil, fun A ρ m σ H G Q Qv hw k => k [] [] m H G Keep.refl .nil hw⟩
def da_cons {wr : WA} (ha : DE X c e wa) (hr : DA X c es wr) (hs : starEach (e :: es) X.env = (false, eval e X.env) :: starEach es X.env := by rfl) : DA X c (e :: es) (wCons wa wr) := by
  obtain ⟨t, pa, ra⟩ := ha
  obtain ⟨tr, pr, rr⟩ := hr
  refine ⟨_, pa_cons pa pr hs, fun A ρ m σ H G Q Qv hw k => ra A ρ m σ H G _ _ hw fun v d m1 H1 G1 k1 r1 q1 => ?_⟩
  exact rr A ρ m1 σ H1 G1 _ _ q1 fun vs ds m2 H2 G2 k2 r2 q2 => k (v :: vs) (d :: ds) m2 H2 G2 (k1.trans k2) (.cons (r1.ext (k2.grow G1.toBase).cut) r2) q2
def wTup (wr : WA) : WE := fun ρ m Q => wr ρ m fun ds m1 => ds.length ≤ sizeLine ∧ Q (.tup ds) m1
def de_tup {wr : WA} {x1} (hr : DA X c es wr) : DE X c (.Tuple es x1 pos) (wTup wr) := by
  obtain ⟨tr, pr, rr⟩ := hr
  refine ⟨_, pe_tup pr, fun A ρ m σ H G Q Qv hw k => rr A ρ m σ H G _ _ hw fun vs ds m1 H1 G1 k1 r1 q1 => ?_⟩
  refine ⟨by rw [r1.length]; exact q1.1, fun p hp => k _ _ m1 _ (G1.fresh hp) (k1.trans (Keep.new hp)) (.tup (SqT.of (G1.freshN hp)) (r1.ext (fresh_ext hp))) q1.2⟩
/-- a new list of these contents -/
theorem fresh_list {K : PySem.W.Frag} {A : List Addr} {ρ : DW.Env} {m : Nat} {σ : L2.St} {H : Hp} (G : Good K c A ρ m σ H) {q : Addr} (hq : H q = none) {xs : List V} {ds : List D} (r : RepA c.p K (cut A H) xs ds) :
    Good K c (q :: A) ρ m σ (upd H q (.lst xs)) ∧ q ∉ A ∧ Keep c H (upd H q (.lst xs)) ∧ (upd H q (.lst xs)) q = some (.lst xs) ∧ RepA c.p K (cut (q :: A) (upd H q (.lst xs))) xs ds :=
  ⟨G.take hq, G.notin hq, Keep.new hq, upd_same, r.ext (take_ext hq)⟩
def wLst (wr : WA) : WA := fun ρ m Q => wr ρ m fun ds m1 => ds.length ≤ sizeLine ∧ Q ds m1
def dl_lst {wr : WA} (hr : DA X c es wr) : DL X c (.List es pos) (wLst wr) := by
  obtain ⟨tr, pr, rr⟩ := hr
  refine ⟨_, pe_lst pr, fun A ρ m σ H G Q Qv hw k => rr A ρ m σ H G _ _ hw fun vs ds m1 H1 G1 k1 r1 q1 => ?_⟩
  refine ⟨by rw [r1.length]; exact q1.1, fun p hp => ?_⟩
  obtain ⟨g1, g2, g3, g4, g5⟩ := fresh_list G1 hp r1
  exact k p vs ds m1 _ g1 g2 (none_back G1 k1 hp) (k1.trans g3) g4 g5 q1.2
def de_lst {wr : WA} (hr : DA X c es wr) : DE X c (.List es pos) (fun ρ m Q => wLst wr ρ m fun ds m1 => Q (.lst ds) m1) := (dl_lst hr).de

/-! ### calls of one's own defs -/
abbrev FW := List D → Nat → (D → Nat → Prop) → Prop
/-- a def's promise, by data -/
def spD (K : PySem.W.Frag) (fw : FW) : Sp := fun vs H Q _ => ∃ (p : Option Addr) (cc : Addr) (A : List Addr) (ds : List D) (m : Nat) (R : D → Nat → Prop), RepA p K (cut A H) vs ds ∧ (∀ q, p = some q → q ∈ A ∧ cc ∈ A ∧ PenAt H q cc m) ∧ (∀ a ∈ A, ∃ o, H a = some o) ∧ fw ds m R ∧
  ∀ v d m' H', (∀ b o, p ≠ some b → H b = some o → H' b = some o) → (∀ q, p = some q → PenAt H' q cc m') → Rep p K (cut A H') v d → R d m' → Q v H'
/-- a def that keeps it -/
structure DFn (g : Bool) (P : Program) (w : World) (K : PySem.W.Frag) (mg : Str → Option Value) (base : Heap) (k : Nat) (x : Str) (fw : FW) : Prop where
  ex : ∃ (f : Addr) (fd : FuncData) (ps : List Str), FnG g P w K mg base CX0 k f fd ps (spD K fw) ∧ mg x = some (.ref f) ∧ PySem.W.keepIn K (.ref f) = true ∧ Binds K fd ps []
def wCall (fw : FW) (wr : WA) : WE := fun ρ m Q => wr ρ m fun ds m1 => fw ds m1 Q
theorem rd_call {K : PySem.W.Frag} {fw : FW} {t : TA} {wr : WA} {E : XK} (rr : RdA K c t wr) : RdE K c (tCall (spD K fw) [] E t) (wCall fw wr) := fun A ρ m σ H G Q Qv hw k => by
  refine rr A ρ m σ H G _ _ hw fun vs ds m1 H1 G1 k1 r1 q1 => ?_
  refine ⟨c.p, c.cc, A, ds, m1, Q, by rw [List.append_nil]; exact r1, fun q e => ⟨G1.sub _ (G1.pn q e).1, G1.sub _ (G1.pn q e).2.1, (G1.pn q e).2.2⟩, G1.thr, q1, fun v d m' H' kp pn rep q => ?_⟩
  exact k v d m' H' (G1.step kp pn) (k1.trans kp) rep q
def de_call {g : Bool} {j k : Nat} {x : Str} {p : Pos} {fw : FW} {wr : WA} (F : DFn g X.prog X.w X.K X.mg X.base k x fw) (hr : Room j X.A) (hgs : g = true → X.A.guards = some []) (hk : k ≤ j) (hg : Gl X x) (ha : DA X c (e :: es) wr)
    (hdb : (x == ("__debug__" : Str)) = false := by decide) (he : starEach (e :: es) X.env = (false, eval e X.env) :: starEach es X.env := by rfl) (hpl : (backTo pos (starEach es X.env)).any (·.1) = false := by rfl) : DE X c (.Call (.Name x p) (e :: es) [] pos) (wCall fw wr) := by
  obtain ⟨t, pa, ra⟩ := ha
  exact ⟨tCall (spD X.K fw) [] E0 t, by
    obtain ⟨f, fd, ps, h1, h2, h3, h4⟩ := F.ex
    exact pe_callG (E := E0) h1 (hr.mono hk) hgs hg h2 h3 h4 pass0 pa hdb he hpl, rd_call ra⟩
def de_call0 {g : Bool} {j k : Nat} {x : Str} {p : Pos} {fw : FW} (F : DFn g X.prog X.w X.K X.mg X.base k x fw) (hr : Room j X.A) (hgs : g = true → X.A.guards = some []) (hk : k ≤ j) (hg : Gl X x) (hdb : (x == ("__debug__" : Str)) = false := by decide) : DE X c (.Call (.Name x p) [] [] pos) (wCall fw wNil) := by
  exact ⟨tCall (spD X.K fw) [] E0 tNil, by
    obtain ⟨f, fd, ps, h1, h2, h3, h4⟩ := F.ex
    exact pe_callG0 (E := E0) h1 (hr.mono hk) hgs hg h2 h3 h4 pass0 hdb, rd_call (wr := wNil) fun A ρ m σ H G Q Qv hw k => k [] [] m H G Keep.refl .nil hw⟩

/-! ### calls of built-ins -/
def RdC (K : PySem.W.Frag) (c : C0) (r : List V → Hp → VK → Prop) (f : List D → (D → Prop) → Prop) : Prop := ∀ A ρ m σ H, Good K c A ρ m σ H → ∀ vs ds, RepA c.p K (cut A H) vs ds → ∀ (Q : D → Prop) (Qv : VK), f ds Q →
  (∀ v d' H', Good K c A ρ m σ H' → Keep c H H' → Rep c.p K (cut A H') v d' → Q d' → Qv v H') → r vs H Qv
def wB (f : List D → (D → Prop) → Prop) (wr : WA) : WE := fun ρ m Q => wr ρ m fun ds m1 => f ds fun z => Q z m1
theorem rd_cb {K : PySem.W.Frag} {r : List V → Hp → VK → Prop} {f : List D → (D → Prop) → Prop} {t : TA} {wr : WA} (hr : RdC K c r f) (rr : RdA K c t wr) : RdE K c (tCB r t) (wB f wr) := fun A ρ m σ H G Q Qv hw k => by
  refine rr A ρ m σ H G _ _ hw fun vs ds m1 H1 G1 k1 r1 q1 => ?_
  exact hr A ρ m1 σ H1 G1 vs ds r1 _ Qv q1 fun v d' H2 G2 k2 r2 q2 => k v d' m1 H2 G2 (k1.trans k2) r2 q2
def de_callB {x : Str} {id : String} {p : Pos} {r : List V → Hp → VK → Prop} {f : List D → (D → Prop) → Prop} {wr : WA} (hc : CallR X (.builtin id) r) (hr : RdC X.K c r f) (hg : Gl X x) (hm : X.mg x = none) (hv : bootBuiltins x = some (.builtin id)) (ha : DA X c (e :: es) wr) (hn : x ≠ "__name__" := by decide) (hdb : (x == ("__debug__" : Str)) = false := by decide)
    (he : starEach (e :: es) X.env = (false, eval e X.env) :: starEach es X.env := by rfl) (hpl : (backTo pos (starEach es X.env)).any (·.1) = false := by rfl) : DE X c (.Call (.Name x p) (e :: es) [] pos) (wB f wr) := by
  obtain ⟨t, pa, ra⟩ := ha
  exact ⟨_, pe_callB hc hg hm hv pa hn hdb he hpl, rd_cb hr ra⟩
def de_callTy {x : Str} {T : String} {p : Pos} {r : List V → Hp → VK → Prop} {f : List D → (D → Prop) → Prop} {wr : WA} (hc : CallR X (.type T) r) (hr : RdC X.K c r f) (hg : Gl X x) (hm : X.mg x = none) (hv : bootBuiltins x = some (.type T)) (ha : DA X c (e :: es) wr) (hn : x ≠ "__name__" := by decide) (hdb : (x == ("__debug__" : Str)) = false := by decide)
    (he : starEach (e :: es) X.env = (false, eval e X.env) :: starEach es X.env := by rfl) (hpl : (backTo pos (starEach es X.env)).any (·.1) = false := by rfl) : DE X c (.Call (.Name x p) (e :: es) [] pos) (wB f wr) := by
  obtain ⟨t, pa, ra⟩ := ha
  exact ⟨_, pe_callTy hc hg hm hv pa hn hdb he hpl, rd_cb hr ra⟩
theorem repA1 {p : Option Addr} {K : PySem.W.Frag} {H : Hp} {vs : List V} {d : D} (r : RepA p K H vs [d]) : ∃ v, vs = [v] ∧ Rep p K H v d := by
  cases r with
  | cons h t =>
    cases t
    exact ⟨_, rfl, h⟩
theorem repA2 {p : Option Addr} {K : PySem.W.Frag} {H : Hp} {vs : List V} {d e : D} (r : RepA p K H vs [d, e]) : ∃ v u, vs = [v, u] ∧ Rep p K H v d ∧ Rep p K H u e := by
  cases r with
  | cons h t =>
    obtain ⟨u, rfl, h2⟩ := repA1 t
    exact ⟨_, u, rfl, h, h2⟩
def lenD : List D → (D → Prop) → Prop
  | [.lst ds], Q => Q (.int ds.length)
  | [.tup ds], Q => Q (.int ds.length)
  | [.str x], Q => x.length ≤ sizeLine ∧ Q (.int x.length)
  | _, _ => False
theorem rd_len {K : PySem.W.Frag} : RdC K c (fun xs H Q => ∃ x n, xs = [x] ∧ LenV K x H n ∧ Q (.int n) H) lenD := fun A ρ m σ H G vs ds r Q Qv h k => by
  unfold lenD at h
  split at h
  · obtain ⟨v, rfl, rv⟩ := repA1 r
    cases rv with
    | lst h1 r1 => exact ⟨_, _, rfl, .inl ⟨_, SqL.of (cut_some h1).2, r1.length.symm⟩, k _ _ H G Keep.refl (.int _) h⟩
  · obtain ⟨v, rfl, rv⟩ := repA1 r
    cases rv with
    | tup h1 r1 => exact ⟨_, _, rfl, .inr ⟨_, SqT.uncut h1, r1.length.symm⟩, k _ _ H G Keep.refl (.int _) h⟩
  · obtain ⟨v, rfl, rv⟩ := repA1 r
    cases rv
    exact ⟨_, _, rfl, ⟨h.1, rfl⟩, k _ _ H G Keep.refl (.int _) h.2⟩
  · cases h
def intD : List D → (D → Prop) → Prop
  | [.int i], Q => Q (.int i)
  | _, _ => False
theorem rd_int {K : PySem.W.Frag} : RdC K c (fun xs H Q => (∃ i, xs = [.int i] ∧ Q (.int i) H) ∨ ∃ k, xs = [.bl k] ∧ Q (.int (if k then 1 else 0)) H) intD := fun A ρ m σ H G vs ds r Q Qv h k => by
  unfold intD at h
  split at h
  · obtain ⟨v, rfl, rv⟩ := repA1 r
    cases rv
    exact .inl ⟨_, rfl, k _ _ H G Keep.refl (.int _) h⟩
  · cases h
def absD : List D → (D → Prop) → Prop
  | [.int i], Q => Q (.int (if i < 0 then -i else i))
  | _, _ => False
theorem rd_abs {K : PySem.W.Frag} : RdC K c (fun xs H Q => ∃ i, xs = [.int i] ∧ Q (.int (if i < 0 then -i else i)) H) absD := fun A ρ m σ H G vs ds r Q Qv h k => by
  unfold absD at h
  split at h
  · obtain ⟨v, rfl, rv⟩ := repA1 r
    cases rv
    exact ⟨_, rfl, k _ _ H G Keep.refl (.int _) h⟩
  · cases h
def strD : List D → (D → Prop) → Prop
  | [.int i], Q => i.natAbs.log2 < 1920 ∧ Q (.str (toString i))
  | _, _ => False
theorem rd_str {K : PySem.W.Frag} : RdC K c (fun xs H Q => ∃ i, xs = [.int i] ∧ i.natAbs.log2 < 1920 ∧ Q (.str (toString i)) H) strD := fun A ρ m σ H G vs ds r Q Qv h k => by
  unfold strD at h
  split at h
  · obtain ⟨v, rfl, rv⟩ := repA1 r
    cases rv
    exact ⟨_, rfl, h.1, k _ _ H G Keep.refl (.str _) h.2⟩
  · cases h
def maxD : List D → (D → Prop) → Prop
  | [.int i, .int j], Q => Q (.int (if j > i then j else i))
  | _, _ => False
theorem rd_max {K : PySem.W.Frag} : RdC K c (fun xs H Q => ∃ i j, xs = [.int i, .int j] ∧ Q (.int (if j > i then j else i)) H) maxD := fun A ρ m σ H G vs ds r Q Qv h k => by
  unfold maxD at h
  split at h
  · obtain ⟨v, u, rfl, rv, r2⟩ := repA2 r
    cases rv
    cases r2
    exact ⟨_, _, rfl, k _ _ H G Keep.refl (.int _) h⟩
  · cases h
def minD : List D → (D → Prop) → Prop
  | [.int i, .int j], Q => Q (.int (if j < i then j else i))
  | _, _ => False
theorem rd_min {K : PySem.W.Frag} : RdC K c (fun xs H Q => ∃ i j, xs = [.int i, .int j] ∧ Q (.int (if j < i then j else i)) H) minD := fun A ρ m σ H G vs ds r Q Qv h k => by
  unfold minD at h
  split at h
  · obtain ⟨v, u, rfl, rv, r2⟩ := repA2 r
    cases rv
    cases r2
    exact ⟨_, _, rfl, k _ _ H G Keep.refl (.int _) h⟩
  · cases h
def tupleD : List D → (D → Prop) → Prop
  | [.lst ds], Q => Q (.tup ds)
  | [.tup ds], Q => Q (.tup ds)
  | _, _ => False
theorem rd_tuple {K : PySem.W.Frag} : RdC K c (fun xs H Q => ∃ p ys, xs = [.ref p] ∧ ((SqL K H p ys ∧ ∀ l, H l = none → Q (.ref l) (upd H l (.tup ys))) ∨ (SqT K H p ys ∧ Q (.ref p) H))) tupleD := fun A ρ m σ H G vs ds r Q Qv h k => by
  unfold tupleD at h
  split at h
  · obtain ⟨v, rfl, rv⟩ := repA1 r
    cases rv with
    | lst h1 r1 => exact ⟨_, _, rfl, .inl ⟨SqL.of (cut_some h1).2, fun l hl => k _ _ _ (G.fresh hl) (Keep.new hl) (.tup (SqT.of (G.freshN hl)) (r1.ext (fresh_ext hl))) h⟩⟩
  · obtain ⟨v, rfl, rv⟩ := repA1 r
    cases rv with
    | tup h1 r1 => exact ⟨_, _, rfl, .inr ⟨SqT.uncut h1, k _ _ H G Keep.refl (.tup h1 r1) h⟩⟩
  · cases h
/-- list(..): new -/
def listD : List D → (List D → Prop) → Prop
  | [.lst ds], Q => Q ds
  | [.tup ds], Q => Q ds
  | _, _ => False
def dl_listc {p : Pos} {wr : WA} (hg : Gl X "list") (hm : X.mg "list" = none) (ha : DA X c [a] wr) (he : starEach [a] X.env = (false, eval a X.env) :: starEach [] X.env := by rfl) : DL X c (.Call (.Name "list" p) [a] [] pos) (fun ρ m Q => wr ρ m fun ds m1 => listD ds fun z => Q z m1) := by
  obtain ⟨t, pa, ra⟩ := ha
  refine ⟨_, pe_callTy call_list_of hg hm (by decide +kernel) pa (he := he) (hpl := rfl), fun A ρ m σ H G Q Qv hw k => ra A ρ m σ H G _ _ hw fun vs ds m1 H1 G1 k1 r1 q1 => ?_⟩
  unfold listD at q1
  split at q1
  · obtain ⟨v, rfl, rv⟩ := repA1 r1
    cases rv with
    | lst h1 r1 =>
      refine ⟨_, _, rfl, .inl (SqL.of (cut_some h1).2), fun l hl => ?_⟩
      obtain ⟨g1, g2, g3, g4, g5⟩ := fresh_list G1 hl r1
      exact k l _ _ m1 _ g1 g2 (none_back G1 k1 hl) (k1.trans g3) g4 g5 q1
  · obtain ⟨v, rfl, rv⟩ := repA1 r1
    cases rv with
    | tup h1 r1 =>
      refine ⟨_, _, rfl, .inr (SqT.uncut h1), fun l hl => ?_⟩
      obtain ⟨g1, g2, g3, g4, g5⟩ := fresh_list G1 hl r1
      exact k l _ _ m1 _ g1 g2 (none_back G1 k1 hl) (k1.trans g3) g4 g5 q1
  · cases q1

/-! ### subscripts, slices -/
def itemD : D → D → (D → Prop) → Prop
  | .lst ds, .int i, Q => ∃ d, atI ds i = some d ∧ Q d
  | .tup ds, .int i, Q => ∃ d, atI ds i = some d ∧ Q d
  | _, _, _ => False
theorem repA_at {p : Option Addr} {K : PySem.W.Frag} {H : Hp} {vs : List V} {ds : List D} {i : Int} {d : D} (r : RepA p K H vs ds) (h : atI ds i = some d) : ∃ v, atI vs i = some v ∧ Rep p K H v d := by
  unfold atI at h ⊢
  rw [r.length]
  cases q : ixN ds.length i with
  | none =>
    rw [q] at h
    cases h
  | some j =>
    rw [q] at h
    exact r.get h
theorem rd_item {K : PySem.W.Frag} : RdOp K c (rIx K) itemD := fun A ρ m σ H G x y d e rx ry Q Qv h k => by
  unfold itemD at h
  split at h
  · obtain ⟨d1, h1, q⟩ := h
    cases ry
    cases rx with
    | lst h2 r2 =>
      obtain ⟨v, h3, r3⟩ := repA_at r2 h1
      exact .inl ⟨_, _, _, v, rfl, rfl, SqL.of (cut_some h2).2, h3, k _ _ H G Keep.refl r3 q⟩
  · obtain ⟨d1, h1, q⟩ := h
    cases ry
    cases rx with
    | tup h2 r2 =>
      obtain ⟨v, h3, r3⟩ := repA_at r2 h1
      exact .inr (.inl ⟨_, _, _, v, rfl, rfl, SqT.uncut h2, h3, k _ _ H G Keep.refl r3 q⟩)
  · cases h
def de_item (ha : DE X c a wa) (hb : DE X c b wb) (hs : PlainIx b) : DE X c (.Subscript a b pos) (wOp itemD wa wb) := by
  obtain ⟨ta, pa, ra⟩ := ha
  obtain ⟨tb, pb, rb⟩ := hb
  exact ⟨_, pe_ix ix_seq pa pb hs, rdE_op ra rb rd_item⟩
end
end DW

/-! DW4: statements, loops, comprehensions, a def's promise. -/
namespace DW
open PySem PySem.Spec L2

/-- from (A, H) to (A', H'): what is not owned stays, what is owned newly is new -/
structure Step (A : List Addr) (H : Hp) (A' : List Addr) (H' : Hp) : Prop where
  grow : Grow A H H'
  own : ∀ a ∈ A', a ∈ A ∨ H a = none
theorem Step.refl {A : List Addr} {H : Hp} : Step A H A H := ⟨Grow.refl, fun _ h => .inl h⟩
theorem Step.trans {A B C : List Addr} {H H1 H2 : Hp} (s : Step A H B H1) (t : Step B H1 C H2) : Step A H C H2 := by
  refine ⟨fun b o n e => ?_, fun a h => ?_⟩
  · have e1 := s.grow b o n e
    refine t.grow b o (fun z => ?_) e1
    rcases s.own b z with z | z
    · exact n z
    · rw [e] at z
      cases z
  · rcases t.own a h with z | z
    · exact s.own a z
    · cases q : H a with
      | none => exact .inr rfl
      | some o =>
        by_cases na : a ∈ A
        · exact .inl na
        · have := s.grow a o na q
          rw [z] at this
          cases this
theorem Step.cut {A B : List Addr} {H H' : Hp} (s : Step A H B H') : Ext (DW.cut A H) (DW.cut B H') := fun b o h => by
  obtain ⟨n, e⟩ := cut_some h
  refine cut_of (fun z => ?_) (s.grow b o n e)
  rcases s.own b z with z | z
  · exact n z
  · rw [e] at z
    cases z
section
variable {K : PySem.W.Frag} {c : C0} {A A' : List Addr} {ρ : DW.Env} {m m' : Nat} {σ : L2.St} {H H' : Hp}
theorem Keep.step (B : Base K c A m H) (k : Keep c H H') : Step A H A H' := ⟨k.grow B, fun _ h => .inl h⟩
theorem Base.none0 (B : Base K c A m H) {a : Addr} (h : H a = none) : c.H0 a = none := by
  cases q : c.H0 a with
  | none => rfl
  | some u =>
    by_cases hp : c.p = some a
    · obtain ⟨_, _, _, _, _, h1, _⟩ := (B.pn a hp).2.2.ex
      rw [h] at h1
      cases h1
    · have := B.ex a u hp q
      rw [h] at this
      cases this
theorem Good.steps (G : Good K c A ρ m σ H) (k : Keep c H H') (pn : ∀ q, c.p = some q → PenAt H' q c.cc m') (sub : ∀ a ∈ A, a ∈ A') (nw : ∀ a ∈ A', a ∈ A ∨ H a = none) (thr : ∀ a ∈ A', ∃ o, H' a = some o) : Good K c A' ρ m' σ H' := by
  have G1 := G.step k pn
  refine ⟨⟨G1.ex, G1.pn, fun a h => sub a (G.sub a h), fun a h => ?_, thr⟩, G.len, fun i kk e => ?_⟩
  · rcases nw a h with z | z
    · exact G.new a z
    · exact .inr (G.none0 z)
  · have q := G.cell i kk e
    have s : Ext (cut A H) (cut A' H') := (Step.mk (k.grow G.toBase) nw).cut
    cases kk with
    | un => trivial
    | dat d =>
      obtain ⟨v, h1, h2⟩ := q
      exact ⟨v, h1, h2.ext s⟩
    | own ds =>
      obtain ⟨l, xs, h1, h2, h3, h4, h5, h6⟩ := q
      exact ⟨l, xs, h1, sub l h2, h3, k l _ (fun z => h3 (G.pn l z).1) h4, h5.ext s, h6⟩
/-- an owned object that no cell holds is changed -/
theorem Good.mut (G : Good K c A ρ m σ H) {a : Addr} {o : HO} (ha : a ∈ A) (h0 : a ∉ c.A0) (hown : ∀ (i : Nat) (es : List D), ρ[i]? = some (Cell.own es) → σ[i]? ≠ some (some (V.ref a))) : Good K c A ρ m σ (upd H a o) := by
  have hn : c.H0 a = none := (G.new a ha).resolve_left h0
  have ec : ∀ b u, cut A H b = some u → cut A (upd H a o) b = some u := fun b u e => by
    obtain ⟨n, q⟩ := cut_some e
    have nb : b ≠ a := fun z => n (by rw [z]; exact ha)
    exact cut_of n (by rw [upd_ne nb]; exact q)
  refine ⟨⟨fun b u n e => ?_, fun q e => ⟨(G.pn q e).1, (G.pn q e).2.1, ?_⟩, G.sub, G.new, fun b h => ?_⟩, G.len, fun i k e => ?_⟩
  · have nb : b ≠ a := fun z => by
      rw [z, hn] at e
      cases e
    rw [upd_ne nb]
    exact G.ex b u n e
  · obtain ⟨ns, i, dg, ct, fd, h1, h2, h3⟩ := (G.pn q e).2.2.ex
    have nq : q ≠ a := fun z => h0 (by rw [← z]; exact (G.pn q e).1)
    have nc : c.cc ≠ a := fun z => h0 (by rw [← z]; exact (G.pn q e).2.1)
    exact ⟨ns, i, dg, ct, fd, by rw [upd_ne nq]; exact h1, by rw [upd_ne nc]; exact h2, h3⟩
  · by_cases z : b = a
    · subst z
      exact ⟨o, upd_same⟩
    · obtain ⟨u, e⟩ := G.thr b h
      exact ⟨u, by rw [upd_ne z]; exact e⟩
  · have q := G.cell i k e
    cases k with
    | un => trivial
    | dat d =>
      obtain ⟨v, h1, h2⟩ := q
      exact ⟨v, h1, h2.ext ec⟩
    | own ds =>
      obtain ⟨l, xs, h1, h2, h3, h4, h5, h6⟩ := q
      have nl : l ≠ a := fun z => hown i ds e (by rw [← z]; exact h1)
      exact ⟨l, xs, h1, h2, h3, by rw [upd_ne nl]; exact h4, h5.ext ec, h6⟩
end
end DW

/-! DW5: statements, loops, comprehensions. -/
namespace DW
open PySem PySem.Spec L2

structure Posts where
  nx : DW.Env → Nat → Prop
  rt : D → Nat → Prop
  bk : DW.Env → Nat → Prop := fun _ _ => False
  ct : DW.Env → Nat → Prop := fun _ _ => False
abbrev WS := Posts → DW.Env → Nat → Prop
/-- a way out of a statement -/
def Out (K : PySem.W.Frag) (c : C0) (A : List Addr) (H : Hp) (P : DW.Env → Nat → Prop) (F : L2.St → Hp → Prop) : Prop := ∀ A' ρ' m' σ' H', Good K c A' ρ' m' σ' H' → Step A H A' H' → P ρ' m' → F σ' H'
def OutR (K : PySem.W.Frag) (c : C0) (P : D → Nat → Prop) (F : VK) : Prop := ∀ v d A' m' H', Base K c A' m' H' → Rep c.p K (cut A' H') v d → P d m' → F v H'
def RdS (K : PySem.W.Frag) (c : C0) (t : TS) (w : WS) : Prop := ∀ A ρ m σ H, Good K c A ρ m σ H → ∀ (P : Posts) (F : Ends), w P ρ m → Out K c A H P.nx F.nx → OutR K c P.rt F.rt → Out K c A H P.bk F.bk → Out K c A H P.ct F.ct → t F σ H
structure DS (X : Cx) (c : C0) (st : Stmt) (w : WS) where
  t : TS
  pe : PS X st t
  rd : RdS X.K c t w
structure DSs (X : Cx) (c : C0) (sts : List Stmt) (w : WS) where
  t : TS
  pe : PSs X sts t
  rd : RdS X.K c t w
theorem Out.of {K : PySem.W.Frag} {c : C0} {A B : List Addr} {H H1 : Hp} {P : DW.Env → Nat → Prop} {F : L2.St → Hp → Prop} (o : Out K c A H P F) (s : Step A H B H1) : Out K c B H1 P F := fun A' ρ' m' σ' H' G t p => o A' ρ' m' σ' H' G (s.trans t) p

section
variable {X : Cx} {c : C0} {e a b tg iter : Expr} {st : Stmt} {rest body orelse : List Stmt} {we : WE} {wt : WT} {w1 w2 : WS} {pos : Pos}
/-! ### blocks -/
def wNext : WS := fun P ρ m => P.nx ρ m
def wSeq (w1 w2 : WS) : WS := fun P ρ m => w1 { P with nx := w2 P } ρ m
def dss_nil : DSs X c [] wNext := ⟨_, pss_nil, fun A ρ m σ H G P F h n r b ct => n A ρ m σ H G Step.refl h⟩
def dss_one (h : DS X c st w1) : DSs X c [st] w1 := by
  obtain ⟨t, p, r⟩ := h
  exact ⟨t, pss_one p, r⟩
def dss_cons (h1 : DS X c st w1) (h2 : DSs X c rest w2) : DSs X c (st :: rest) (wSeq w1 w2) := by
  obtain ⟨t, p, r⟩ := h1
  obtain ⟨u, q, s⟩ := h2
  refine ⟨_, pss_cons p q, fun A ρ m σ H G P F h n rt b ct => ?_⟩
  refine r A ρ m σ H G { P with nx := w2 P } { F with nx := u F } h (fun A1 ρ1 m1 σ1 H1 G1 s1 h1 => ?_) rt b ct
  exact s A1 ρ1 m1 σ1 H1 G1 P F h1 (n.of s1) rt (b.of s1) (ct.of s1)
def ds_pass : DS X c (.Pass pos) wNext := ⟨_, ps_pass, fun A ρ m σ H G P F h n r b ct => n A ρ m σ H G Step.refl h⟩
def ds_break : DS X c (.Break pos) (fun P ρ m => P.bk ρ m) := ⟨_, ps_break, fun A ρ m σ H G P F h n r b ct => b A ρ m σ H G Step.refl h⟩
def ds_continue : DS X c (.Continue pos) (fun P ρ m => P.ct ρ m) := ⟨_, ps_continue, fun A ρ m σ H G P F h n r b ct => ct A ρ m σ H G Step.refl h⟩
def wRet (we : WE) : WS := fun P ρ m => we ρ m P.rt
def ds_ret (h : DE X c e we) : DS X c (.Return (some e) pos) (wRet we) := by
  obtain ⟨t, p, r⟩ := h
  refine ⟨_, ps_ret p, fun A ρ m σ H G P F h n rt b ct => r A ρ m σ H G _ _ h fun v d m1 H1 G1 k1 r1 q1 => ?_⟩
  exact rt v d A m1 H1 G1.toBase r1 q1
def ds_retN : DS X c (.Return none pos) (fun P ρ m => P.rt .non m) := ⟨_, ps_retN, fun A ρ m σ H G P F h n rt b ct => rt .non .non A m H G.toBase .non h⟩
def wDrop (we : WE) : WS := fun P ρ m => we ρ m fun _ m1 => P.nx ρ m1
def ds_expr (h : DE X c e we) (hs : swapsWith e none pos.line X.env = pure false := by rfl) : DS X c (.Expr e pos) (wDrop we) := by
  obtain ⟨t, p, r⟩ := h
  refine ⟨_, ps_expr p hs, fun A ρ m σ H G P F h n rt b ct => r A ρ m σ H G _ _ h fun v d m1 H1 G1 k1 r1 q1 => ?_⟩
  exact n A ρ m1 σ H1 G1 (k1.step G.toBase) q1
def wIfS (wt : WT) (w1 w2 : WS) : WS := fun P ρ m => wt ρ m fun b m1 => if b = true then w1 P ρ m1 else w2 P ρ m1
def ds_if (ht : DT X c e wt) (h1 : DSs X c body w1) (h2 : DSs X c orelse w2) : DS X c (.If e body orelse pos) (wIfS wt w1 w2) := by
  obtain ⟨t, p, r⟩ := ht
  obtain ⟨t1, p1, r1⟩ := h1
  obtain ⟨t2, p2, r2⟩ := h2
  refine ⟨_, ps_if p p1 p2, fun A ρ m σ H G P F h n rt b ct => r A ρ m σ H G _ _ h fun bb m1 H1 G1 k1 q1 => ?_⟩
  have s1 := k1.step G.toBase
  cases bb with
  | true => exact r1 A ρ m1 σ H1 G1 P F q1 (n.of s1) rt (b.of s1) (ct.of s1)
  | false => exact r2 A ρ m1 σ H1 G1 P F q1 (n.of s1) rt (b.of s1) (ct.of s1)

/-! ### stores -/
section
variable {K : PySem.W.Frag} {A : List Addr} {ρ : DW.Env} {m : Nat} {σ : L2.St} {H : Hp}
theorem Good.set (G : Good K c A ρ m σ H) {v : V} {d : D} (r : Rep c.p K (cut A H) v d) (i : Nat) : Good K c A (ρ.set i (.dat d)) m (σ.set i (some v)) H := by
  refine ⟨G.toBase, by rw [List.length_set, List.length_set]; exact G.len, fun j k e => ?_⟩
  by_cases hj : i = j
  · subst hj
    have hl : i < ρ.length := by
      have := (List.getElem?_eq_some_iff.mp e).1
      rwa [List.length_set] at this
    rw [List.getElem?_set_self hl] at e
    cases e
    exact ⟨v, by rw [List.getElem?_set_self (by rw [← G.len]; exact hl)], r⟩
  · rw [List.getElem?_set_ne hj] at e
    have q := G.cell j k e
    cases k with
    | un => trivial
    | dat d' =>
      obtain ⟨v', h1, h2⟩ := q
      exact ⟨v', by rw [List.getElem?_set_ne hj]; exact h1, h2⟩
    | own ds =>
      obtain ⟨l, xs, h1, h2, h3, h4, h5, h6⟩ := q
      refine ⟨l, xs, by rw [List.getElem?_set_ne hj]; exact h1, h2, h3, h4, h5, fun j' es n' e' => ?_⟩
      by_cases hj' : i = j'
      · subst hj'
        have hl : i < ρ.length := by
          have := (List.getElem?_eq_some_iff.mp e').1
          rwa [List.length_set] at this
        rw [List.getElem?_set_self hl] at e'
        cases e'
      · rw [List.getElem?_set_ne hj'] at e' ⊢
        exact h6 j' es n' e'
/-- a name forgotten -/
theorem Good.wipe1 (G : Good K c A ρ m σ H) (i : Nat) : Good K c A (ρ.set i .un) m (σ.set i none) H := by
  refine ⟨G.toBase, by rw [List.length_set, List.length_set]; exact G.len, fun j k e => ?_⟩
  by_cases hj : i = j
  · subst hj
    have hl : i < ρ.length := by
      have := (List.getElem?_eq_some_iff.mp e).1
      rwa [List.length_set] at this
    rw [List.getElem?_set_self hl] at e
    cases e
    trivial
  · rw [List.getElem?_set_ne hj] at e
    have q := G.cell j k e
    cases k with
    | un => trivial
    | dat d' =>
      obtain ⟨v', h1, h2⟩ := q
      exact ⟨v', by rw [List.getElem?_set_ne hj]; exact h1, h2⟩
    | own ds =>
      obtain ⟨l, xs, h1, h2, h3, h4, h5, h6⟩ := q
      refine ⟨l, xs, by rw [List.getElem?_set_ne hj]; exact h1, h2, h3, h4, h5, fun j' es n' e' => ?_⟩
      by_cases hj' : i = j'
      · subst hj'
        have hl : i < ρ.length := by
          have := (List.getElem?_eq_some_iff.mp e').1
          rwa [List.length_set] at this
        rw [List.getElem?_set_self hl] at e'
        cases e'
      · rw [List.getElem?_set_ne hj'] at e' ⊢
        exact h6 j' es n' e'
end
def wSet (i : Nat) (we : WE) : WS := fun P ρ m => we ρ m fun d m1 => P.nx (ρ.set i (.dat d)) m1
def ds_set {i : Nat} {x : Str} {pos' : Pos} (hN : X.N.Nodup) (hi : X.N[i]? = some x) (hx : Loc X.env.scope x) (h : DE X c e we) (hs : swapsWith e (some (.Name x pos')) pos.line X.env = pure false := by rfl) (hf : X.fn x = true ∨ X.env.scope.names.lookup x = some .local := by first | exact .inl rfl | exact .inr rfl | assumption) :
    DS X c (.Assign [.Name x pos'] e pos) (wSet i we) := by
  obtain ⟨t, p, r⟩ := h
  refine ⟨_, ps_set (i := i) hN hi hx p hs hf, fun A ρ m σ H G P F h n rt b ct => r A ρ m σ H G _ _ h fun v d m1 H1 G1 k1 r1 q1 => ?_⟩
  exact n A _ m1 _ H1 (G1.set r1 i) (k1.step G.toBase) q1
/-- a new list of one's own, to be changed later -/
def wSetO (i : Nat) (we : WA) : WS := fun P ρ m => we ρ m fun ds m1 => P.nx (ρ.set i (.own ds)) m1
theorem Good.setOwn {K : PySem.W.Frag} {A : List Addr} {ρ : DW.Env} {m : Nat} {σ : L2.St} {H : Hp} {a : Addr} {xs : List V} {ds : List D} (G : Good K c (a :: A) ρ m σ H) (h0 : a ∉ c.A0) (ho : ∀ (j : Nat) (es : List D), ρ[j]? = some (Cell.own es) → σ[j]? ≠ some (some (V.ref a)))
    (ea : H a = some (.lst xs)) (r : RepA c.p K (cut (a :: A) H) xs ds) (i : Nat) : Good K c (a :: A) (ρ.set i (.own ds)) m (σ.set i (some (.ref a))) H := by
  refine ⟨G.toBase, by rw [List.length_set, List.length_set]; exact G.len, fun j k e => ?_⟩
  by_cases hj : i = j
  · subst hj
    have hl : i < ρ.length := by
      have := (List.getElem?_eq_some_iff.mp e).1
      rwa [List.length_set] at this
    rw [List.getElem?_set_self hl] at e
    cases e
    refine ⟨a, xs, by rw [List.getElem?_set_self (by rw [← G.len]; exact hl)], List.mem_cons_self .., h0, ea, r, fun j es n' e' => ?_⟩
    rw [List.getElem?_set_ne (Ne.symm n')] at e' ⊢
    exact ho j es e'
  · rw [List.getElem?_set_ne hj] at e
    have q := G.cell j k e
    cases k with
    | un => trivial
    | dat d' =>
      obtain ⟨v', h1, h2⟩ := q
      exact ⟨v', by rw [List.getElem?_set_ne hj]; exact h1, h2⟩
    | own es' =>
      obtain ⟨l, ys, h1, h2, h3, h4, h5, h6⟩ := q
      refine ⟨l, ys, by rw [List.getElem?_set_ne hj]; exact h1, h2, h3, h4, h5, fun j' es n' e' => ?_⟩
      by_cases hj' : i = j'
      · subst hj'
        by_cases hl : i < σ.length
        · rw [List.getElem?_set_self hl]
          intro z
          cases z
          exact ho j es' e h1
        · rw [List.getElem?_eq_none (by rw [List.length_set]; omega)]
          exact fun z => nomatch z
      · rw [List.getElem?_set_ne hj'] at e' ⊢
        exact h6 j' es n' e'
theorem own_ne {K : PySem.W.Frag} {A : List Addr} {ρ : DW.Env} {m : Nat} {σ : L2.St} {H : Hp} {a : Addr} (G : Good K c A ρ m σ H) (na : a ∉ A) : ∀ (j : Nat) (es : List D), ρ[j]? = some (Cell.own es) → σ[j]? ≠ some (some (V.ref a)) := fun j es e z => by
  obtain ⟨l, hl, e2⟩ := G.ownIn e
  rw [z] at e2
  cases e2
  exact na hl
def ds_setO {wl : WA} {i : Nat} {x : Str} {pos' : Pos} (hN : X.N.Nodup) (hi : X.N[i]? = some x) (hx : Loc X.env.scope x) (h : DL X c e wl) (hs : swapsWith e (some (.Name x pos')) pos.line X.env = pure false := by rfl) (hf : X.fn x = true ∨ X.env.scope.names.lookup x = some .local := by first | exact .inl rfl | exact .inr rfl | assumption) :
    DS X c (.Assign [.Name x pos'] e pos) (wSetO i wl) := by
  obtain ⟨t, p, r⟩ := h
  refine ⟨_, ps_set (i := i) hN hi hx p hs hf, fun A ρ m σ H G P F h n rt b ct => r A ρ m σ H G _ _ h fun a xs ds m1 H1 G1 na ha k1 ea r1 q1 => ?_⟩
  refine n (a :: A) _ m1 _ H1 (G1.setOwn (fun z => na (G.sub a z)) (own_ne G na) ea r1 i) ⟨k1.grow G.toBase, fun b hb => ?_⟩ q1
  rcases List.mem_cons.mp hb with z | z
  · exact .inr (by rw [z]; exact ha)
  · exact .inl z

/-- names for what is one's own no more: the list is data from here on -/
theorem Good.freeze {K : PySem.W.Frag} {A : List Addr} {ρ : DW.Env} {m : Nat} {σ : L2.St} {H : Hp} (G : Good K c A ρ m σ H) {i : Nat} {ds : List D} (e : ρ[i]? = some (.own ds)) : ∃ A', Good K c A' (ρ.set i (.dat (.lst ds))) m σ H ∧ Step A H A' H := by
  obtain ⟨l, xs, h1, h2, h3, h4, h5, h6⟩ := G.cell i _ e
  refine ⟨A.filter (· ≠ l), ?_, ⟨Grow.refl, fun a h => .inl (List.mem_filter.mp h).1⟩⟩
  have sub : ∀ b ∈ A.filter (· ≠ l), b ∈ A := fun b h => (List.mem_filter.mp h).1
  have s : Ext (cut A H) (cut (A.filter (· ≠ l)) H) := cut_sub sub
  refine ⟨⟨G.ex, G.pn, fun b h => List.mem_filter.mpr ⟨G.sub b h, by simpa using fun z => h3 (by rw [← z]; exact h)⟩, fun b h => G.new b (sub b h), fun b h => G.thr b (sub b h)⟩, by rw [List.length_set]; exact G.len, fun j k e' => ?_⟩
  by_cases hj : i = j
  · subst hj
    have hl : i < ρ.length := (List.getElem?_eq_some_iff.mp e).1
    rw [List.getElem?_set_self hl] at e'
    cases e'
    exact ⟨.ref l, h1, .lst (cut_of (fun z => by simpa using (List.mem_filter.mp z).2) h4) (h5.ext s)⟩
  · rw [List.getElem?_set_ne hj] at e'
    have q := G.cell j k e'
    cases k with
    | un => trivial
    | dat d =>
      obtain ⟨v, q1, q2⟩ := q
      exact ⟨v, q1, q2.ext s⟩
    | own es =>
      obtain ⟨l', ys, q1, q2, q3, q4, q5, q6⟩ := q
      refine ⟨l', ys, q1, List.mem_filter.mpr ⟨q2, ?_⟩, q3, q4, q5.ext s, fun j' fs n' e2 => ?_⟩
      · have := h6 j es (Ne.symm hj) e'
        rw [q1] at this
        simpa using fun z => this (by rw [z])
      · by_cases hj' : i = j'
        · subst hj'
          have hl : i < ρ.length := (List.getElem?_eq_some_iff.mp e).1
          rw [List.getElem?_set_self hl] at e2
          cases e2
        · rw [List.getElem?_set_ne hj'] at e2
          exact q6 j' fs n' e2
/-- ahead of a statement a list of one's own becomes data -/
def wFrz (i : Nat) (w : WS) : WS := fun P ρ m => match ρ[i]? with
  | some (.own ds) => w P (ρ.set i (.dat (.lst ds))) m
  | _ => False
theorem rd_frz {K : PySem.W.Frag} {t : TS} {w : WS} (i : Nat) (h : RdS K c t w) : RdS K c t (wFrz i w) := fun A ρ m σ H G P F hw n rt b ct => by
  unfold wFrz at hw
  split at hw
  · rename_i ds e
    obtain ⟨A', G', s⟩ := G.freeze e
    exact h A' _ m σ H G' P F hw (n.of s) rt (b.of s) (ct.of s)
  · cases hw
def ds_frz (i : Nat) (h : DS X c st w1) : DS X c st (wFrz i w1) := by
  obtain ⟨t, p, r⟩ := h
  exact ⟨t, p, rd_frz i r⟩

/-- xs.append(e), xs one's own -/
def wApp (i : Nat) (we : WE) : WS := fun P ρ m => match ρ[i]? with
  | some (.own ds) => we ρ m fun d m1 => ds.length < 10000000 ∧ P.nx (ρ.set i (.own (ds ++ [d]))) m1
  | _ => False
theorem Good.chg {K : PySem.W.Frag} {A : List Addr} {ρ : DW.Env} {m : Nat} {σ : L2.St} {H : Hp} (G : Good K c A ρ m σ H) {i : Nat} {ds es : List D} {ys : List V} {l : Addr} (e : ρ[i]? = some (.own ds)) (hl : σ[i]? = some (some (.ref l))) (r : RepA c.p K (cut A H) ys es) :
    Good K c A (ρ.set i (.own es)) m σ (upd H l (.lst ys)) := by
  obtain ⟨l', xs, h1, h2, h3, h4, h5, h6⟩ := G.cell i _ e
  rw [hl] at h1
  cases h1
  have hn : c.H0 l = none := (G.new l h2).resolve_left h3
  have ec : Ext (cut A H) (cut A (upd H l (.lst ys))) := fun b u e => by
    obtain ⟨n, q⟩ := cut_some e
    have nb : b ≠ l := fun z => n (by rw [z]; exact h2)
    exact cut_of n (by rw [upd_ne nb]; exact q)
  refine ⟨⟨fun b u n e => ?_, fun q e => ⟨(G.pn q e).1, (G.pn q e).2.1, ?_⟩, G.sub, G.new, fun b h => ?_⟩, by rw [List.length_set]; exact G.len, fun j k e' => ?_⟩
  · have nb : b ≠ l := fun z => by
      rw [z, hn] at e
      cases e
    rw [upd_ne nb]
    exact G.ex b u n e
  · obtain ⟨ns, i', dg, ct, fd, p1, p2, p3⟩ := (G.pn q e).2.2.ex
    have nq : q ≠ l := fun z => h3 (by rw [← z]; exact (G.pn q e).1)
    have nc : c.cc ≠ l := fun z => h3 (by rw [← z]; exact (G.pn q e).2.1)
    exact ⟨ns, i', dg, ct, fd, by rw [upd_ne nq]; exact p1, by rw [upd_ne nc]; exact p2, p3⟩
  · by_cases z : b = l
    · subst z
      exact ⟨_, upd_same⟩
    · obtain ⟨u, e⟩ := G.thr b h
      exact ⟨u, by rw [upd_ne z]; exact e⟩
  · by_cases hj : i = j
    · subst hj
      have hl' : i < ρ.length := (List.getElem?_eq_some_iff.mp e).1
      rw [List.getElem?_set_self hl'] at e'
      cases e'
      refine ⟨l, ys, hl, h2, h3, upd_same, r.ext ec, fun j fs n' e2 => ?_⟩
      rw [List.getElem?_set_ne (Ne.symm n')] at e2
      exact h6 j fs n' e2
    · rw [List.getElem?_set_ne hj] at e'
      have q := G.cell j k e'
      cases k with
      | un => trivial
      | dat d =>
        obtain ⟨v, q1, q2⟩ := q
        exact ⟨v, q1, q2.ext ec⟩
      | own fs =>
        obtain ⟨l2, zs, q1, q2, q3, q4, q5, q6⟩ := q
        have nl : l2 ≠ l := fun z => q6 i ds hj e (by rw [z]; exact hl)
        refine ⟨l2, zs, q1, q2, q3, by rw [upd_ne nl]; exact q4, q5.ext ec, fun j' gs n' e2 => ?_⟩
        by_cases hj' : i = j'
        · subst hj'
          exact q6 i ds n' e
        · rw [List.getElem?_set_ne hj'] at e2
          exact q6 j' gs n' e2
def ds_append {call : Expr} {i : Nat} (hp : ∀ te, PE X e te → PE X call (tBM X.K "list" rAppend (tVar i) (tCons te tNil))) (h : DE X c e we) (hs : swapsWith call none pos.line X.env = pure false := by rfl) : DS X c (.Expr call pos) (wApp i we) := by
  obtain ⟨t, pe, r⟩ := h
  refine ⟨_, ps_expr (hp t pe) hs, fun A ρ m σ H G P F hw n rt b ct => ?_⟩
  unfold wApp at hw
  split at hw
  case h_2 => cases hw
  rename_i ds e1
  obtain ⟨l, xs, h1, h2, h3, h4, h5, h6⟩ := G.cell i _ e1
  refine ⟨_, h1, .inl ⟨rfl, _, SqL.of h4⟩, r A ρ m σ H G _ _ hw fun v d m1 H1 G1 k1 r1 q1 => ?_⟩
  obtain ⟨l', ys, g1, g2, g3, g4, g5, g6⟩ := G1.cell i _ e1
  rw [h1] at g1
  cases g1
  refine ⟨l, ys, v, rfl, rfl, g4, ?_, ?_⟩
  · rw [g5.length]
    exact Nat.lt_of_lt_of_le q1.1 (by decide)
  · exact n A _ m1 σ _ (G1.chg e1 h1 (g5.append (.one r1))) ⟨fun b o nb e => by
      have nl : b ≠ l := fun z => nb (by rw [z]; exact h2)
      rw [upd_ne nl]
      exact k1.grow G.toBase b o nb e, fun a h => .inl h⟩ q1.2
end
end DW

/-! DW6: targets, what is walked, loops, comprehensions, a def's promise. -/
namespace DW
open PySem PySem.Spec L2

section
variable {X : Cx} {c : C0} {e a b tg iter : Expr} {es : List Expr} {st : Stmt} {rest body orelse : List Stmt} {we : WE} {wt : WT} {w1 w2 : WS} {pos : Pos}

/-! ### targets: they store data in slots of sl alone -/
abbrev GD := D → DW.Env → (DW.Env → Prop) → Prop
def RdG (K : PySem.W.Frag) (c : C0) (t : TG) (g : GD) (sl : List Nat) : Prop := ∀ A ρ m σ H v d, Good K c A ρ m σ H → Rep c.p K (cut A H) v d → ∀ (Q : DW.Env → Prop) (R : L2.St → Hp → Prop), g d ρ Q →
  (∀ ρ' σ', Good K c A ρ' m σ' H → σ'.length = σ.length → (∀ j, j ∉ sl → σ'[j]? = σ[j]?) → Q ρ' → R σ' H) → t v σ H R
structure DG (X : Cx) (c : C0) (tg : Expr) (g : GD) (sl : List Nat) where
  t : TG
  pe : PG X tg t
  rd : RdG X.K c t g sl
def gN (i : Nat) : GD := fun d ρ Q => Q (ρ.set i (.dat d))
def dg_name {i : Nat} {x : Str} (hN : X.N.Nodup) (hi : X.N[i]? = some x) (hx : Loc X.env.scope x) (hf : X.fn x = true ∨ X.env.scope.names.lookup x = some .local := by first | exact .inl rfl | exact .inr rfl | assumption) : DG X c (.Name x pos) (gN i) [i] :=
  ⟨_, pg_name hN hi hx hf, fun A ρ m σ H v d G r Q R hw k => k _ _ (G.set r i) (by rw [List.length_set]) (fun j hj => List.getElem?_set_ne (by simpa [eq_comm] using hj)) hw⟩
abbrev GDs := List D → DW.Env → (DW.Env → Prop) → Prop
def RdGs (K : PySem.W.Frag) (c : C0) (t : TGs) (g : GDs) (sl : List Nat) : Prop := ∀ A ρ m σ H vs ds, Good K c A ρ m σ H → RepA c.p K (cut A H) vs ds → ∀ (Q : DW.Env → Prop) (R : L2.St → Hp → Prop), g ds ρ Q →
  (∀ ρ' σ', Good K c A ρ' m σ' H → σ'.length = σ.length → (∀ j, j ∉ sl → σ'[j]? = σ[j]?) → Q ρ' → R σ' H) → t vs σ H R
structure DGs (X : Cx) (c : C0) (ts : List Expr) (g : GDs) (sl : List Nat) where
  t : TGs
  pe : PGs X ts t
  rd : RdGs X.K c t g sl
def gNil0 : GDs := fun ds ρ Q => ds = [] ∧ Q ρ
def gCons0 (g : GD) (gs : GDs) : GDs := fun ds ρ Q => match ds with
  | d :: r => g d ρ fun ρ1 => gs r ρ1 Q
  | [] => False
def dgs_nil : DGs X c [] gNil0 [] := ⟨_, pgs_nil, fun A ρ m σ H vs ds G r Q R hw k => by
  obtain ⟨rfl, q⟩ := hw
  cases r
  exact ⟨rfl, k ρ σ G rfl (fun _ _ => rfl) q⟩⟩
def dgs_cons {g : GD} {gs : GDs} {s1 s2 : List Nat} (h1 : DG X c e g s1) (h2 : DGs X c es gs s2) (hs : (assignEach (e :: es) X.env).map (·.2) = assign e X.env :: (assignEach es X.env).map (·.2) := by rfl) : DGs X c (e :: es) (gCons0 g gs) (s1 ++ s2) := by
  obtain ⟨t, p, r⟩ := h1
  obtain ⟨u, q, s⟩ := h2
  refine ⟨_, pgs_cons p q hs, fun A ρ m σ H vs ds G rp Q R hw k => ?_⟩
  unfold gCons0 at hw
  split at hw
  · cases rp with
    | cons hv rv =>
      refine ⟨_, _, rfl, r A ρ m σ H _ _ G hv _ _ hw fun ρ1 σ1 G1 l1 f1 q1 => ?_⟩
      exact s A ρ1 m σ1 H _ _ G1 rv _ _ q1 fun ρ2 σ2 G2 l2 f2 q2 => k ρ2 σ2 G2 (l2.trans l1) (fun j hj => by
        rw [List.mem_append, not_or] at hj
        rw [f2 j hj.2, f1 j hj.1]) q2
  · cases hw
def gT (n : Nat) (gs : GDs) : GD := fun d ρ Q => match d with
  | .tup ds => ds.length = n ∧ gs ds ρ Q
  | _ => False
def dg_tup {gs : GDs} {sl : List Nat} {k : Nat} {n : Nat} (hc : X.calm = true) (h : DGs X c es gs sl) (hn : (assignEach es X.env).length = n := by rfl) (hst : (assignEach es X.env).findIdx? (·.1) = none := by rfl) : DG X c (.Tuple es k pos) (gT n gs) sl := by
  obtain ⟨t, p, r⟩ := h
  refine ⟨_, pg_tup hc p hn hst, fun A ρ m σ H v d G rp Q R hw k => ?_⟩
  unfold gT at hw
  split at hw
  · cases rp with
    | tup h1 r1 => exact ⟨_, _, rfl, SqT.uncut h1, by rw [r1.length]; exact hw.1, r A ρ m σ H _ _ G r1 Q R hw.2 k⟩
  · cases hw
/-- target = value, any target -/
def wAsg (g : GD) (we : WE) : WS := fun P ρ m => we ρ m fun d m1 => g d ρ fun ρ1 => P.nx ρ1 m1
def ds_asg {g : GD} {sl : List Nat} (h : DE X c e we) (hg : DG X c tg g sl) (hs : swapsWithSole [tg] e pos.line X.env = pure false := by rfl) (hw : swappedStores [tg] e X.env = pure none := by rfl)
    (h1 : (assignEach [tg] X.env).map (·.2) = [assign tg X.env] := by rfl) : DS X c (.Assign [tg] e pos) (wAsg g we) := by
  obtain ⟨t, p, r⟩ := h
  obtain ⟨u, q, s⟩ := hg
  refine ⟨_, ps_asg p q hs hw h1, fun A ρ m σ H G P F hw n rt b ct => r A ρ m σ H G _ _ hw fun v d m1 H1 G1 k1 r1 q1 => ?_⟩
  exact s A ρ m1 σ H1 v d G1 r1 _ _ q1 fun ρ2 σ2 G2 _ _ q2 => n A ρ2 m1 σ2 H1 G2 (k1.step G.toBase) q2
/-- a, b = x, y; a, b, c = x, y, z: no tuple is made -/
def wPar2 (i j : Nat) (wr : WA) : WS := fun P ρ m => wr ρ m fun ds m1 => match ds with
  | [x, y] => P.nx ((ρ.set i (.dat x)).set j (.dat y)) m1
  | _ => False
def wPar3 (i j l : Nat) (wr : WA) : WS := fun P ρ m => wr ρ m fun ds m1 => match ds with
  | [x, y, z] => P.nx (((ρ.set i (.dat x)).set j (.dat y)).set l (.dat z)) m1
  | _ => False
def ds_par2 {i j : Nat} {wr : WA} (hp : ∀ ta, PA X es ta → PS X st (tPar i j ta)) (h : DA X c es wr) : DS X c st (wPar2 i j wr) := by
  obtain ⟨t, p, r⟩ := h
  refine ⟨_, hp t p, fun A ρ m σ H G P F hw n rt b ct => r A ρ m σ H G _ _ hw fun vs ds m1 H1 G1 k1 r1 q1 => ?_⟩
  split at q1
  · obtain ⟨v, u, rfl, h1, h2⟩ := repA2 r1
    exact ⟨v, u, rfl, n A _ m1 _ H1 ((G1.set h1 i).set h2 j) (k1.step G.toBase) q1⟩
  · cases q1
def ds_par3 {i j l : Nat} {wr : WA} (hp : ∀ ta, PA X es ta → PS X st (tPar3 i j l ta)) (h : DA X c es wr) : DS X c st (wPar3 i j l wr) := by
  obtain ⟨t, p, r⟩ := h
  refine ⟨_, hp t p, fun A ρ m σ H G P F hw n rt b ct => r A ρ m σ H G _ _ hw fun vs ds m1 H1 G1 k1 r1 q1 => ?_⟩
  split at q1
  · cases r1 with
    | cons h1 r1 =>
      obtain ⟨v, u, rfl, h2, h3⟩ := repA2 r1
      exact ⟨_, v, u, rfl, n A _ m1 _ H1 (((G1.set h1 i).set h2 j).set h3 l) (k1.step G.toBase) q1⟩
  · cases q1

/-! ### what is walked -/
/-- the iterator J gives these data one by one, whatever is done meanwhile -/
def Iters (p : Option Addr) (K : PySem.W.Frag) (A : List Addr) (ds : List D) (J : It) (H : Hp) : Prop := ∀ A' H', Step A H A' H' → (∀ a ∈ A', ∃ o, H' a = some o) →
  (∀ i d, ds[i]? = some d → J.go i H' ∧ ∀ x H2, J.yld i H' x H2 → Ext H' H2 ∧ Rep p K (cut A' H2) x d) ∧ J.stop ds.length H'
def RdI (K : PySem.W.Frag) (c : C0) (wi : TI) (w : WA) : Prop := ∀ A ρ m σ H, Good K c A ρ m σ H → ∀ (Q : List D → Nat → Prop) (R : It → Hp → Prop), w ρ m Q →
  (∀ J ds m' H', Good K c A ρ m' σ H' → Keep c H H' → Iters c.p K A ds J H' → Q ds m' → R J H') → wi σ H R
structure DI (X : Cx) (c : C0) (tg iter : Expr) (w : WA) where
  t : TI
  pe : PI X tg iter t
  rd : RdI X.K c t w
theorem pi_or {w1 w2 : TI} (h1 : PI X tg iter w1) (h2 : PI X tg iter w2) : PI X tg iter (fun σ H R => w1 σ H R ∨ w2 σ H R) := ⟨fun pins s σ H R I h => h.elim (h1.run pins s σ H R I) (h2.run pins s σ H R I)⟩
def seqD : D → Option (List D)
  | .lst ds => some ds
  | .tup ds => some ds
  | _ => none
/-- a list or a tuple -/
def wSeqI (we : WE) : WA := fun ρ m Q => we ρ m fun d m1 => match seqD d with
  | some ds => Q ds m1
  | none => False
def iSeq (K : PySem.W.Frag) (te : TE) : TI := fun σ H R => te σ H fun x H1 => ∃ a, x = .ref a ∧ (((∃ xs, SqL K H1 a xs) ∧ R (Itl K a) H1) ∨ ((∃ xs, SqT K H1 a xs) ∧ R (Itt K a) H1))
theorem pi_seq {l : Expr} {tl : TE} (hl : PE X l tl) : PI X tg l (iSeq X.K tl) := by
  refine ⟨fun pins s σ H R I h => ?_⟩
  refine thn (hl.run pins s σ H _ I h) fun v s1 ⟨x, H1, I1, r1, q1⟩ => ?_
  obtain ⟨a, e, q⟩ := q1
  subst e
  cases r1
  rcases q with ⟨⟨xs, hq⟩, q⟩ | ⟨⟨xs, hq⟩, q⟩
  · obtain ⟨its, rv, p, hz⟩ := I1.list hq
    refine wpAny_pyIter_list p.isList ?_
    refine ⟨s1.heap.objs.size, [s1.heap.objs.size], _, _, H1, rfl, I1.kept (t' := s1.toks) fun b o e => Heap.get?_push_of_some _ e, turn_list a _, ⟨_, Heap.get?_push_size _ rfl, rfl, rfl⟩, fun b hb => ?_, q⟩
    have e : b = s1.heap.objs.size := by simpa using hb
    subst e
    exact I1.fpOk (Nat.le_refl _) (I1.hok.fresh (Nat.le_refl _))
  · obtain ⟨its, rv, p, hz⟩ := I1.tuple hq
    refine wpAny_pyIter_tuple (show s1.heap.IsTuple a its.toArray from p) ?_
    refine ⟨s1.heap.objs.size, [s1.heap.objs.size], _, _, H1, rfl, I1.kept (t' := s1.toks) fun b o e => Heap.get?_push_of_some _ e, turn_tuple a _, ⟨_, Heap.get?_push_size _ rfl, rfl, rfl⟩, fun b hb => ?_, q⟩
    have e : b = s1.heap.objs.size := by simpa using hb
    subst e
    exact I1.fpOk (Nat.le_refl _) (I1.hok.fresh (Nat.le_refl _))
theorem iters_list {p : Option Addr} {K : PySem.W.Frag} {A : List Addr} {H : Hp} {a : Addr} {xs : List V} {ds : List D} (h : cut A H a = some (.lst xs)) (r : RepA p K (cut A H) xs ds) : Iters p K A ds (Itl K a) H := fun A' H' s _ => by
  have e := s.cut
  have h' := (cut_some (e _ _ h)).2
  refine ⟨fun i d hd => ?_, ⟨xs, SqL.of h', Nat.le_of_eq r.length⟩⟩
  obtain ⟨v, hv, rv⟩ := r.get hd
  refine ⟨⟨xs, v, SqL.of h', hv⟩, fun x H2 y => ?_⟩
  obtain ⟨rfl, y⟩ := y
  have := y xs (SqL.of h')
  rw [hv] at this
  cases this
  exact ⟨fun _ _ z => z, rv.ext e⟩
theorem iters_tup {p : Option Addr} {K : PySem.W.Frag} {A : List Addr} {H : Hp} {a : Addr} {xs : List V} {ds : List D} (h : SqT K (cut A H) a xs) (r : RepA p K (cut A H) xs ds) : Iters p K A ds (Itt K a) H := fun A' H' s _ => by
  have e := s.cut
  have h' := SqT.uncut (DW.SqT.ext h e)
  refine ⟨fun i d hd => ?_, ⟨xs, h', Nat.le_of_eq r.length⟩⟩
  obtain ⟨v, hv, rv⟩ := r.get hd
  refine ⟨⟨xs, v, h', hv⟩, fun x H2 y => ?_⟩
  obtain ⟨rfl, y⟩ := y
  have := y xs h'
  rw [hv] at this
  cases this
  exact ⟨fun _ _ z => z, rv.ext e⟩
def di_seq (h : DE X c iter we) : DI X c tg iter (wSeqI we) := by
  obtain ⟨t, p, r⟩ := h
  refine ⟨_, pi_seq p, fun A ρ m σ H G Q R hw k => r A ρ m σ H G _ _ hw fun v d m1 H1 G1 k1 r1 q1 => ?_⟩
  cases d <;> first | (exact False.elim q1) | skip
  · cases r1 with
    | lst h1 r2 => exact ⟨_, rfl, .inl ⟨⟨_, SqL.of (cut_some h1).2⟩, k _ _ m1 H1 G1 k1 (iters_list h1 r2) q1⟩⟩
  · cases r1 with
    | tup h1 r2 => exact ⟨_, rfl, .inr ⟨⟨_, SqT.uncut h1⟩, k _ _ m1 H1 G1 k1 (iters_tup h1 r2) q1⟩⟩
/-- range(n), range(a, b) -/
def rngD (lo hi : Int) : List D := (List.range (hi - lo).toNat).map fun (k : Nat) => D.int (lo + (k : Int))
theorem iters_range {p : Option Addr} {K : PySem.W.Frag} {A : List Addr} {H : Hp} {lo : Int} {n : Nat} : Iters p K A ((List.range n).map fun (k : Nat) => D.int (lo + (k : Int))) (Itr lo n) H := fun A' H' s _ => by
  refine ⟨fun i d hd => ?_, by show n ≤ _; simp⟩
  rw [List.getElem?_map] at hd
  have hi : i < n := by
    cases q : (List.range n)[i]? with
    | none =>
      rw [q] at hd
      cases hd
    | some j => simpa using (List.getElem?_eq_some_iff.mp q).1
  rw [List.getElem?_range hi] at hd
  have e : D.int (lo + (i : Int)) = d := by simpa using hd
  subst e
  refine ⟨hi, fun x H2 y => ?_⟩
  obtain ⟨rfl, rfl⟩ := y
  exact ⟨fun _ _ z => z, .int _⟩
def wRng1 (wr : WA) : WA := fun ρ m Q => wr ρ m fun ds m1 => match ds with
  | [.int j] => (-(2 ^ 62) ≤ j ∧ j < 2 ^ 62) ∧ Q (rngD 0 j) m1
  | _ => False
def di_range1 {p : Pos} {wr : WA} (hg : Gl X "range") (hm : X.mg "range" = none) (h : DA X c [a] wr) (hs : starEach [a] X.env = [(false, eval a X.env)] := by rfl) : DI X c tg (.Call (.Name "range" p) [a] [] pos) (wRng1 wr) := by
  obtain ⟨t, p, r⟩ := h
  refine ⟨_, pi_range1 hg hm p hs, fun A ρ m σ H G Q R hw k => r A ρ m σ H G _ _ hw fun vs ds m1 H1 G1 k1 r1 q1 => ?_⟩
  split at q1
  · obtain ⟨v, rfl, rv⟩ := repA1 r1
    cases rv
    rename_i j
    have := k _ _ m1 H1 G1 k1 (iters_range (lo := 0) (n := (j - 0).toNat)) q1.2
    rw [Int.sub_zero] at this
    exact ⟨j, rfl, q1.1.1, q1.1.2, this⟩
  · cases q1
def wRng2 (wr : WA) : WA := fun ρ m Q => wr ρ m fun ds m1 => match ds with
  | [.int i, .int j] => (-(2 ^ 62) ≤ i ∧ i < 2 ^ 62 ∧ -(2 ^ 62) ≤ j ∧ j < 2 ^ 62) ∧ Q (rngD i j) m1
  | _ => False
def di_range2 {p : Pos} {wr : WA} (hg : Gl X "range") (hm : X.mg "range" = none) (h : DA X c [a, b] wr) (hs : starEach [a, b] X.env = [(false, eval a X.env), (false, eval b X.env)] := by rfl) (hs2 : starEach [b] X.env = [(false, eval b X.env)] := by rfl) : DI X c tg (.Call (.Name "range" p) [a, b] [] pos) (wRng2 wr) := by
  obtain ⟨t, p, r⟩ := h
  refine ⟨_, pi_range2 hg hm p hs hs2, fun A ρ m σ H G Q R hw k => r A ρ m σ H G _ _ hw fun vs ds m1 H1 G1 k1 r1 q1 => ?_⟩
  split at q1
  · obtain ⟨v, u, rfl, rv, ru⟩ := repA2 r1
    cases rv
    cases ru
    rename_i i j
    exact ⟨i, j, rfl, q1.1, k _ _ m1 H1 G1 k1 (iters_range (lo := i) (n := (j - i).toNat)) q1.2⟩
  · cases q1

/-! ### for -/
def wFor (ws : WA) (g : GD) (wb : WS) : WS := fun P ρ m => ws ρ m fun ds m1 => ∃ I : Nat → DW.Env → Nat → Prop, I 0 ρ m1 ∧
  (∀ i d ρ' m', ds[i]? = some d → I i ρ' m' → g d ρ' fun ρ2 => wb { nx := I (i + 1), ct := I (i + 1), bk := P.nx, rt := P.rt } ρ2 m') ∧ ∀ ρ' m', I ds.length ρ' m' → P.nx ρ' m'
def ds_for {ws : WA} {g : GD} {sl : List Nat} (hp : PassesOwn (model X.prog X.w) X.A X.env X.xe) (hc : X.calm = true) (hi : DI X c tg iter ws) (hg : DG X c tg g sl) (hb : DSs X c body w1) (hs : ∀ x, foldedSetIterable iter X.env x = pure x := by intro _; rfl) :
    DS X c (.For tg iter body [] pos) (wFor ws g w1) := by
  obtain ⟨wi, p1, r1⟩ := hi
  obtain ⟨t, p2, r2⟩ := hg
  obtain ⟨u, p3, r3⟩ := hb
  refine ⟨_, ps_for hp hc p1 p2 p3 hs, fun A ρ m σ H G P F hw n rt bk ct => r1 A ρ m σ H G _ _ hw fun J ds m1 H1 G1 k1 it q1 => ?_⟩
  obtain ⟨I, i0, turn, fin⟩ := q1
  have s1 := k1.step G.toBase
  refine ⟨fun i mm σ' H' => mm = ds.length - i ∧ i ≤ ds.length ∧ ∃ A' ρ' m', Good X.K c A' ρ' m' σ' H' ∧ Step A H1 A' H' ∧ I i ρ' m', ⟨_, rfl, Nat.zero_le _, A, ρ, m1, G1, Step.refl, i0⟩, ?_⟩
  rintro i mm σ2 H2 ⟨rfl, hi, A2, ρ2, m2, G2, s2, i2⟩
  obtain ⟨go, stop⟩ := it A2 H2 s2 G2.thr
  by_cases hlt : i < ds.length
  · obtain ⟨g1, y1⟩ := go i _ (List.getElem?_eq_getElem hlt)
    refine .inr ⟨g1, fun σ' H' => ∃ A' ρ' m', Good X.K c A' ρ' m' σ' H' ∧ Step A H1 A' H' ∧ I (i + 1) ρ' m', fun σ' H' ⟨A', ρ', m', G', s', i'⟩ => ⟨ds.length - (i + 1), by omega, rfl, hlt, A', ρ', m', G', s', i'⟩, fun x H3 y => ?_⟩
    obtain ⟨ex, rx⟩ := y1 x H3 y
    have k3 : Keep c H2 H3 := Keep.ofExt ex
    have G3 : Good X.K c A2 ρ2 m2 σ2 H3 := G2.step k3 fun q e => ((G2.pn q e).2.2).keep ex
    refine r2 A2 ρ2 m2 σ2 H3 x _ G3 rx _ _ (turn i _ ρ2 m2 (List.getElem?_eq_getElem hlt) i2) fun ρ4 σ4 G4 _ _ q4 => ?_
    have s3 : Step A H1 A2 H3 := s2.trans (k3.step G2.toBase)
    refine r3 A2 ρ4 m2 σ4 H3 G4 _ _ q4 (fun A5 ρ5 m5 σ5 H5 G5 s5 q5 => ⟨A5, ρ5, m5, G5, s3.trans s5, q5⟩) rt (fun A5 ρ5 m5 σ5 H5 G5 s5 q5 => ?_) (fun A5 ρ5 m5 σ5 H5 G5 s5 q5 => ⟨A5, ρ5, m5, G5, s3.trans s5, q5⟩)
    exact n A5 ρ5 m5 σ5 H5 G5 (s1.trans (s3.trans s5)) q5
  · have e : i = ds.length := by omega
    subst e
    exact .inl ⟨stop, n A2 ρ2 m2 σ2 H2 G2 (s1.trans s2) (fin ρ2 m2 i2)⟩
def wWhile (wt : WT) (wb : WS) : WS := fun P ρ m => ∃ I : Nat → DW.Env → Nat → Prop, (∃ k, I k ρ m) ∧ ∀ k ρ' m', I k ρ' m' → wt ρ' m' fun b m2 => if b = true then wb { nx := fun ρ2 m3 => ∃ k2, k2 < k ∧ I k2 ρ2 m3, ct := fun ρ2 m3 => ∃ k2, k2 < k ∧ I k2 ρ2 m3, bk := P.nx, rt := P.rt } ρ' m2 else P.nx ρ' m2
def ds_while (hp : PassesOwn (model X.prog X.w) X.A X.env X.xe) (ht : DT X c e wt) (hb : DSs X c body w1) : DS X c (.While e body [] pos) (wWhile wt w1) := by
  obtain ⟨t, p1, r1⟩ := ht
  obtain ⟨u, p2, r2⟩ := hb
  refine ⟨_, ps_while hp p1 p2, fun A ρ m σ H G P F hw n rt bk ct => ?_⟩
  obtain ⟨I, ⟨k0, i0⟩, turn⟩ := hw
  refine ⟨fun k σ' H' => ∃ A' ρ' m', Good X.K c A' ρ' m' σ' H' ∧ Step A H A' H' ∧ I k ρ' m', ⟨k0, A, ρ, m, G, Step.refl, i0⟩, ?_⟩
  rintro k σ2 H2 ⟨A2, ρ2, m2, G2, s2, i2⟩
  refine r1 A2 ρ2 m2 σ2 H2 G2 _ _ (turn k ρ2 m2 i2) fun bb m3 H3 G3 k3 q3 => ?_
  have s3 : Step A H A2 H3 := s2.trans (k3.step G2.toBase)
  cases bb with
  | true =>
    refine ⟨fun σ' H' => ∃ k2, k2 < k ∧ ∃ A' ρ' m', Good X.K c A' ρ' m' σ' H' ∧ Step A H A' H' ∧ I k2 ρ' m', fun σ' H' ⟨k2, l, z⟩ => ⟨k2, l, z⟩, ?_⟩
    exact r2 A2 ρ2 m3 σ2 H3 G3 _ _ q3 (fun A5 ρ5 m5 σ5 H5 G5 s5 ⟨k2, l, q5⟩ => ⟨k2, l, A5, ρ5, m5, G5, s3.trans s5, q5⟩) rt (fun A5 ρ5 m5 σ5 H5 G5 s5 q5 => n A5 ρ5 m5 σ5 H5 G5 (s3.trans s5) q5) (fun A5 ρ5 m5 σ5 H5 G5 s5 ⟨k2, l, q5⟩ => ⟨k2, l, A5, ρ5, m5, G5, s3.trans s5, q5⟩)
  | false => exact n A2 ρ2 m3 σ2 H3 G3 s3 q3

/-! ### comprehensions -/
def wipeE (ρ : DW.Env) : List Nat → DW.Env
  | [] => ρ
  | v :: vs => (wipeE ρ vs).set v .un
theorem Good.wipe {K : PySem.W.Frag} {A : List Addr} {ρ : DW.Env} {m : Nat} {σ : L2.St} {H : Hp} (G : Good K c A ρ m σ H) : ∀ vs : List Nat, Good K c A (wipeE ρ vs) m (L2.wipe σ vs) H
  | [] => G
  | v :: vs => (Good.wipe G vs).wipe1 v
theorem wipe_at {σ : L2.St} (j : Nat) : ∀ vs : List Nat, (L2.wipe σ vs)[j]? = if j ∈ vs ∧ j < σ.length then some none else σ[j]?
  | [] => by simp [L2.wipe]
  | v :: vs => by
    unfold L2.wipe
    by_cases h : v = j
    · subst h
      by_cases hl : v < σ.length
      · rw [List.getElem?_set_self (by rw [L2.wipe_length]; exact hl), if_pos ⟨List.mem_cons_self .., hl⟩]
      · rw [List.getElem?_eq_none (by rw [List.length_set, L2.wipe_length]; omega), if_neg (fun z => hl z.2), List.getElem?_eq_none (by omega)]
    · rw [List.getElem?_set_ne h, wipe_at j vs]
      have : (j ∈ v :: vs ∧ j < σ.length) ↔ (j ∈ vs ∧ j < σ.length) := by
        simp [List.mem_cons, Ne.symm h]
      by_cases q : j ∈ vs ∧ j < σ.length
      · rw [if_pos q, if_pos (this.mpr q)]
      · rw [if_neg q, if_neg (fun z => q (this.mp z))]
theorem wipe_eq {σ σ' : L2.St} {vs : List Nat} (hl : σ'.length = σ.length) (h : ∀ j, j ∉ vs → σ'[j]? = (L2.wipe σ vs)[j]?) : L2.wipe σ' vs = L2.wipe σ vs := by
  refine List.ext_getElem? fun j => ?_
  rw [wipe_at, wipe_at]
  by_cases q : j ∈ vs
  · by_cases l : j < σ.length
    · rw [if_pos ⟨q, by omega⟩, if_pos ⟨q, l⟩]
    · rw [if_neg (fun z => l (by omega)), if_neg (fun z => l z.2), List.getElem?_eq_none (by omega), List.getElem?_eq_none (by omega)]
  · rw [if_neg (fun z => q z.1), if_neg (fun z => q z.1), h j q, wipe_at, if_neg (fun z => q z.1)]
def wLc (ws : WA) (g : GD) (wt : WT) (we : WE) (vs : List Nat) : WA := fun ρ m Q => ws ρ m fun ds m1 => ds.length < sizeLine ∧ ∃ I : Nat → List D → Nat → Prop, I 0 [] m1 ∧
  (∀ i d acc m', ds[i]? = some d → I i acc m' → g d (wipeE ρ vs) fun ρ2 => wt ρ2 m' fun b m2 => if b = true then we ρ2 m2 fun y m3 => I (i + 1) (acc ++ [y]) m3 else I (i + 1) acc m2) ∧ ∀ acc m', I ds.length acc m' → Q acc m'
structure DTs (X : Cx) (c : C0) (ifs : List Expr) (w : WT) where
  t : TT
  pe : PTs X ifs t
  rd : RdT X.K c t w
def wYes : WT := fun _ m Q => Q true m
def dts_nil : DTs X c [] wYes := ⟨_, pts_nil, fun A ρ m σ H G Q Qv hw k => k true m H G Keep.refl hw⟩
def dts_one (h : DT X c e wt) : DTs X c [e] wt := ⟨_, pts_one h.pe, h.rd⟩
theorem rd_lc {K : PySem.W.Frag} {wi : TI} {t : TG} {tt : TT} {te : TE} {ws : WA} {g : GD} {sl vs : List Nat} (r1 : RdI K c wi ws) (r2 : RdG K c t g sl) (hsl : ∀ j ∈ sl, j ∈ vs) (r3 : RdT K c tt wt) (r4 : RdE K c te we) : RdL K c (tLc wi t tt te vs) (wLc ws g wt we vs) := fun A ρ m σ H G Q Qv hw k => by
  refine r1 A ρ m σ H G _ _ hw fun J ds m1 H1 G1 k1 it ⟨hz, I, i0, turn, fin⟩ => ?_
  intro L hL
  have nL : L ∉ A := G1.notin hL
  have nL0 : L ∉ c.A0 := fun z => nL (G1.sub L z)
  refine ⟨fun i mm H' => mm = ds.length - i ∧ i ≤ ds.length ∧ ∃ m' acc xs, Good K c (L :: A) (wipeE ρ vs) m' (L2.wipe σ vs) H' ∧ Keep c H1 H' ∧ H' L = some (.lst xs) ∧ RepA c.p K (cut (L :: A) H') xs acc ∧ acc.length ≤ i ∧ I i acc m', ⟨ds.length, by simp, Nat.zero_le _, m1, [], [], (G1.wipe vs).take hL, Keep.new hL, upd_same, .nil, Nat.le_refl _, i0⟩, ?_⟩
  rintro i mm H2 ⟨rfl, hi, m2, acc, xs, G2, k2, e2, ra, hacc, i2⟩
  have stA : ∀ {H' : Hp}, Keep c H1 H' → Step A H1 (L :: A) H' := fun {H'} kk => ⟨kk.grow G1.toBase, fun a h => (List.mem_cons.mp h).elim (fun z => .inr (by rw [z]; exact hL)) .inl⟩
  obtain ⟨go, stop⟩ := it (L :: A) H2 (stA k2) G2.thr
  by_cases hlt : i < ds.length
  · obtain ⟨g1, y1⟩ := go i _ (List.getElem?_eq_getElem hlt)
    refine .inr ⟨g1, fun H' => ∃ m' acc xs, Good K c (L :: A) (wipeE ρ vs) m' (L2.wipe σ vs) H' ∧ Keep c H1 H' ∧ H' L = some (.lst xs) ∧ RepA c.p K (cut (L :: A) H') xs acc ∧ acc.length ≤ i + 1 ∧ I (i + 1) acc m', fun H' z => ⟨ds.length - (i + 1), by omega, rfl, hlt, z⟩, fun x H3 y => ?_⟩
    obtain ⟨ex, rx⟩ := y1 x H3 y
    have k3 : Keep c H2 H3 := Keep.ofExt ex
    have G3 : Good K c (L :: A) (wipeE ρ vs) m2 (L2.wipe σ vs) H3 := G2.step k3 fun q e => ((G2.pn q e).2.2).keep ex
    refine r2 (L :: A) _ m2 _ H3 x _ G3 rx _ _ (turn i _ acc m2 (List.getElem?_eq_getElem hlt) i2) fun ρ4 σ4 G4 l4 f4 q4 => ?_
    refine ⟨wipe_eq (by rw [l4, L2.wipe_length]) fun j hj => f4 j fun z => hj (hsl j z), ?_⟩
    -- slots of the block are forgotten again
    have back : ∀ {m5 : Nat} {H5 : Hp}, Keep c H3 H5 → Good K c (L :: A) ρ4 m5 σ4 H5 → Good K c (L :: A) (wipeE ρ vs) m5 (L2.wipe σ vs) H5 := fun {m5 H5} kk gg => G3.step kk fun q e => (gg.pn q e).2.2
    refine r3 (L :: A) ρ4 m2 σ4 H3 G4 _ _ q4 fun bb m5 H5 G5 k5 q5 => ?_
    have e5 : H5 L = some (.lst xs) := k5 L _ (fun z => nL0 (G1.pn L z).1) (k3 L _ (fun z => nL0 (G1.pn L z).1) e2)
    have k15 : Keep c H1 H5 := k2.trans (k3.trans k5)
    have ra5 : RepA c.p K (cut (L :: A) H5) xs acc := ra.ext ((k3.trans k5).grow G2.toBase).cut
    cases bb with
    | false => exact ⟨m5, acc, xs, back k5 G5, k15, e5, ra5, by omega, q5⟩
    | true =>
      refine r4 (L :: A) ρ4 m5 σ4 H5 G5 _ _ q5 fun v d m6 H6 G6 k6 r6 q6 => ?_
      have e6 : H6 L = some (.lst xs) := k6 L _ (fun z => nL0 (G1.pn L z).1) e5
      refine ⟨xs, e6, ?_, m6, acc ++ [d], xs ++ [v], ?_, ?_, upd_same, ?_, by rw [List.length_append, List.length_singleton]; omega, q6⟩
      · rw [ra.length]
        exact Nat.lt_of_le_of_lt hacc (Nat.lt_trans hlt hz)
      · have own : ∀ (j : Nat) (es : List D), (wipeE ρ vs)[j]? = some (Cell.own es) → (L2.wipe σ vs)[j]? ≠ some (some (V.ref L)) := own_ne (G1.wipe vs) nL
        exact (back (k5.trans k6) G6).mut (List.mem_cons_self ..) nL0 own
      · intro b o nb e
        rw [upd_ne (ne_of_none e hL)]
        exact k6 b o nb (k15 b o nb e)
      · have ec : Ext (cut (L :: A) H6) (cut (L :: A) (upd H6 L (.lst (xs ++ [v])))) := fun b u e => by
          obtain ⟨n, q⟩ := cut_some e
          have nb : b ≠ L := fun z => n (by rw [z]; exact List.mem_cons_self ..)
          exact cut_of n (by rw [upd_ne nb]; exact q)
        exact (((ra5.ext ((k6.grow G5.toBase).cut)).append (.one r6))).ext ec
  · have e : i = ds.length := by omega
    subst e
    refine .inl ⟨stop, k L xs acc m2 H2 ?_ nL (none_back G1 k1 hL) (k1.trans k2) e2 ra (fin acc m2 i2)⟩
    exact G1.steps k2 (fun q e => (G2.pn q e).2.2) (fun a h => List.mem_cons_of_mem _ h) (stA k2).own G2.thr
def dl_lc {elt : Expr} {ifs : List Expr} {scope : Scope} {own : List (Str × Nat)} {ws : WA} {g : GD} {sl : List Nat} (hc : X.calm = true) (hN : X.N.Nodup) (hi : DI X c tg iter ws) (ok : BlkOk X.N X.env.scope scope own)
    (hg : ∀ (s : Shared) (H : Hp) (C : Addr) (cl : List (Str × Addr)) (fp : List Addr), DG (X.blk s H scope (compEnvC scope cl C X.env) fp) c tg g sl) (hsl : ∀ j ∈ sl, j ∈ own.map (·.2))
    (ht : ∀ (s : Shared) (H : Hp) (C : Addr) (cl : List (Str × Addr)) (fp : List Addr), DTs (X.blk s H scope (compEnvC scope cl C X.env) fp) c ifs wt)
    (he : ∀ (s : Shared) (H : Hp) (C : Addr) (cl : List (Str × Addr)) (fp : List Addr), DE (X.blk s H scope (compEnvC scope cl C X.env) fp) c elt we)
    (ug : ∀ (s : Shared) (H : Hp) (C : Addr) (cl : List (Str × Addr)) (fp : List Addr), (hg s H C cl fp).t = (hg X.s_0 X.H_0 0 [] []).t := by intros; rfl)
    (ut : ∀ (s : Shared) (H : Hp) (C : Addr) (cl : List (Str × Addr)) (fp : List Addr), (ht s H C cl fp).t = (ht X.s_0 X.H_0 0 [] []).t := by intros; rfl)
    (ue : ∀ (s : Shared) (H : Hp) (C : Addr) (cl : List (Str × Addr)) (fp : List Addr), (he s H C cl fp).t = (he X.s_0 X.H_0 0 [] []).t := by intros; rfl)
    (hs : ∀ x, foldedSetIterable iter X.env x = pure x := by intro _; rfl) :
    DL X c (.ListComp elt [⟨tg, iter, ifs, 0⟩] scope pos) (wLc ws g wt we (own.map (·.2))) :=
  ⟨_, pe_lc hc hN hi.pe ok (fun s H C cl fp => by rw [← ug s H C cl fp]; exact (hg s H C cl fp).pe) (fun s H C cl fp => by rw [← ut s H C cl fp]; exact (ht s H C cl fp).pe) (fun s H C cl fp => by rw [← ue s H C cl fp]; exact (he s H C cl fp).pe) hs,
    rd_lc hi.rd (hg X.s_0 X.H_0 0 [] []).rd hsl (ht X.s_0 X.H_0 0 [] []).rd (he X.s_0 X.H_0 0 [] []).rd⟩

/-! ### a def's promise -/
def initE (n : Nat) (ds : List D) : DW.Env := ds.map Cell.dat ++ List.replicate (n - ds.length) Cell.un
theorem start_good {K : PySem.W.Frag} {p : Option Addr} {cc : Addr} {A : List Addr} {m : Nat} {H : Hp} {N : List Str} {vs : List V} {ds : List D} (r : RepA p K (cut A H) vs ds) (pn : ∀ q, p = some q → q ∈ A ∧ cc ∈ A ∧ PenAt H q cc m) (thr : ∀ a ∈ A, ∃ o, H a = some o) :
    Good K ⟨H, p, cc, A⟩ A (initE N.length ds) m (L2.start N vs) H := by
  have hl := r.length
  refine ⟨⟨fun _ _ _ e => e, pn, fun _ h => h, fun _ h => .inl h, thr⟩, ?_, fun i k e => ?_⟩
  · unfold initE L2.start
    simp [hl]
  · unfold initE at e
    unfold L2.start
    by_cases hi : i < ds.length
    · rw [List.getElem?_append_left (by simpa using hi), List.getElem?_map] at e
      rw [List.getElem?_eq_getElem hi] at e
      have e' : Cell.dat ds[i] = k := by simpa using e
      subst e'
      obtain ⟨v, h1, h2⟩ := r.get (List.getElem?_eq_getElem hi)
      refine ⟨v, ?_, h2⟩
      rw [List.getElem?_append_left (by rw [List.length_map, hl]; exact hi), List.getElem?_map, h1]
      rfl
    · rw [List.getElem?_append_right (by simpa using hi)] at e
      have : k = Cell.un := by
        rw [List.getElem?_replicate] at e
        split at e
        · exact (Option.some.inj e).symm
        · cases e
      subst this
      trivial
/-- THE RULE for a def: its body by data -/
theorem fn_data {g : Bool} {P : Program} {w : World} {K : PySem.W.Frag} {mg : Str → Option Value} {base : Heap} {x qual : Str} {st : Stmt} {f : Addr} {fd : FuncData} {N ps : List Str} {k : Nat} {fw : FW} {wb : WS} (F : Fun K x qual st f fd) (S : FnScope N ps (defScope st)) (ar : ∀ ds m Q, fw ds m Q → ds.length = ps.length)
    (hbody : ∀ (cdv : Value) (A : Around) (outer : List PySem.Env) (s : Shared) (H : Hp) (E : XK) (c : C0), Room k (A.deeper (PyProof.Rows.envOfC qual (defScope st) s.heap.objs.size f cdv)) → (g = true → A.guards = some []) → DSs (cxOf CX0 P w K mg base N qual (defScope st) f cdv A outer s H E).nox c (defBody st) wb)
    (hw : ∀ ds m Q, fw ds m Q → wb { nx := fun _ m => Q .non m, rt := Q } (initE N.length ds) m) : FnG g P w K mg base CX0 (k + 1) f fd ps (spD K fw) := by
  refine fnG_of F S (fun vs H Q E h => ?_) (fun cdv A outer s H vs Q E hr hg h => ?_)
  · obtain ⟨p, cc, B, ds, m, R, r, _, _, q, _⟩ := h
    rw [r.length]
    exact ar ds m R q
  · obtain ⟨p, cc, B, ds, m, R, r, pn, thr, q, k⟩ := h
    have d := hbody cdv A outer s H E ⟨H, p, cc, B⟩ hr hg
    refine ⟨d.t, d.pe.nox, ?_⟩
    refine d.rd B _ m _ H (start_good r pn thr) _ _ (hw ds m R q) (fun A' ρ' m' σ' H' G s p => ?_) (fun v d' A' m' H' G rep p => ?_) (fun _ _ _ _ _ _ _ z => z.elim) (fun _ _ _ _ _ _ _ z => z.elim)
    · exact k .non .non m' H' G.ex (fun q e => (G.pn q e).2.2) .non p
    · exact k v d' m' H' G.ex (fun q e => (G.pn q e).2.2) (rep.ext (cut_sub G.sub)) p
/-- .. with its name and its arguments' binding -/
theorem dfn_mk {g : Bool} {P : Program} {w : World} {K : PySem.W.Frag} {mg : Str → Option Value} {base : Heap} {x : Str} {f : Addr} {fd : FuncData} {ps : List Str} {k : Nat} {fw : FW} (F : FnG g P w K mg base CX0 k f fd ps (spD K fw)) (hm : mg x = some (.ref f)) (hk : PySem.W.keepIn K (.ref f) = true) (hb : Binds K fd ps []) : DFn g P w K mg base k x fw := ⟨f, fd, ps, F, hm, hk, hb⟩
end
end DW

/-! DW7: slices, enumerate, a name that takes a comprehension, isinstance, repr, is, in, products. -/
namespace DW
open PySem PySem.Spec L2

section
variable {X : Cx} {c : C0} {e a b tg iter : Expr} {es : List Expr} {we wa wb : WE} {pos p2 : Pos}

/-! ### slices -/
abbrev WO := DW.Env → Nat → (Option Int → Nat → Prop) → Prop
def RdO (K : PySem.W.Frag) (c : C0) (t : TO) (w : WO) : Prop := ∀ A ρ m σ H, Good K c A ρ m σ H → ∀ (Q : Option Int → Nat → Prop) (Qv : Option Int → Hp → Prop), w ρ m Q →
  (∀ o m' H', Good K c A ρ m' σ H' → Keep c H H' → Q o m' → Qv o H') → t σ H Qv
structure DO (X : Cx) (c : C0) (e : Option Expr) (w : WO) where
  t : TO
  pe : PO X e t
  rd : RdO X.K c t w
def do_none : DO X c none (fun _ m Q => Q none m) := ⟨_, po_none, fun A ρ m σ H G Q Qv hw k => k none m H G Keep.refl hw⟩
def wPart (we : WE) : WO := fun ρ m Q => we ρ m fun d m1 => match d with
  | .int i => Q (some i) m1
  | _ => False
def do_some (h : DE X c e we) : DO X c (some e) (wPart we) := ⟨_, po_some h.pe, fun A ρ m σ H G Q Qv hw k => h.rd A ρ m σ H G _ _ hw fun v d m1 H1 G1 k1 r1 q1 => by
  cases d <;> first | (exact False.elim q1) | skip
  cases r1
  exact ⟨_, rfl, k _ m1 H1 G1 k1 q1⟩⟩
/-- xs[lo:hi] -/
def cutG {α : Type} (xs : List α) (lo hi : Option Int) : List α := (xs.drop (HT.sIx xs.length 0 lo)).take (HT.sIx xs.length xs.length hi - HT.sIx xs.length 0 lo)
theorem RepA.cut {p : Option Addr} {K : PySem.W.Frag} {H : Hp} {vs : List V} {ds : List D} (r : RepA p K H vs ds) (lo hi : Option Int) : RepA p K H (cutV vs lo hi) (cutG ds lo hi) := by
  unfold cutV cutG
  rw [r.length]
  exact (r.drop _).take _
theorem cutG_whole {α : Type} {xs : List α} {lo hi : Option Int} (h : HT.sIx xs.length 0 lo = 0 ∧ HT.sIx xs.length xs.length hi = xs.length) : cutG xs lo hi = xs := by
  unfold cutG
  rw [h.1, h.2, List.drop_zero, Nat.sub_zero, List.take_length]
def sliceD : D → Option Int → Option Int → (D → Prop) → Prop
  | .lst ds, lo, hi, Q => Q (.lst (cutG ds lo hi))
  | .tup ds, lo, hi, Q => Q (.tup (cutG ds lo hi))
  | .str x, lo, hi, Q => x.length ≤ sizeLine ∧ Q (.str (cutS x lo hi))
  | _, _, _, _ => False
def wSlice (we : WE) (wl wh : WO) : WE := fun ρ m Q => we ρ m fun d m1 => wl ρ m1 fun lo m2 => wh ρ m2 fun hi m3 => sliceD d lo hi fun z => Q z m3
def de_slice {lo hi : Option Expr} {wl wh : WO} (h : DE X c e we) (hl : DO X c lo wl) (hh : DO X c hi wh) : DE X c (.Subscript e (.Slice lo hi none p2) pos) (wSlice we wl wh) :=
  ⟨_, pe_slice (SlR.or sl_list (SlR.or sl_tupA sl_str)) h.pe hl.pe hh.pe, fun A ρ m σ H G Q Qv hw k => h.rd A ρ m σ H G _ _ hw fun v d m1 H1 G1 k1 r1 q1 => hl.rd A ρ m1 σ H1 G1 _ _ q1 fun l1 m2 H2 G2 k2 q2 => hh.rd A ρ m2 σ H2 G2 _ _ q2 fun l2 m3 H3 G3 k3 q3 => by
    have r3 := r1.ext ((k2.trans k3).grow G1.toBase).cut
    have k13 := k1.trans (k2.trans k3)
    unfold sliceD at q3
    split at q3
    · cases r3 with
      | lst h1 r2 => exact .inl ⟨_, _, rfl, SqL.of (cut_some h1).2, fun p hp => k _ _ m3 _ (G3.fresh hp) (k13.trans (Keep.new hp)) (.lst (G3.freshN hp) ((RepA.cut r2 _ _).ext (fresh_ext hp))) q3⟩
    · cases r3 with
      | tup h1 r2 =>
        refine .inr (.inl ⟨_, _, rfl, SqT.uncut h1, fun hwh => ?_, fun _ p hp => ?_⟩)
        · rw [r2.length] at hwh
          rw [cutG_whole hwh] at q3
          exact k _ _ m3 H3 G3 k13 (.tup h1 r2) q3
        · exact k _ _ m3 _ (G3.fresh hp) (k13.trans (Keep.new hp)) (.tup (SqT.of (G3.freshN hp)) ((RepA.cut r2 _ _).ext (fresh_ext hp))) q3
    · cases r3
      exact .inr (.inr ⟨_, rfl, q3.1, k _ _ m3 H3 G3 k13 (.str _) q3.2⟩)
    · cases q3⟩

/-! ### enumerate -/
def enumD (ds : List D) : List D := ds.mapIdx fun i d => D.tup [.int (i : Int), d]
theorem iters_enum {p : Option Addr} {K : PySem.W.Frag} {A : List Addr} {H : Hp} {a : Addr} {xs : List V} {ds : List D} (h : cut A H a = some (.lst xs)) (r : RepA p K (cut A H) xs ds) : Iters p K A (enumD ds) (Ite K a) H := fun A' H' s thr => by
  have e := s.cut
  have h' := (cut_some (e _ _ h)).2
  refine ⟨fun i d hd => ?_, ⟨xs, SqL.of h', by unfold enumD; rw [List.length_mapIdx]; exact Nat.le_of_eq r.length⟩⟩
  unfold enumD at hd
  rw [List.getElem?_mapIdx] at hd
  cases q : ds[i]? with
  | none =>
    rw [q] at hd
    cases hd
  | some d0 =>
    rw [q] at hd
    have e0 : D.tup [.int (i : Int), d0] = d := by simpa using hd
    subst e0
    obtain ⟨v, hv, rv⟩ := r.get q
    refine ⟨⟨xs, v, SqL.of h', hv⟩, fun x H2 y => ?_⟩
    obtain ⟨T, x0, rfl, nT, rfl, y⟩ := y
    have := y xs (SqL.of h')
    rw [hv] at this
    cases this
    have ex : Ext H' (upd H' T (.tup [.int (i : Nat), v])) := fun b u hb => by
      rw [upd_ne (ne_of_none hb nT)]
      exact hb
    have nA : T ∉ A' := fun z => by
      obtain ⟨o, ho⟩ := thr T z
      rw [nT] at ho
      cases ho
    have ec : Ext (cut A' H') (cut A' (upd H' T (.tup [.int (i : Nat), v]))) := fun b u hb => by
      obtain ⟨n, z⟩ := cut_some hb
      exact cut_of n (ex b u z)
    exact ⟨ex, .tup (SqT.of (cut_of nA upd_same)) (.cons (.int _) (.one (rv.ext (fun b u z => ec b u (e b u z)))))⟩
def wEnum (wr : WA) : WA := fun ρ m Q => wr ρ m fun ds m1 => match ds with
  | [.lst es] => Q (enumD es) m1
  | _ => False
def di_enum {p tpos : Pos} {elts : List Expr} {kk : Nat} {wr : WA} (hg : Gl X "enumerate") (hm : X.mg "enumerate" = none) (h : DA X c [a] wr) (hs : starEach [a] X.env = [(false, eval a X.env)] := by rfl) : DI X c (.Tuple elts kk tpos) (.Call (.Name "enumerate" p) [a] [] pos) (wEnum wr) :=
  ⟨_, pi_enum hg hm h.pe hs, fun A ρ m σ H G Q R hw k => h.rd A ρ m σ H G _ _ hw fun vs ds m1 H1 G1 k1 r1 q1 => by
    split at q1
    · obtain ⟨v, rfl, rv⟩ := repA1 r1
      cases rv with
      | lst h1 r2 => exact ⟨_, _, rfl, SqL.of (cut_some h1).2, k _ _ m1 H1 G1 k1 (iters_enum h1 r2) q1⟩
    · cases q1⟩

/-! ### y = [..]: a name takes a comprehension -/
def ds_setLc {i : Nat} {y : Str} {py spos : Pos} {elt : Expr} {ifs : List Expr} {scope : Scope} {own : List (Str × Nat)} {ws : WA} {g : GD} {sl : List Nat} {wt : WT} (hN : X.N.Nodup) (hy : X.N[i]? = some y) (hyl : X.env.scope.names.lookup y = some .local)
    (hsw : swapsWith (.ListComp elt [⟨tg, iter, ifs, 0⟩] scope pos) (some (.Name y py)) spos.line X.env = pure true) (hc : X.calm = true) (hi : DI X c tg iter ws) (ok : BlkOk X.N X.env.scope scope own)
    (hg : ∀ (s : Shared) (H : Hp) (C : Addr) (cl : List (Str × Addr)) (fp : List Addr), DG (X.blk s H scope (compEnvC scope cl C X.env) fp) c tg g sl) (hsl : ∀ j ∈ sl, j ∈ own.map (·.2))
    (ht : ∀ (s : Shared) (H : Hp) (C : Addr) (cl : List (Str × Addr)) (fp : List Addr), DTs (X.blk s H scope (compEnvC scope cl C X.env) fp) c ifs wt)
    (he : ∀ (s : Shared) (H : Hp) (C : Addr) (cl : List (Str × Addr)) (fp : List Addr), DE (X.blk s H scope (compEnvC scope cl C X.env) fp) c elt we)
    (ug : ∀ (s : Shared) (H : Hp) (C : Addr) (cl : List (Str × Addr)) (fp : List Addr), (hg s H C cl fp).t = (hg X.s_0 X.H_0 0 [] []).t := by intros; rfl)
    (ut : ∀ (s : Shared) (H : Hp) (C : Addr) (cl : List (Str × Addr)) (fp : List Addr), (ht s H C cl fp).t = (ht X.s_0 X.H_0 0 [] []).t := by intros; rfl)
    (ue : ∀ (s : Shared) (H : Hp) (C : Addr) (cl : List (Str × Addr)) (fp : List Addr), (he s H C cl fp).t = (he X.s_0 X.H_0 0 [] []).t := by intros; rfl)
    (hs : ∀ x, foldedSetIterable iter X.env x = pure x := by intro _; rfl) :
    DS X c (.Assign [.Name y py] (.ListComp elt [⟨tg, iter, ifs, 0⟩] scope pos) spos) (wSetO i (wLc ws g wt we (own.map (·.2)))) :=
  ⟨_, ps_setLc (i := i) hc hN hy hyl hsw hi.pe ok (fun s H C cl fp => by rw [← ug s H C cl fp]; exact (hg s H C cl fp).pe) (fun s H C cl fp => by rw [← ut s H C cl fp]; exact (ht s H C cl fp).pe) (fun s H C cl fp => by rw [← ue s H C cl fp]; exact (he s H C cl fp).pe) hs,
    fun A ρ m σ H G P F h n rt b ct => (rd_lc hi.rd (hg X.s_0 X.H_0 0 [] []).rd hsl (ht X.s_0 X.H_0 0 [] []).rd (he X.s_0 X.H_0 0 [] []).rd) A ρ m σ H G _ _ h fun a xs ds m1 H1 G1 na ha k1 ea r1 q1 => by
      refine n (a :: A) _ m1 _ H1 (G1.setOwn (fun z => na (G.sub a z)) (own_ne G na) ea r1 i) ⟨k1.grow G.toBase, fun b hb => ?_⟩ q1
      rcases List.mem_cons.mp hb with z | z
      · exact .inr (by rw [z]; exact ha)
      · exact .inl z⟩
/-- .. never changed: data at once -/
theorem RdL.de {K : PySem.W.Frag} {t : TE} {w : WA} (r : RdL K c t w) : RdE K c t (fun ρ m Q => w ρ m fun ds m1 => Q (.lst ds) m1) := fun A ρ m σ H G Q Qv hw k => r A ρ m σ H G _ Qv hw fun a xs ds m' H' G' na ha kp ea rep q =>
  k (.ref a) (.lst ds) m' H' (G'.drop G.sub (own_ne G na)) kp (.lst (cut_of na ea) (rep.ext (cut_sub fun b h => List.mem_cons_of_mem _ h))) q
def ds_setLcD {i : Nat} {y : Str} {py spos : Pos} {elt : Expr} {ifs : List Expr} {scope : Scope} {own : List (Str × Nat)} {ws : WA} {g : GD} {sl : List Nat} {wt : WT} (hN : X.N.Nodup) (hy : X.N[i]? = some y) (hyl : X.env.scope.names.lookup y = some .local)
    (hsw : swapsWith (.ListComp elt [⟨tg, iter, ifs, 0⟩] scope pos) (some (.Name y py)) spos.line X.env = pure true) (hc : X.calm = true) (hi : DI X c tg iter ws) (ok : BlkOk X.N X.env.scope scope own)
    (hg : ∀ (s : Shared) (H : Hp) (C : Addr) (cl : List (Str × Addr)) (fp : List Addr), DG (X.blk s H scope (compEnvC scope cl C X.env) fp) c tg g sl) (hsl : ∀ j ∈ sl, j ∈ own.map (·.2))
    (ht : ∀ (s : Shared) (H : Hp) (C : Addr) (cl : List (Str × Addr)) (fp : List Addr), DTs (X.blk s H scope (compEnvC scope cl C X.env) fp) c ifs wt)
    (he : ∀ (s : Shared) (H : Hp) (C : Addr) (cl : List (Str × Addr)) (fp : List Addr), DE (X.blk s H scope (compEnvC scope cl C X.env) fp) c elt we)
    (ug : ∀ (s : Shared) (H : Hp) (C : Addr) (cl : List (Str × Addr)) (fp : List Addr), (hg s H C cl fp).t = (hg X.s_0 X.H_0 0 [] []).t := by intros; rfl)
    (ut : ∀ (s : Shared) (H : Hp) (C : Addr) (cl : List (Str × Addr)) (fp : List Addr), (ht s H C cl fp).t = (ht X.s_0 X.H_0 0 [] []).t := by intros; rfl)
    (ue : ∀ (s : Shared) (H : Hp) (C : Addr) (cl : List (Str × Addr)) (fp : List Addr), (he s H C cl fp).t = (he X.s_0 X.H_0 0 [] []).t := by intros; rfl)
    (hs : ∀ x, foldedSetIterable iter X.env x = pure x := by intro _; rfl) :
    DS X c (.Assign [.Name y py] (.ListComp elt [⟨tg, iter, ifs, 0⟩] scope pos) spos) (wSet i fun ρ m Q => wLc ws g wt we (own.map (·.2)) ρ m fun ds m1 => Q (.lst ds) m1) :=
  ⟨_, ps_setLc (i := i) hc hN hy hyl hsw hi.pe ok (fun s H C cl fp => by rw [← ug s H C cl fp]; exact (hg s H C cl fp).pe) (fun s H C cl fp => by rw [← ut s H C cl fp]; exact (ht s H C cl fp).pe) (fun s H C cl fp => by rw [← ue s H C cl fp]; exact (he s H C cl fp).pe) hs,
    fun A ρ m σ H G P F h n rt b ct => (rd_lc hi.rd (hg X.s_0 X.H_0 0 [] []).rd hsl (ht X.s_0 X.H_0 0 [] []).rd (he X.s_0 X.H_0 0 [] []).rd).de A ρ m σ H G (fun d m1 => P.nx (ρ.set i (.dat d)) m1) _ h fun v d m1 H1 G1 k1 r1 q1 =>
      n A _ m1 _ H1 (G1.set r1 i) (k1.step G.toBase) q1⟩

/-! ### isinstance -/
/-- a value's type, by data; of an instance its class -/
def D.tyv : D → Option Value
  | .non => some (.type "NoneType")
  | .bl _ => some (.type "bool")
  | .int _ => some (.type "int")
  | .str _ => some (.type "str")
  | .lst _ => some (.type "list")
  | .tup _ => some (.type "tuple")
  | _ => none
theorem Rep.tyx {p : Option Addr} {K : PySem.W.Frag} {A : List Addr} {H : Hp} {v : V} {d : D} {t : Value} (r : Rep p K (DW.cut A H) v d) (h : d.tyv = some t) : TyX K H v t := by
  cases r with
  | non => cases h; exact .base .non
  | bl b => cases h; exact .base (.bl b)
  | int i => cases h; exact .base (.int i)
  | str x => cases h; exact .base (.str x)
  | lst h1 _ => cases h; exact .base (.lst (cut_some h1).2)
  | tup h1 _ =>
    cases h
    rcases SqT.uncut h1 with (z | ⟨o, z⟩) | ⟨o, its, n, z1, z2, _⟩
    · exact .base (.tup z)
    · exact .fTuple z
    · exact .kTuple z1 z2
  | obj _ _ => cases h
  | exc _ _ _ => cases h
  | exc0 _ => cases h
  | pen _ => cases h
/-- isinstance(x, T), T a built-in class, x plain data -/
def wIsiTy (T : String) (wa : WE) : WE := fun ρ m Q => wa ρ m fun d m1 => ∃ t k, d.tyv = some (.type t) ∧ kitB t T = some k ∧ Q (.bl k) m1
def de_isiTy {T : String} {p p' : Pos} {x : Str} (hg : Gl X "isinstance") (hm : X.mg "isinstance" = none) (hgT : Gl X x) (hmT : X.mg x = none) (hvT : bootBuiltins x = some (.type T)) (ha : DE X c a wa) (hn : x ≠ "__name__" := by decide) (hdb : (x == ("__debug__" : Str)) = false := by decide)
    (he : starEach [a, .Name x p'] X.env = (false, eval a X.env) :: starEach [.Name x p'] X.env := by rfl) (he2 : starEach [.Name x p'] X.env = (false, eval (.Name x p') X.env) :: starEach [] X.env := by rfl) (hpl : (backTo pos (starEach [.Name x p'] X.env)).any (·.1) = false := by rfl) :
    DE X c (.Call (.Name "isinstance" p) [a, .Name x p'] [] pos) (wIsiTy T wa) :=
  ⟨_, pe_callB call_isi hg hm (by decide +kernel) (pa_cons ha.pe (pa_cons (pe_bltn (v := .ty T) hgT hmT hvT rfl hn hdb) pa_nil he2) he) (he := he) (hpl := hpl), fun A ρ m σ H G Q Qv hw k => ha.rd A ρ m σ H G _ _ hw fun v d m1 H1 G1 k1 r1 ⟨t, kk, e1, e2, q⟩ => by
    exact ⟨v, .ty T, .type t, .type T, kk, rfl, .ty T, r1.tyx e1, kit_ty e2, k _ _ m1 H1 G1 k1 (.bl _) q⟩⟩

/-! ### repr of plain data -/
def reprD : List D → (D → Prop) → Prop
  | [d], Q => ∃ q, d.py = some q ∧ q.showable = true ∧ q.hasDict = false ∧ q.shown.length ≤ sizeLine ∧ q.depth ≤ 60 ∧ Q (.str q.shown)
  | _, _ => False
def rReprD (K : PySem.W.Frag) : List V → Hp → VK → Prop := fun xs H Q => ∃ x q, xs = [x] ∧ Dp K H x q ∧ q.showable = true ∧ q.hasDict = false ∧ q.shown.length ≤ sizeLine ∧ q.depth ≤ 60 ∧ Q (.str q.shown) H
theorem call_reprD (hgs : X.A.guards = some []) (hu : X.A.units + 64 < cLine) : CallR X (.builtin "repr") (rReprD X.K) := by
  intro pins s σ H xs us Q I r h
  obtain ⟨x, q, rfl, hd, h1, h2, h3, h4, hq⟩ := h
  obtain ⟨u, rfl, ru⟩ := vals1 r
  cases hd with
  | non =>
    cases ru
    exact PySem.P.repr_of_none ⟨.str _, H, I.tok _, ⟨_, rfl⟩, hq⟩
  | bl b =>
    cases ru
    refine PySem.P.repr_of_bool ⟨.str _, H, I.tok _, ⟨_, rfl⟩, ?_⟩
    exact hq
  | int i =>
    obtain ⟨t, rfl⟩ := ru
    exact PySem.P.repr_of_int (by simpa [PyData.showable] using h1) ⟨.str _, H, I.tok _, ⟨_, rfl⟩, hq⟩
  | str y =>
    obtain ⟨t, rfl⟩ := ru
    exact PySem.P.repr_of_str ⟨.str _, H, I.tok _, ⟨_, rfl⟩, hq⟩ h3
  | lst hs ha =>
    obtain ⟨as, rd⟩ := Dp.reads I _ _ _ (.lst hs ha) ru
    cases ru
    exact repr_of_reads' rd h1 (PyData.noDict_hsm h2) hgs (by omega) (fun _ _ e => e) (fun h' u tk kp => ⟨.str _, H, I.kept kp, ⟨_, rfl⟩, hq⟩) h3
  | tup hs ha =>
    obtain ⟨as, rd⟩ := Dp.reads I _ _ _ (.tup hs ha) ru
    cases ru
    exact repr_of_reads' rd h1 (PyData.noDict_hsm h2) hgs (by omega) (fun _ _ e => e) (fun h' u tk kp => ⟨.str _, H, I.kept kp, ⟨_, rfl⟩, hq⟩) h3
theorem rd_repr {K : PySem.W.Frag} : RdC K c (rReprD K) reprD := fun A ρ m σ H G vs ds r Q Qv h k => by
  unfold reprD at h
  split at h
  · obtain ⟨q, h0, h1, h2, h3, h4, hq⟩ := h
    obtain ⟨v, rfl, rv⟩ := repA1 r
    exact ⟨v, q, rfl, rv.dp h0, h1, h2, h3, h4, k _ _ H G Keep.refl (.str _) hq⟩
  · cases h
end
end DW

/-! DW8: the pen's dict. -/
namespace DW
open PySem PySem.Spec L2
/-! ### the pen -/
def pk (x : Str) : Key := Sum.inr x
theorem pen_get (cc : Addr) (i dg ct fd : Int) : valV (penKvs cc i dg ct fd) (pk "cells") = some (.ref cc) ∧ valV (penKvs cc i dg ct fd) (pk "at") = some (.int i) ∧ valV (penKvs cc i dg ct fd) (pk "digits") = some (.int dg) ∧ valV (penKvs cc i dg ct fd) (pk "count") = some (.int ct) ∧ valV (penKvs cc i dg ct fd) (pk "fold") = some (.int fd) := by
  have h1 : ¬ (("cells" : Str) = "at") := by decide +kernel
  have h2 : ¬ (("cells" : Str) = "digits") := by decide +kernel
  have h3 : ¬ (("cells" : Str) = "count") := by decide +kernel
  have h4 : ¬ (("cells" : Str) = "fold") := by decide +kernel
  have h5 : ¬ (("at" : Str) = "digits") := by decide +kernel
  have h6 : ¬ (("at" : Str) = "count") := by decide +kernel
  have h7 : ¬ (("at" : Str) = "fold") := by decide +kernel
  have h8 : ¬ (("digits" : Str) = "count") := by decide +kernel
  have h9 : ¬ (("digits" : Str) = "fold") := by decide +kernel
  have h0 : ¬ (("count" : Str) = "fold") := by decide +kernel
  simp [valV, penKvs, pk, List.find?, h1, h2, h3, h4, h5, h6, h7, h8, h9, h0]
theorem pen_put (cc : Addr) (i dg ct fd z : Int) : putK (penKvs cc i dg ct fd) (pk "count") (.int z) = penKvs cc i dg z fd ∧ putK (penKvs cc i dg ct fd) (pk "at") (.int z) = penKvs cc z dg ct fd ∧ putK (penKvs cc i dg ct fd) (pk "digits") (.int z) = penKvs cc i z ct fd ∧ putK (penKvs cc i dg ct fd) (pk "fold") (.int z) = penKvs cc i dg ct z := by
  have h1 : ¬ (("cells" : Str) = "at") := by decide +kernel
  have h2 : ¬ (("cells" : Str) = "digits") := by decide +kernel
  have h3 : ¬ (("cells" : Str) = "count") := by decide +kernel
  have h4 : ¬ (("cells" : Str) = "fold") := by decide +kernel
  have h5 : ¬ (("at" : Str) = "digits") := by decide +kernel
  have h6 : ¬ (("at" : Str) = "count") := by decide +kernel
  have h7 : ¬ (("at" : Str) = "fold") := by decide +kernel
  have h8 : ¬ (("digits" : Str) = "count") := by decide +kernel
  have h9 : ¬ (("digits" : Str) = "fold") := by decide +kernel
  have h0 : ¬ (("count" : Str) = "fold") := by decide +kernel
  have g5 : ¬ (("digits" : Str) = "at") := by decide +kernel
  have g6 : ¬ (("count" : Str) = "at") := by decide +kernel
  have g7 : ¬ (("fold" : Str) = "at") := by decide +kernel
  have g8 : ¬ (("count" : Str) = "digits") := by decide +kernel
  have g9 : ¬ (("fold" : Str) = "digits") := by decide +kernel
  have g0 : ¬ (("fold" : Str) = "count") := by decide +kernel
  simp [putK, penKvs, pk, h1, h2, h3, h4, h5, h6, h7, h8, h9, h0, g5, g6, g7, g8, g9, g0]

theorem pen_len {cc : Addr} {i dg ct fd : Int} : (penKvs cc i dg ct fd).length < sizeLine := by show 5 < sizeLine; decide
/-- a draw's promise -/
def fwDraw : FW := fun ds m Q => ∃ n, ds = [.pen, .int n] ∧ 0 < n ∧ n < 1073741824 ∧ m < 1000000000000 ∧ ∀ i, 0 ≤ i → i < n → Q (.int i) (m + 1)
theorem dget {H : Hp} {q : Addr} {kvs : List (Key × V)} {x : Str} {v : V} (h : H q = some (.dK kvs)) (e : valV kvs (pk x) = some v) : DGet H q (.str x) (some v) := by
  rw [← e]
  exact DGet.k (k := pk x) h
theorem dput {H : Hp} {q : Addr} {kvs kvs' : List (Key × V)} {x : Str} {v : V} (h : H q = some (.dK kvs)) (hl : kvs.length < sizeLine) (e : putK kvs (pk x) v = kvs') : DPut H q (.str x) v (upd H q (.dK kvs')) := by
  rw [← e]
  exact DPut.k (k := pk x) h hl
/-- the pen's fresh making -/
def spPen (K : PySem.W.Frag) : Sp := fun vs H Q _ => ∃ (a : Addr) (ns : List Int), vs = [.ref a] ∧ SqL K H a (ns.map V.int) ∧ ns.length ≤ 63 ∧ ∀ q cc H', Same H H' → H q = none → H cc = none → q ≠ cc → PenAt H' q cc 0 → Q (.ref q) H'
theorem emod_lt' {a b : Int} (h : 0 < b) : 0 ≤ a % b ∧ a % b < b := ⟨Int.emod_nonneg _ (by omega), Int.emod_lt_of_pos _ h⟩
/-- what stands behind a draw, for the caller -/
theorem pen_keep {H H' : Hp} {q : Addr} (h : ∀ b, b ≠ q → H' b = H b) {p : Option Addr} (hp : p = some q) : ∀ b o, p ≠ some b → H b = some o → H' b = some o := fun b o n e => by
  rw [h b (fun z => n (by rw [hp, z]))]
  exact e
end DW

/-! DW9: own exceptions as values: made, their fields, isinstance. -/
namespace DW
open PySem PySem.Spec L2

/-- what an own class of exceptions must say of itself -/
structure XC (K : PySem.W.Frag) (C : Addr) : Prop where
  ga : PySem.W.findIn K (.ref C) "__getattribute__" = some (some (.builtin "BaseException.__getattribute__"))
  gg : PySem.W.findIn K (.ref C) "__getattr__" = some none
  exC : PySem.W.subIn K (.ref C) (.type "BaseException") = some true
  hdC : PySem.W.hasDictIn K C = true
  ha : PySem.W.findIn K (.ref C) "__class__" = some (some (.builtin "object.__class__"))
  hn : PySem.W.specialIn K (.builtin "object.__class__") "__get__" = some (some (.builtin "getset_descriptor.__get__"))
  ht : PySem.W.takesIn K (.builtin "object.__class__") = some true
  hm : PySem.W.mroIn K C (.type "object") = some true
  hc : (PySem.W.clsIn K C).isSome = true
section
variable {X : Cx} {CX : CXT} {c : C0} {k : Nat} {x : Str} {p pos : Pos} {e : Expr} {es : List Expr} {ta : TA} {C : Addr}
/-- C(): an own exception class without __init__, made without arguments -/
def tOex0 (C : Addr) : TE := fun σ H Q => ∀ a, H a = none → Q (.ref a) (upd H a (exo a C none))
theorem pe_oex0 {bmB : List Value} {B newId initId : String} (F : ExcBaseFacts B newId initId bmB) (q : PySem.W.excIn X.K C bmB newId = true) (gC : X.mg x = some (.ref C)) (kC : PySem.W.keepIn X.K (.ref C) = true) (hg : Gl X x) (hdb : (x == ("__debug__" : Str)) = false := by decide) :
    PE X (.Call (.Name x p) [] [] pos) (tOex0 C) := by
  refine ⟨fun pins s σ H Q I h => ?_⟩
  refine wpAny_Call_Name_kw (ld_glob I hg gC ?_ hdb)
  refine PySem.W.callWith_K0 I.kIn kC ?_
  obtain ⟨bm, N, nm, qn, bs, hdct, sn, sub, ab, col, dd, k0, k1, k2, k3, k5, mN, hC, hN, hni, T⟩ := exc_obj I.kIn q
  refine wpAny_call_exc_subT F T hC hN hni (fun h' a hm => ?_) (by show 0 ≤ sizeLine; omega)
  have hn : H a = none := I.hok.gone hm.new
  obtain ⟨t, ht, _, _⟩ := hm.there
  exact ⟨.ref a, upd H a (exo a C none), I.laidN hm.keeps hm.new hn (exo_ok ht), rfl, h a hn⟩
/-- C(x, ..): an own exception class over ValueError whose __init__ is a def -/
def tOex (C : Addr) (sp : Sp) (ta : TA) : TE := fun σ H Q => ta σ H fun vs H1 => vs.length ≤ 1000 ∧ ∀ a, H1 a = none → sp (.ref a :: vs) (upd H1 a (exo a C none)) (fun v H2 => v = .non ∧ Q (.ref a) H2) (fun _ _ _ => False)
theorem pe_oex {fI : Addr} {fd : FuncData} {ps : List Str} {sp : Sp} (T : OexC X.K C) (iC : PySem.W.findIn X.K (.ref C) "__init__" = some (some (.ref fI))) (tI : PySem.W.typeIn X.K (.ref fI) = some (.type "function"))
    (F1 : FnOk X.prog X.w X.K X.mg X.base CX k fI fd ps sp) (hr : Room (k + 1) X.A) (hb : Binds X.K fd ps []) (hx : Passes CX X (fun _ _ _ => False)) (hg : Gl X x) (hm : X.mg x = some (.ref C)) (ha : PA X (e :: es) ta)
    (hdb : (x == ("__debug__" : Str)) = false := by decide) (he : starEach (e :: es) X.env = (false, eval e X.env) :: starEach es X.env := by rfl) (hpl : (backTo pos (starEach es X.env)).any (·.1) = false := by rfl) :
    PE X (.Call (.Name x p) (e :: es) [] pos) (tOex C sp ta) := by
  refine ⟨fun pins s σ H Q I h => ?_⟩
  obtain ⟨nm, q, N, bs, bm, sn, sub, ab, col, dd, k0, k1, k2, k3, k5, hC, hbm⟩ := T.cls
  refine wpAny_Call_Name_kw (ld_glob I hg hm ?_ hdb)
  refine PySem.W.callWith_K (h₀ := X.base) I.ok.mod.kin T.kC (thn (ha.run pos pins s σ H _ I h) fun us s1 ⟨vs, H1, I1, r1, hz, q1⟩ => ⟨I1.kIn, ?_⟩) he hpl
  show wpAny _ _ (call (.ref C) us) _ _ _
  obtain ⟨hp, g, dr, tk, os⟩ := s1
  have hsz : hp.objs.size ≤ hp.objs.size + 1 := Nat.le_succ _
  have hn : H1 (hp.objs.size + 1) = none := I1.hok.fresh hsz
  have hq := q1 (hp.objs.size + 1) hn
  have kk : ∀ b o, hp.get? b = some o → ((hp.push (PySem.W.kdv_tup us)).push (PySem.HandSPX.excO C hp.objs.size)).get? b = some o := fun b o e => Heap.get?_push_of_some _ (Heap.get?_push_of_some _ e)
  have hget : ((hp.push (PySem.W.kdv_tup us)).push (PySem.HandSPX.excO C hp.objs.size)).get? (hp.objs.size + 1) = some (PySem.HandSPX.excO C hp.objs.size) := by heap_get
  have I2 : Inv X pins σ (upd H1 (hp.objs.size + 1) (exo (hp.objs.size + 1) C none)) ⟨(hp.push (PySem.W.kdv_tup us)).push (PySem.HandSPX.excO C hp.objs.size), g, dr, tk, os⟩ :=
    I1.laid (t' := tk) (a := hp.objs.size + 1) (o := exo (hp.objs.size + 1) C none) (h' := (hp.push (PySem.W.kdv_tup us)).push (PySem.HandSPX.excO C hp.objs.size)) kk hsz (exo_ok hget)
  have r2 : Vals (V.ref (hp.objs.size + 1) :: vs) (Value.ref (hp.objs.size + 1) :: us) := .cons rfl r1
  have hl : (Value.ref (hp.objs.size + 1) :: us).length = ps.length := by
    have e := r2.length
    rw [F1.len _ _ _ _ hq] at e
    exact e.symm
  have hus : us.length ≤ sizeLine := by
    rw [← Paired.length r1, sizeLine_eq]
    omega
  have hbt := hb _ (Value.ref (hp.objs.size + 1) :: us) I2.kIn (by rw [List.append_nil]; exact hl)
  rw [List.append_nil] at hbt
  refine wpAny_call (PySem.HandSPX.call_own F.excBase_ValueError (fun Y => PySem.HandSPX.refsVE_contains Y bm hbm) (I1.kIn _ _ hC) (PySem.W.looks_findIn I1.kIn iC) (fun self => PySem.W.bind_fn I1.kIn self tI) hus
    (codeAny_mono (F1.run _ X.stack _ _ ⟨Value.ref (hp.objs.size + 1) :: us, []⟩ (Value.ref (hp.objs.size + 1) :: us) _ _ (fun _ _ _ => False) (hr.make C us []) (I2.env0.make C us []) hbt r2 hq) fun r s' hq' => ?_))
  cases r with
  | error er => exact hx pins σ _ _ er s' I2 hq'
  | ok fl =>
    cases fl with
    | ret u =>
      obtain ⟨v, H2, os2, bare2, un2, hok2, rv, ev, q2⟩ := hq'
      subst ev
      obtain ⟨hh, g', d', t', os'⟩ := s'
      obtain rfl : os' = os := os2
      exact ⟨rv, .ref (hp.objs.size + 1), H2, I2.call (h' := hh) (g' := g') (d' := d') (t' := t') (ch := []) un2 hok2 bare2 (fun b z => absurd z (by simp)), rfl, q2⟩
    | next => exact False.elim hq'
    | brk => exact False.elim hq'
    | cont => exact False.elim hq'
/-- e.f of an own exception held as a value -/
def tXat (K : PySem.W.Frag) (f : Str) (te : TE) : TE := fun σ H Q => te σ H fun x H1 => ∃ (a C dd : Addr) (fs : List (Str × V)) (v : V), x = .ref a ∧ H1 a = some (exo a C (some dd)) ∧ H1 dd = some (exd dd fs) ∧ XC K C ∧ PySem.W.findIn K (.ref C) f = some none ∧ fs.lookup f = some v ∧ Q v H1
theorem pe_xat {te : TE} {n : Str} (he : PE X e te) (hb : attributeBase e n X.env (eval e X.env) = eval e X.env := by rfl) : PE X (.Attribute e n pos) (tXat X.K n te) := by
  refine ⟨fun pins s σ H Q I h => ?_⟩
  refine attr_of hb (thn (he.run pins s σ H _ I h) fun u s1 hh => ?_)
  obtain ⟨x, H1, I1, rx, a, C, dd, fs, v, ex, ea, ed, T, hno, l, q⟩ := hh
  subst ex
  obtain rfl : u = Value.ref a := rx
  obtain ⟨t1, ha⟩ := exo_at I1.hok ea
  obtain ⟨mA, hns, hr⟩ := exd_at I1.hok ed
  obtain ⟨od, ho, hl⟩ := lookIn_ns hns
  obtain ⟨u, hu, ru⟩ := RelO.some_of (v := v) (o := mA n) (by rw [← l]; exact hr n)
  have J : PySem.W.InstAt s1.heap a _ C (some od) := ⟨ha, rfl, rfl, ho⟩
  exact HandSPX.exc_get I1.kIn J T.ga T.gg T.exC (PySem.W.findObj_own T.hdC hno rfl (by rw [hl, hu])) (handed_of ru) ⟨v, H1, I1.tok _, ru, q⟩
/-- isinstance of an own exception held as a value -/
def rIsX (K : PySem.W.Frag) : List V → Hp → VK → Prop := fun xs H Q => ∃ (a C : Addr) (d : Option Addr) (t : V) (cv : Value) (b : Bool), xs = [.ref a, t] ∧ H a = some (exo a C d) ∧ (∀ dd, d = some dd → ∃ fs, H dd = some (exd dd fs)) ∧ XC K C ∧ (∀ u, RelV t u → u = cv) ∧ PySem.W.kitOne K (.ref C) cv = some b ∧ Q (.bl b) H
theorem call_isX : CallR X (.builtin "isinstance") (rIsX X.K) := by
  intro pins s σ H xs us Q I r h
  obtain ⟨a, C, d, t, cv, b, rfl, ha, hd, T, hcv, e, q⟩ := h
  cases r with
  | cons rx rr =>
    cases rr with
    | cons rt rr =>
      cases rr
      cases rx
      have ec := hcv _ rt
      subst ec
      obtain ⟨t1, hx⟩ := exo_at I.hok ha
      have J : ∃ od, PySem.W.InstAt s.heap a { cls := .ref C, dict := d, data := .fields #[.ref t1, .none, .none, .none, .bool false, .none] } C od := by
        cases d with
        | none => exact ⟨none, hx, rfl, rfl, trivial⟩
        | some dd =>
          obtain ⟨fs, ed⟩ := hd dd rfl
          obtain ⟨mA, ⟨o, es, ep, ho, hr⟩, _⟩ := exd_at I.hok ed
          exact ⟨some o, hx, rfl, rfl, ho⟩
      obtain ⟨od, J⟩ := J
      exact PySem.W.kia_one (PySem.W.kitx_exc T.hc T.ga T.gg T.exC T.ha T.hn T.ht T.hm) I.kIn J e (fun z => nomatch z) fun tk => ⟨.bl b, H, I.kept (t' := tk) fun _ _ z => z, rfl, q⟩

/-! ### over data -/
theorem RepF.zip {p : Option Addr} {K : PySem.W.Frag} {H : Hp} : ∀ (ns : List Str) {vs : List V} {ds : List D}, RepA p K H vs ds → RepF p K H (ns.zip vs) (ns.zip ds)
  | [], _, _, _ => .nil
  | _ :: _, _, _, .nil => .nil
  | _ :: ns, _, _, .cons h r => .cons h (RepF.zip ns r)
theorem RepF.append {p : Option Addr} {K : PySem.W.Frag} {H : Hp} : ∀ {fs gs : List (Str × V)} {ds es : List (Str × D)}, RepF p K H fs ds → RepF p K H gs es → RepF p K H (fs ++ gs) (ds ++ es)
  | _, _, _, _, .nil, s => s
  | _, _, _, _, .cons h r, s => .cons h (RepF.append r s)
theorem RepF.reverse {p : Option Addr} {K : PySem.W.Frag} {H : Hp} : ∀ {fs : List (Str × V)} {ds : List (Str × D)}, RepF p K H fs ds → RepF p K H fs.reverse ds.reverse
  | _, _, .nil => .nil
  | _, _, .cons h r => by
    rw [List.reverse_cons, List.reverse_cons]
    exact RepF.append (RepF.reverse r) (.cons h .nil)
theorem wAny {p : Option Addr} {K : PySem.W.Frag} {H : Hp} {v : V} {C : Addr} {fs : List (Str × D)} (r : Rep p K H v (.exc C fs)) : ∃ (a : Addr) (d : Option Addr), v = .ref a ∧ H a = some (exo a C d) ∧ (∀ dd, d = some dd → ∃ gs, H dd = some (exd dd gs) ∧ RepF p K H gs fs) ∧ (d = none → fs = []) := by
  cases r with
  | exc h1 h2 r => exact ⟨_, _, rfl, h1, fun dd e => by cases e; exact ⟨_, h2, r⟩, fun e => by cases e⟩
  | exc0 h1 => exact ⟨_, none, rfl, h1, (fun dd e => nomatch e), fun _ => rfl⟩
def wXat (K : PySem.W.Frag) (f : Str) (wa : WE) : WE := fun ρ m Q => wa ρ m fun d m1 => ∃ C fs v, d = .exc C fs ∧ XC K C ∧ PySem.W.findIn K (.ref C) f = some none ∧ fs.lookup f = some v ∧ Q v m1
theorem rd_xat {K : PySem.W.Frag} {wa : WE} {ta : TE} {n : Str} (hK : X.K = K) (h : RdE X.K c ta wa) : RdE X.K c (tXat X.K n ta) (wXat K n wa) := by
  subst hK
  intro A ρ m σ H G Q Qv hw k
  refine h A ρ m σ H G _ _ hw fun v d m1 H1 G1 k1 r1 q1 => ?_
  obtain ⟨C, fs, y, e1, T, hno, hl, q⟩ := q1
  subst e1
  obtain ⟨a, d, rfl, ea, h2, h3⟩ := wAny r1
  cases d with
  | none =>
    rw [h3 rfl] at hl
    cases hl
  | some dd =>
    obtain ⟨gs, ed, rf⟩ := h2 dd rfl
    obtain ⟨u, hu, ru⟩ := rf.look hl
    exact ⟨a, C, dd, gs, u, rfl, (cut_some ea).2, (cut_some ed).2, T, hno, hu, k u y m1 H1 G1 k1 ru q⟩
def de_xat {K : PySem.W.Frag} {wa : WE} {n : Str} (hK : X.K = K) (h : DE X c e wa) (hb : attributeBase e n X.env (eval e X.env) = eval e X.env := by rfl) : DE X c (.Attribute e n pos) (wXat K n wa) :=
  ⟨_, pe_xat h.pe hb, rd_xat hK h.rd⟩
/-- isinstance(e, T), e an own exception -/
def wIsX (K : PySem.W.Frag) (cv : Value) (wa : WE) : WE := fun ρ m Q => wa ρ m fun d m1 => ∃ C fs b, d = .exc C fs ∧ XC K C ∧ PySem.W.kitOne K (.ref C) cv = some b ∧ Q (.bl b) m1
theorem rd_isX {K : PySem.W.Frag} {wa : WE} {ta : TE} {t : V} {cv : Value} (hcv : ∀ u, RelV t u → u = cv) (h : RdE K c ta wa) : RdE K c (tCB (rIsX K) (tCons ta (tCons (tC t) tNil))) (wIsX K cv wa) := fun A ρ m σ H G Q Qv hw k => h A ρ m σ H G _ _ hw fun v d m1 H1 G1 k1 r1 ⟨C, fs, b, e1, T, e2, q⟩ => by
  subst e1
  obtain ⟨a, d, rfl, ea, h2, h3⟩ := wAny r1
  exact ⟨a, C, d, t, cv, b, rfl, (cut_some ea).2, fun dd e => by
    obtain ⟨gs, ed, _⟩ := h2 dd e
    exact ⟨gs, (cut_some ed).2⟩, T, hcv, e2, k _ _ m1 H1 G1 k1 (.bl b) q⟩
def de_isX {K : PySem.W.Frag} {wa : WE} {a : Expr} {C : Addr} {y : Str} {p' : Pos} (hK : X.K = K) (hg : Gl X "isinstance") (hm : X.mg "isinstance" = none) (hgC : Gl X y) (hmC : X.mg y = some (.ref C)) (h : DE X c a wa) (hdb : (y == ("__debug__" : Str)) = false := by decide)
    (he : starEach [a, .Name y p'] X.env = (false, eval a X.env) :: starEach [.Name y p'] X.env := by rfl) (he2 : starEach [.Name y p'] X.env = (false, eval (.Name y p') X.env) :: starEach [] X.env := by rfl) (hpl : (backTo pos (starEach [.Name y p'] X.env)).any (·.1) = false := by rfl) :
    DE X c (.Call (.Name "isinstance" p) [a, .Name y p'] [] pos) (wIsX K (.ref C) wa) :=
  ⟨_, pe_callB call_isX hg hm (by decide +kernel) (pa_cons h.pe (pa_cons (pe_glob (v := .ref C) hgC hmC rfl hdb) pa_nil he2) he) (he := he) (hpl := hpl), by subst hK; exact rd_isX (t := .ref C) (cv := .ref C) (fun _ z => z) h.rd⟩
def de_isXT {K : PySem.W.Frag} {wa : WE} {a : Expr} {T : String} {y : Str} {p' : Pos} (hK : X.K = K) (hg : Gl X "isinstance") (hm : X.mg "isinstance" = none) (hgT : Gl X y) (hmT : X.mg y = none) (hvT : bootBuiltins y = some (.type T)) (h : DE X c a wa) (hn : y ≠ "__name__" := by decide) (hdb : (y == ("__debug__" : Str)) = false := by decide)
    (he : starEach [a, .Name y p'] X.env = (false, eval a X.env) :: starEach [.Name y p'] X.env := by rfl) (he2 : starEach [.Name y p'] X.env = (false, eval (.Name y p') X.env) :: starEach [] X.env := by rfl) (hpl : (backTo pos (starEach [.Name y p'] X.env)).any (·.1) = false := by rfl) :
    DE X c (.Call (.Name "isinstance" p) [a, .Name y p'] [] pos) (wIsX K (.type T) wa) :=
  ⟨_, pe_callB call_isX hg hm (by decide +kernel) (pa_cons h.pe (pa_cons (pe_bltn (v := .ty T) hgT hmT hvT rfl hn hdb) pa_nil he2) he) (he := he) (hpl := hpl), by subst hK; exact rd_isX (t := .ty T) (cv := .type T) (fun _ z => z) h.rd⟩

/-! ### making -/
/-- what such an __init__ promises -/
def spX (C : Addr) (ns : List Str) : Sp := fun vs H Q _ => ∃ (a : Addr) (us : List V), vs = .ref a :: us ∧ us.length = ns.length ∧ H a = some (exo a C none) ∧
  ∀ d H', d ≠ a → H d = none → H' a = some (exo a C (some d)) → H' d = some (exd d (ns.zip us).reverse) → (∀ b, b ≠ a → b ≠ d → H' b = H b) → Q .non H'
/-- such a class, with its __init__ -/
structure MkX (P : Program) (w : World) (K : PySem.W.Frag) (mg : Str → Option Value) (base : Heap) (x : Str) (C : Addr) (ns : List Str) : Prop where
  T : OexC K C
  ex : ∃ (fI : Addr) (fd : FuncData) (ps : List Str), PySem.W.findIn K (.ref C) "__init__" = some (some (.ref fI)) ∧ PySem.W.typeIn K (.ref fI) = some (.type "function") ∧ FnOk P w K mg base CX0 1 fI fd ps (spX C ns) ∧ Binds K fd ps []
  mg : mg x = some (.ref C)
  le : ns.length ≤ 1000
def wMkx (C : Addr) (ns : List Str) (wr : WA) : WE := fun ρ m Q => wr ρ m fun ds m1 => ds.length = ns.length ∧ Q (.exc C (ns.zip ds).reverse) m1
def de_mkx {wr : WA} {j : Nat} {ns : List Str} (M : MkX X.prog X.w X.K X.mg X.base x C ns) (hr : Room j X.A) (hj : 2 ≤ j) (hg : Gl X x) (ha : DA X c (e :: es) wr)
    (hdb : (x == ("__debug__" : Str)) = false := by decide) (he : starEach (e :: es) X.env = (false, eval e X.env) :: starEach es X.env := by rfl) (hpl : (backTo pos (starEach es X.env)).any (·.1) = false := by rfl) : DE X c (.Call (.Name x p) (e :: es) [] pos) (wMkx C ns wr) :=
  ⟨tOex C (spX C ns) ha.t, by
    obtain ⟨fI, fd, ps, h1, h2, h3, h4⟩ := M.ex
    exact pe_oex (k := 1) M.T h1 h2 h3 (hr.mono hj) h4 pass0 hg M.mg ha.pe hdb he hpl, fun A ρ m σ H G Q Qv hw k => ha.rd A ρ m σ H G _ _ hw fun vs ds m1 H1 G1 k1 r1 q1 => by
    have hl := r1.length
    refine ⟨by rw [hl, q1.1]; exact M.le, fun a hna => ⟨a, vs, rfl, by rw [hl, q1.1], upd_same, fun d H' hda hnd h1 h2 h3 => ⟨rfl, ?_⟩⟩⟩
    have hnd1 : H1 d = none := by rwa [upd_ne hda] at hnd
    have ext : Ext H1 H' := fun b o e => by
      rw [h3 b (ne_of_none e hna) (ne_of_none e hnd1), upd_ne (ne_of_none e hna)]
      exact e
    have kp : Keep c H1 H' := Keep.ofExt ext
    have G2 := G1.step kp (m' := m1) fun q e => ((G1.pn q e).2.2).keep ext
    refine k _ _ m1 H' G2 (k1.trans kp) (.exc (cut_of (G1.notin hna) h1) (cut_of (G1.notin hnd1) h2) ((RepF.zip ns r1).reverse.ext ?_)) q1.2
    intro b o hb
    obtain ⟨n, z⟩ := cut_some hb
    exact cut_of n (ext b o z)⟩
/-- a class without one, made without arguments -/
def wMkx0 (C : Addr) : WE := fun ρ m Q => Q (.exc C []) m
def de_mkx0 {bmB : List Value} {B newId initId : String} (F : ExcBaseFacts B newId initId bmB) (q : PySem.W.excIn X.K C bmB newId = true) (gC : X.mg x = some (.ref C)) (kC : PySem.W.keepIn X.K (.ref C) = true) (hg : Gl X x) (hdb : (x == ("__debug__" : Str)) = false := by decide) : DE X c (.Call (.Name x p) [] [] pos) (wMkx0 C) :=
  ⟨_, pe_oex0 F q gC kC hg hdb, fun A ρ m σ H G Q Qv hw k => fun a hna => k _ _ m _ (G.fresh hna) (Keep.new hna) (.exc0 (G.freshN hna)) hw⟩
/-- the reading of such an __init__ -/
theorem init1 {K : PySem.W.Frag} {C : Addr} {N : List Str} {n1 : Str} {vs : List V} {H : Hp} {Q : VK} {E : XK} (T : OexC K C) (N1 : PySem.W.findIn K (.ref C) n1 = some none) (h : spX C [n1] vs H Q E) :
    tOst K n1 (tVar 0) (tVar 1) { nx := fun _ H' => Q .non H', rt := Q } (L2.start N vs) H := by
  obtain ⟨a, us, rfl, hl, ha, k⟩ := h
  match us, hl with
  | [x], _ => exact ⟨_, rfl, _, rfl, a, C, rfl, T, N1, .inl ⟨ha, fun dx hd hda => k dx _ hda hd upd_same (by rw [upd_ne hda]; exact upd_same) fun b h1 h2 => by rw [upd_ne h1, upd_ne h2]⟩⟩
theorem init2 {K : PySem.W.Frag} {C : Addr} {N : List Str} {n1 n2 : Str} {vs : List V} {H : Hp} {Q : VK} {E : XK} (T : OexC K C) (N1 : PySem.W.findIn K (.ref C) n1 = some none) (N2 : PySem.W.findIn K (.ref C) n2 = some none) (h : spX C [n1, n2] vs H Q E) :
    tSeq (tOst K n1 (tVar 0) (tVar 1)) (tOst K n2 (tVar 0) (tVar 2)) { nx := fun _ H' => Q .non H', rt := Q } (L2.start N vs) H := by
  obtain ⟨a, us, rfl, hl, ha, k⟩ := h
  match us, hl with
  | [x, y], _ => exact ⟨_, rfl, _, rfl, a, C, rfl, T, N1, .inl ⟨ha, fun dx hd hda => ⟨_, rfl, _, rfl, a, C, rfl, T, N2, .inr ⟨dx, _, upd_same, (by rw [upd_ne hda]; exact upd_same), (by show 1 ≤ 900; decide),
    k dx _ hda hd (by rw [upd_ne (Ne.symm hda)]; exact upd_same) upd_same fun b h1 h2 => by rw [upd_ne h2, upd_ne h1, upd_ne h2]⟩⟩⟩⟩
end
end DW

/-! DW10: how long a text of data may be. -/
namespace DW
open PySem PySem.Spec L2
mutual
def lnB : PyData → Nat
  | .none => 4
  | .bool _ => 5
  | .int i => (Str.ofString (toString i)).length
  | .str x => 10 * x.length + 2
  | .list xs => lnAll xs + 2
  | .tuple xs => lnAll xs + 4
  | .dict _ => 0
def lnAll : List PyData → Nat
  | [] => 0
  | x :: xs => lnB x + 2 + lnAll xs
end
theorem from_len : ∀ (ts : List Str) (k : Nat) (acc : Str), (textFrom k acc ts).length ≤ acc.length + piled ts
  | [], k, acc => by show acc.length ≤ _; omega
  | t :: ts, k, acc => by
    have h := from_len ts (k + 1) (acc ++ (if k > 0 then ", " else "" : String) ++ t)
    show (textFrom (k + 1) _ ts).length ≤ _
    rw [Str.length_append, Str.length_append] at h
    rw [piled_cons]
    have e : (Str.ofString (if k > 0 then ", " else "" : String)).length ≤ 2 := by split <;> decide +kernel
    omega
theorem join_len : ∀ ts : List Str, (Str.join ", " ts).length ≤ piled ts
  | [] => by show (Str.empty).length ≤ _; exact Nat.zero_le _
  | x :: r => by
    have := join_length_add (x :: r) (by simp)
    omega
theorem strOk_all {x : Str} (h : PyData.strOk x = true) : ∀ c ∈ x.cps.toList, c < 16 ^ 8 := fun c hc => by
  unfold PyData.strOk at h
  rw [Array.all_eq_true] at h
  obtain ⟨i, hi, e⟩ := List.getElem_of_mem hc
  have := h i (by simpa using hi)
  simp at this e
  rw [← e]
  omega
mutual
theorem shown_le : ∀ (q : PyData), q.canLay0 = true → q.shown.length ≤ lnB q
  | .none, _ => by rw [PyData.shown, lnB]; decide +kernel
  | .bool b, _ => by rw [PyData.shown, lnB]; cases b <;> decide +kernel
  | .int i, _ => by rw [PyData.shown, lnB]; exact Nat.le_refl _
  | .str x, h => by
    rw [PyData.shown, lnB]
    exact StrLaws.reprText_len x (strOk_all (by rwa [PyData.canLay0] at h))
  | .list xs, h => by
    rw [PyData.canLay0] at h
    have := shownAll_le xs h
    rw [PyData.shown, lnB]
    unfold listText
    rw [Str.length_append]
    have e := from_len (PyData.shownAll xs) 0 "["
    have e1 : (Str.ofString "[").length = 1 := by decide +kernel
    have e2 : (Str.ofString "]").length = 1 := by decide +kernel
    omega
  | .tuple xs, h => by
    rw [PyData.canLay0] at h
    have := shownAll_le xs h
    rw [PyData.shown, lnB]
    unfold tupleText
    rw [Str.length_append, Str.length_append]
    have e := join_len (PyData.shownAll xs)
    have e1 : (Str.ofString "(").length = 1 := by decide +kernel
    have e2 : (Str.ofString (if (PyData.shownAll xs).length == 1 then ",)" else ")" : String)).length ≤ 2 := by split <;> decide +kernel
    omega
  | .dict _, h => by rw [PyData.canLay0] at h; cases h
theorem shownAll_le : ∀ (xs : List PyData), PyData.canLayAll0 xs = true → piled (PyData.shownAll xs) ≤ lnAll xs
  | [], _ => by rw [PyData.shownAll]; exact Nat.zero_le _
  | x :: xs, h => by
    rw [PyData.canLayAll0, Bool.and_eq_true] at h
    have h1 := shown_le x h.1
    have h2 := shownAll_le xs h.2
    rw [PyData.shownAll, piled_cons, lnAll]
    omega
end
theorem int_len {i : Int} (h : -10 ^ 60 < i) (h2 : i < 10 ^ 60) : (Str.ofString (toString i)).length ≤ 61 := by
  have e : i.natAbs < 10 ^ 60 := by omega
  have := int_text_length_le10 (a := i) (k := 60) (by decide) e
  rw [ofString_length]
  exact this
theorem int_log {i : Int} (h : -10 ^ 60 < i) (h2 : i < 10 ^ 60) : i.natAbs.log2 < 1920 := by
  have e : i.natAbs < 10 ^ 60 := by omega
  by_cases z : i.natAbs = 0
  · rw [z]
    decide
  · rw [Nat.log2_lt z]
    exact Nat.lt_of_lt_of_le (Nat.lt_trans e (show 10 ^ 60 < 2 ^ 200 by decide)) (Nat.pow_le_pow_right (by decide) (by decide))
/-- plain data whose text is short -/
def Val (b : Nat) (d : D) : Prop := ∃ q, d.py = some q ∧ q.canLay0 = true ∧ q.showable = true ∧ q.hasDict = false ∧ lnB q ≤ b ∧ q.depth ≤ 5
theorem intText_ok (i : Int) : PyData.strOk (Str.ofString (toString i)) = true := by
  unfold PyData.strOk
  rw [Array.all_eq_true]
  intro j hj
  have hm : (Str.ofString (toString i)).cps[j] ∈ (Str.ofString (toString i)).cps.toList := by simp
  have h := PyProof.Rows.int_text_free' (Str.ofString (toString i)).cps[j]
  simp only [decide_eq_true_eq]
  refine Nat.lt_of_not_le fun hge => h ⟨by omega, .inr (by omega)⟩ i hm
theorem strOk_append {a b : Str} (h : PyData.strOk a = true) (k : PyData.strOk b = true) : PyData.strOk (a ++ b) = true := by
  unfold PyData.strOk at *
  have e : (a ++ b).cps = a.cps ++ b.cps := Str.cps_append _ _
  rw [e, Array.all_append, h, k]
  rfl
theorem Val.mono {b b' : Nat} {d : D} (h : Val b d) (l : b ≤ b') : Val b' d := by
  obtain ⟨q, h1, h2, h3, h4, h5, h6⟩ := h
  exact ⟨q, h1, h2, h3, h4, Nat.le_trans h5 l, h6⟩
theorem val_int {i : Int} (h : -10 ^ 60 < i) (h2 : i < 10 ^ 60) : Val 61 (.int i) := ⟨.int i, by simp [D.py], by simp [PyData.canLay0], by simp [PyData.showable]; exact int_log h h2, by simp [PyData.hasDict], by rw [lnB]; exact int_len h h2, by simp [PyData.depth]⟩
theorem val_str {b : Nat} {x : Str} (h : PyData.strOk x = true) (hl : 10 * x.length + 2 ≤ b) : Val b (.str x) := ⟨.str x, by simp [D.py], by rw [PyData.canLay0]; exact h, by simp [PyData.showable], by simp [PyData.hasDict], by rw [lnB]; exact hl, by simp [PyData.depth]⟩
end DW

/-! DW11: a law's own def, from its head on; its promise may use that no text of data is being made. -/
namespace DW
open PySem PySem.Spec L2 PyProof.Rows
section
variable {P : Program} {w : World} {K : PySem.W.Frag} {mg mb : Str → Option Value} {k : Nat} {fa a : Addr} {fd : FuncData} {x : Str} {sp : Sp} {s : Shared} {vs : List Value} {ns : List Int}
/-- the script alone is tracked (not even it, where the module itself holds it) -/
theorem script_track (KX : K.In s.heap) (ha : s.heap.get? a = some { cls := .type "list", data := .seq vs.toArray }) (hi : IntsAre vs ns) (hl : ns.length ≤ sizeLine) :
    ∃ H : Hp, SqL K H a (ns.map V.int) ∧ HOk P w H s.heap ∧ ∀ b u, H b = some u → b = a ∧ K.lookup a = none ∧ ∃ o xs, u = .frz o (.lst xs) := by
  have hv := vals_ints hi
  rcases hk : K.lookup a with _ | o
  · let o : Obj := { cls := .type "list", data := .seq vs.toArray }
    have only : ∀ b u, (fun b : Addr => if b = a then some (HO.frz o (.lst (ns.map V.int))) else none) b = some u → b = a ∧ u = .frz o (.lst (ns.map V.int)) := by
      intro b u e
      dsimp only at e
      split at e
      · rename_i hba
        exact ⟨hba, (Option.some.inj e).symm⟩
      · cases e
    refine ⟨_, .inl (.inr ⟨o, if_pos rfl⟩), ?_, fun b u e => ⟨(only b u e).1, rfl, _, _, (only b u e).2⟩⟩
    intro b u e
    obtain ⟨rfl, rfl⟩ := only b u e
    exact ⟨ha, ⟨by rw [List.length_map]; exact hl, vs, _, hv, ha⟩⟩
  · have same := KX a o hk
    rw [ha] at same
    obtain rfl := Option.some.inj same
    have size : vs.toArray.size ≤ sizeLine := by
      rw [List.size_toArray, hi.length]
      exact hl
    exact ⟨fun _ => none, .inr ⟨_, vs.toArray, _, hk, rfl, rfl, rfl, size, by simpa using hv⟩, (fun b u (e : (none : Option HO) = some u) => nomatch e), fun b u (e : (none : Option HO) = some u) => nomatch e⟩
/-- the call of a law's def that keeps sp where no text is being made -/
theorem law_at (KX : K.In s.heap) (hns : s.heap.Ns mainGlobals mg) (hb : s.heap.Ns builtinsNs mb) (hbb : ∀ x : Str, x ≠ "__name__" → mb x = bootBuiltins x) (hlim : s.heap.NoLimit) (hg : s.gens = #[])
    (ha : s.heap.get? a = some { cls := .type "list", data := .seq vs.toArray }) (hi : IntsAre vs ns) (hl : ns.length ≤ sizeLine) (hr : Room k callerA)
    (F : ∀ base : Heap, K.In base → base.Ns mainGlobals mg → FnG true P w K mg base CX0 k fa fd [x] sp) (bind : ∀ (s : Shared) (u : Value), BindsTo s fd ⟨[u], []⟩ [(x, u)])
    (hsp : ∀ H : Hp, SqL K H a (ns.map V.int) → sp [.ref a] H (fun v _ => v = .bl true) fun _ _ _ => False) :
    codeAny (model P w) callerA (.call (.ref fa) ⟨[.ref a], []⟩) (fun r s' => r = .ok (.ret (.bool true)) ∧ OldK s.heap s'.heap ∧ s'.os = s.os ∧ AllBare s'.gens) s := by
  obtain ⟨H, hS, hH, hA⟩ := script_track (P := P) (w := w) KX ha hi hl
  have off : ∀ b o, s.heap.get? b = some o → (b = a → K.lookup a ≠ none) ∨ (o.data ≠ .seq vs.toArray) → (hidT s.heap H).get? b = some o := by
    intro b o e h
    refine hidT_get e ?_
    rcases q : H b with _ | u
    · rfl
    · obtain ⟨rfl, n, _⟩ := hA b u q
      rw [ha] at e
      obtain rfl := Option.some.inj e
      rcases h with h | h
      · exact absurd n (h rfl)
      · exact absurd rfl h
  have names : ∀ {b : Addr} {m : Str → Option Value}, s.heap.Ns b m → (hidT s.heap H).Ns b m := by
    rintro b m ⟨o, es, ep, e, d, r⟩
    refine ⟨o, es, ep, off b o e (.inr ?_), d, r⟩
    rw [d]
    exact fun z => nomatch z
  have kin : K.In (hidT s.heap H) := fun b o e => off b o (KX b o e) (.inl fun z n => by
    rw [← z, e] at n
    cases n)
  obtain ⟨mc, l1, l2⟩ := hlim
  have env : Env0 P w K mg (hidT s.heap H) callerA [] s H :=
    { frames := rfl, mod := { kin := kin, glob := names hns, blt := ⟨mb, names hb, hbb⟩, nolimit := ⟨mc, names l1, l2⟩ }, bs := fun _ _ e => of_hidT e, bsz := by rw [hidT_size]; exact Nat.le_refl _, funs := trivial, frf := (fun b z => nomatch z), hok := hH, bare := .of_eq hg }
  have ran := (F _ kin (names hns)).run callerA [] s H ⟨[.ref a], []⟩ [.ref a] [.ref a] (fun v _ => v = .bl true) (fun _ _ _ => False) hr (fun _ => rfl) env (bind s (.ref a)) (.cons rfl .nil) (hsp H hS)
  refine codeAny_mono ran ?_
  rintro (e | fl) s' h
  · exact False.elim h
  · rcases fl with _ | _ | _ | u <;> try exact False.elim h
    obtain ⟨v, H2, os, bare, un, ok2, rv, rfl⟩ := h
    refine ⟨by rw [show u = Value.bool true from rv], OldK.of_keep fun b o e => ?_, os, bare⟩
    rcases q : H b with _ | t
    · exact un.keep b o e q (fun z => nomatch z) (fun z => nomatch z)
    · obtain ⟨_, _, o2, xs, rfl⟩ := hA b t q
      have before : s.heap.get? b = some o2 := (hH b _ q).1
      have behind : s'.heap.get? b = some o2 := (ok2 b _ (un.frzs b o2 _ q)).1
      rw [← e, before]
      exact behind
end
/-- the goal that the head leaves -/
theorem walk_law {l : PySem.W.OpenLaw} {n k : Nat} {q : Program} {loose : List Str} {XP : (Str → Option Value) → Heap → Prop} {YP : World → Heap → Prop} {d : DefRec} {K : Params → PySem.W.Frag} {sp : World → Sp} {x : Str}
    (hn : l.most = some n) (hn2 : n ≤ sizeLine) (hdf : d.params.defaults = []) (hr : Room k callerA) (hY : ∀ (w : World) (h : Heap), YP w h → (K w.params).In h)
    (F : ∀ (w : World) (mg : Str → Option Value) (fa : Addr) (h : Heap), (K w.params).In h → h.Ns mainGlobals mg → mg d.name = some (.ref fa) →
      ∃ fd : FuncData, (∀ (s : Shared) (u : Value), BindsTo s fd ⟨[u], []⟩ [(x, u)]) ∧ ∀ base : Heap, (K w.params).In base → base.Ns mainGlobals mg → FnG true l.prog w (K w.params) mg base CX0 k fa fd [x] (sp w))
    (hsp : ∀ (w : World) (H : Hp) (a : Addr) (ns : List Int), ns.length ≤ n → SqL (K w.params) H a (ns.map V.int) → sp w [.ref a] H (fun v _ => v = .bl true) fun _ _ _ => False) :
    PySem.W.WalkO q loose XP YP l.row.toRowW d [] (fun f vs => PySem.call f vs) :=
  Att.attach_call hn hdf fun w _ s1 mg mb fa _ _ _ _ a vs ns G Y _ _ _ hmg hobj hints hlen hg => by
    obtain ⟨fd, bind, R⟩ := F w mg fa _ (hY w _ Y) G.T.g hmg
    exact law_at (hY w _ Y) G.T.g G.T.b G.T.builtins G.T.nolimit hg hobj hints (Nat.le_trans hlen hn2) hr R bind fun H hS => hsp w H a ns hlen hS
theorem hu64 {k : Nat} {A : Around} (hr : Room k A) : A.units + 64 < cLine := by
  have := hr.un
  omega
/-- what a law of a script promises -/
def spLaw (K : PySem.W.Frag) : Sp := fun vs H Q _ => ∃ (a : Addr) (ns : List Int), vs = [.ref a] ∧ SqL K H a (ns.map V.int) ∧ ns.length ≤ 63 ∧ ∀ H', Q (.bl true) H'
/-- what stands behind the pen's making -/
def lawE (n : Nat) : DW.Env := (List.replicate n Cell.un).set 1 (.dat .pen)
theorem law_data {P : Program} {w : World} {K : PySem.W.Frag} {mg : Str → Option Value} {base : Heap} {x qual : Str} {st : Stmt} {f : Addr} {fd : FuncData} {N : List Str} {k : Nat} {sc : Str} {wb : WS} (F : Fun K x qual st f fd) (S : FnScope N [sc] (defScope st)) (h2 : 2 ≤ N.length)
    {st0 : Stmt} {rest : List Stmt} (hb : defBody st = st0 :: rest)
    (h0 : ∀ (cdv : Value) (A : Around) (outer : List PySem.Env) (s : Shared) (H : Hp) (E : XK), Room k (A.deeper (envOfC qual (defScope st) s.heap.objs.size f cdv)) → PS (cxOf CX0 P w K mg base N qual (defScope st) f cdv A outer s H E).nox st0 (tAsg (tCall (spPen K) [] E0 (tCons (tVar 0) tNil)) (gName 1)))
    (d : ∀ (cdv : Value) (A : Around) (outer : List PySem.Env) (s : Shared) (H : Hp) (E : XK) (c : C0), Room k (A.deeper (envOfC qual (defScope st) s.heap.objs.size f cdv)) → (A.deeper (envOfC qual (defScope st) s.heap.objs.size f cdv)).guards = some [] → DSs (cxOf CX0 P w K mg base N qual (defScope st) f cdv A outer s H E).nox c rest wb)
    (h : wb { nx := fun _ _ => False, rt := fun d _ => d = .bl true } (lawE N.length) 0)
    (u : ∀ (cdv : Value) (A : Around) (outer : List PySem.Env) (s : Shared) (H : Hp) (E : XK) (c : C0) hr hg, (d cdv A outer s H E c hr hg).t = (d cdv A outer s H E ⟨fun _ => none, none, 0, []⟩ hr hg).t := by intros; rfl) : FnG true P w K mg base CX0 (k + 1) f fd [sc] (spLaw K) := by
  refine fnG_of F S (fun vs H Q E h => ?_) (fun cdv A outer s H vs Q E hr hg hs => ?_)
  · obtain ⟨a, ns, rfl, _⟩ := h
    rfl
  · obtain ⟨a, ns, rfl, hS, hl, kq⟩ := hs
    have hg2 : (A.deeper (envOfC qual (defScope st) s.heap.objs.size f cdv)).guards = some [] := hg rfl
    rw [hb]
    refine ⟨_, PSs.nox (pss_cons (h0 cdv A outer s H E hr) (d cdv A outer s H E ⟨fun _ => none, none, 0, []⟩ hr hg2).pe), ?_⟩
    have l0 : (L2.start N [V.ref a]) = (some (V.ref a)) :: List.replicate (N.length - 1) none := rfl
    have ls : (L2.start N [V.ref a]).length = N.length := by
      rw [l0, List.length_cons, List.length_replicate]
      omega
    refine ⟨.ref a, by rw [l0]; rfl, a, ns, rfl, hS, hl, fun q cc H' same hq hc qc PA => ?_⟩
    let c : C0 := { H0 := H', p := some q, cc := cc, A0 := [q, cc] }
    obtain ⟨ms, i, dg, ct, fd0, p1, p2, _⟩ := PA.ex
    have G : Good K c [q, cc] (lawE N.length) 0 ((L2.start N [V.ref a]).set 1 (some (.ref q))) H' := by
      refine ⟨⟨fun b o _ e => e, fun q' e => ?_, fun _ h => h, fun _ h => .inl h, fun b hb => ?_⟩, ?_, fun j kk e => ?_⟩
      · cases e
        exact ⟨by simp [c], by simp [c], PA⟩
      · rcases List.mem_cons.mp hb with z | z
        · rw [z]
          exact ⟨_, p1⟩
        · rw [List.mem_singleton.mp z]
          exact ⟨_, p2⟩
      · unfold lawE
        rw [List.length_set, List.length_set, List.length_replicate, ls]
      · unfold lawE at e
        by_cases hj : 1 = j
        · subst hj
          rw [List.getElem?_set_self (by rw [List.length_replicate]; omega)] at e
          cases e
          exact ⟨.ref q, by rw [List.getElem?_set_self (by rw [ls]; omega)], .pen rfl⟩
        · rw [List.getElem?_set_ne hj, List.getElem?_replicate] at e
          split at e
          · cases e
            trivial
          · cases e
    rw [← u cdv A outer s H E c hr hg2]
    refine (d cdv A outer s H E c hr hg2).rd [q, cc] _ 0 _ H' G { nx := fun _ _ => False, rt := fun d _ => d = .bl true } _ h (fun _ _ _ _ _ _ _ z => z.elim) (fun v d A' m' H2 _ rv e => ?_) (fun _ _ _ _ _ _ _ z => z.elim) (fun _ _ _ _ _ _ _ z => z.elim)
    subst e
    cases rv
    exact kq H2
end DW

/-! DW12: what a law's own part of the heap says of its names, as facts that the kernel may reckon. -/
namespace DW
open PySem PySem.Spec L2
def adr (K : PySem.W.Frag) (x : Str) : Addr := match PySem.W.nsIn K mainGlobals x with
  | some (some (.ref a)) => a
  | _ => 0
def obK (K : PySem.W.Frag) (a : Addr) : Obj := (List.lookup a K).getD ⟨.none, none, .plain, #[]⟩
def fnK (K : PySem.W.Frag) (a : Addr) : FuncData := match (obK K a).data with
  | .func fd => fd
  | _ => default
def cdK (K : PySem.W.Frag) (a : Addr) : ClassData := match (obK K a).data with
  | .cls cd => cd
  | _ => default
def slK (K : PySem.W.Frag) (a : Addr) (i : Nat) : Option Value := ((obK K a).slots[i]?).getD none
abbrev fdK (K : PySem.W.Frag) (x qual : Str) (st : Stmt) (f : Addr) : FuncData := PySem.W.fnOf x qual (defArgs st) (defBody st) (defScope st) .none (fnK K f).kwdefaults (fnK K f).doc (fnK K f).pyModule (fnK K f).annotations (fnK K f).code (fnK K f).closureTuple
/-- the def st stands at f -/
abbrev FnAt (K : PySem.W.Frag) (x qual : Str) (st : Stmt) (f : Addr) : Prop := List.lookup f K = some ⟨(obK K f).cls, (obK K f).dict, .func (fdK K x qual st f), (obK K f).slots⟩
theorem funK {K : PySem.W.Frag} {x qual : Str} {st : Stmt} {f : Addr} (h : FnAt K x qual st f) (c : PySem.W.codeIn K (fnK K f).code qual = true) (k : PySem.W.keepIn K (.ref f) = true) : Fun K x qual st f (fdK K x qual st f) := fun_mk h c k
/-- a class over ValueError stands at C -/
abbrev ClsAt (K : PySem.W.Frag) (C : Addr) : Prop := List.lookup C K = some (excClassObj (cdK K C).name (cdK K C).qualname C (cdK K C).ns (cdK K C).bases (cdK K C).mro.tail true (cdK K C).slotNames (cdK K C).subclasses (cdK K C).abstract (cdK K C).collection (obK K C).dict (slK K C 0) (slK K C 1) (slK K C 2) (slK K C 3) (slK K C 5) "ValueError.__new__")
def oexB (K : PySem.W.Frag) (C : Addr) : Bool := PySem.HandSPX.refsVE (cdK K C).mro.tail && decide (PySem.W.findIn K (.ref C) "__setattr__" = some (some (.builtin "object.__setattr__"))) && decide (PySem.W.subIn K (.ref C) (.type "BaseException") = some true) && decide (PySem.W.typeIn K (.ref C) = some (.type "type")) && PySem.W.keepIn K (.ref C)
theorem oexK {K : PySem.W.Frag} {C : Addr} (h : ClsAt K C) (b : oexB K C = true) : OexC K C := by
  unfold oexB at b
  simp only [Bool.and_eq_true, decide_eq_true_eq] at b
  obtain ⟨⟨⟨⟨b1, b2⟩, b3⟩, b4⟩, b5⟩ := b
  exact ⟨⟨_, _, _, _, _, _, _, _, _, _, _, _, _, _, _, h, b1⟩, b2, b3, b4, b5⟩
def xcB (K : PySem.W.Frag) (C : Addr) : Bool := decide (PySem.W.findIn K (.ref C) "__getattribute__" = some (some (.builtin "BaseException.__getattribute__"))) && decide (PySem.W.findIn K (.ref C) "__getattr__" = some none) && decide (PySem.W.subIn K (.ref C) (.type "BaseException") = some true) && PySem.W.hasDictIn K C &&
  decide (PySem.W.findIn K (.ref C) "__class__" = some (some (.builtin "object.__class__"))) && decide (PySem.W.specialIn K (.builtin "object.__class__") "__get__" = some (some (.builtin "getset_descriptor.__get__"))) && decide (PySem.W.takesIn K (.builtin "object.__class__") = some true) && decide (PySem.W.mroIn K C (.type "object") = some true) && (PySem.W.clsIn K C).isSome
theorem xcK {K : PySem.W.Frag} {C : Addr} (b : xcB K C = true) : XC K C := by
  unfold xcB at b
  simp only [Bool.and_eq_true, decide_eq_true_eq] at b
  obtain ⟨⟨⟨⟨⟨⟨⟨⟨b1, b2⟩, b3⟩, b4⟩, b5⟩, b6⟩, b7⟩, b8⟩, b9⟩ := b
  exact ⟨b1, b2, b3, b4, b5, b6, b7, b8, b9⟩
/-- these names are bound to objects of the part, these to nothing -/
def nsB (K : PySem.W.Frag) (xs zs : List Str) : Bool := (xs.all fun x => decide (PySem.W.nsIn K mainGlobals x = some (some (.ref (adr K x))))) && zs.all fun z => decide (PySem.W.nsIn K mainGlobals z = some none)
theorem nsK {K : PySem.W.Frag} {xs zs : List Str} {h : Heap} {mg : Str → Option Value} (b : nsB K xs zs = true) (X : K.In h) (G : h.Ns mainGlobals mg) : (∀ x ∈ xs, mg x = some (.ref (adr K x))) ∧ ∀ z ∈ zs, mg z = none := by
  unfold nsB at b
  rw [Bool.and_eq_true, List.all_eq_true, List.all_eq_true] at b
  exact ⟨fun x hx => PySem.W.mg_of X G (of_decide_eq_true (b.1 x hx)), fun z hz => PySem.W.mg_none_of X G (of_decide_eq_true (b.2 z hz))⟩
/-- these defs' records -/
def fnB (K : PySem.W.Frag) (xs : List Str) : Bool := xs.all fun x => PySem.W.codeIn K (fnK K (adr K x)).code x && PySem.W.keepIn K (.ref (adr K x))
theorem fnB_at {K : PySem.W.Frag} {xs : List Str} (b : fnB K xs = true) {x : Str} (hx : x ∈ xs) : PySem.W.codeIn K (fnK K (adr K x)).code x = true ∧ PySem.W.keepIn K (.ref (adr K x)) = true := by
  have := List.all_eq_true.mp b x hx
  rwa [Bool.and_eq_true] at this
def iniA (K : PySem.W.Frag) (C : Addr) (m : Str) : Addr := match PySem.W.findIn K (.ref C) m with
  | some (some (.ref a)) => a
  | _ => 0
/-- a class's method -/
def mtB (K : PySem.W.Frag) (C : Addr) (m qual : Str) : Bool := decide (PySem.W.findIn K (.ref C) m = some (some (.ref (iniA K C m)))) && decide (PySem.W.typeIn K (.ref (iniA K C m)) = some (.type "function")) && PySem.W.codeIn K (fnK K (iniA K C m)).code qual && PySem.W.keepIn K (.ref (iniA K C m))
theorem mtK {K : PySem.W.Frag} {C : Addr} {m qual : Str} (b : mtB K C m qual = true) : PySem.W.findIn K (.ref C) m = some (some (.ref (iniA K C m))) ∧ PySem.W.typeIn K (.ref (iniA K C m)) = some (.type "function") ∧ PySem.W.codeIn K (fnK K (iniA K C m)).code qual = true ∧ PySem.W.keepIn K (.ref (iniA K C m)) = true := by
  unfold mtB at b
  simp only [Bool.and_eq_true, decide_eq_true_eq] at b
  exact ⟨b.1.1.1, b.1.1.2, b.1.2, b.2⟩
end DW

namespace DW
open PySem PySem.Spec L2
def topS (i : Nat) : Stmt := PySem.Challenge.pw_anylead_k00_errors_made_by_hand.main.body.getD i (.Pass ⟨0, 0, 0, 0⟩)
abbrev s_pen : Stmt := topS 18
theorem sc_pen : FnScope ["_law_script", "_law_fold", "_law_cell"] ["_law_script"] (defScope s_pen) := ⟨rfl, rfl, rfl, by decide +kernel, rfl, by decide +kernel, by decide +kernel⟩
abbrev s_draw : Stmt := topS 19
theorem sc_draw : FnScope ["_law_pen_here", "_law_many", "_law_cell", "_law_digit", "_law_mixed"] ["_law_pen_here", "_law_many"] (defScope s_draw) := ⟨rfl, rfl, rfl, by decide +kernel, rfl, by decide +kernel, by decide +kernel⟩
structure TPen (mg : Str → Option Value) : Prop where
  b_int : mg "int" = none
  b_len : mg "len" = none
  b_list : mg "list" = none
section
variable {P : Program} {w : World} {K : PySem.W.Frag} {mg : Str → Option Value} {base : Heap}
theorem ite_y {b : Bool} {P Q : Prop} (h : b = true) (p : P) : (if b = true then P else Q) := by
  rw [if_pos h]
  exact p
theorem ite_n {b : Bool} {P Q : Prop} (h : ¬ b = true) (q : Q) : (if b = true then P else Q) := by
  rw [if_neg h]
  exact q
theorem ite_yn {b : Bool} {P Q : Prop} (p : b = true → P) (q : b = false → Q) : (if b = true then P else Q) := by
  cases b with
  | true => exact p rfl
  | false => exact q rfl
theorem seq_cut {t u : TS} {D : Ends} {σ : L2.St} {H : Hp} (Φ : L2.St → Hp → Prop) (h2 : ∀ σ' H', Φ σ' H' → u D σ' H') (h1 : (∀ σ' H', Φ σ' H' → u D σ' H') → tSeq t u D σ H) : tSeq t u D σ H := h1 h2
theorem ok_draw {g : Bool} {f : Addr} {fd : FuncData} (F : Fun K "_law_draw" "_law_draw" s_draw f fd) (T : TPen mg) : FnG g P w K mg base CX0 1 f fd ["_law_pen_here", "_law_many"] (spD K fwDraw) := by
  refine fnG_of F sc_draw (fun vs H Q E h => ?_) (fun cdv A outer s H vs Q E hr hg h => ?_)
  · obtain ⟨p, cc, B, ds, m, R, r, _, _, ⟨n, rfl, _⟩, _⟩ := h
    rw [r.length]
    rfl
  · obtain ⟨p, cc, B, ds, m, R, r, pn, thr, ⟨n, rfl, n0, n1, hm, hR⟩, k⟩ := h
    obtain ⟨v, u, rfl, rv, ru⟩ := repA2 r
    cases ru
    cases rv with
    | pen hp =>
    rename_i q
    obtain ⟨_, _, PA⟩ := pn q hp
    obtain ⟨ns, i, dg, ct, fd0, h1, h2, hi, hn, hdg, hct, hct2, hf0, hf1⟩ := PA.ex
    have hu := hu_of hr
    refine ⟨_, PSs.nox (pss_cons (ps_dput hu (pv 0) pe_str (pe_op op_add (pe_dget hu (pv 0) pe_str (fun _ _ => rfl)) pe_int) rfl)
      (pss_cons (ps_if (PW.pt (pw_and (pt_cmpR op_eq (pe_dget hu (pv 0) pe_str (fun _ _ => rfl)) pe_int (nomark _)) (pw_and1 (pt_cmpR op_lt (pe_dget hu (pv 0) pe_str (fun _ _ => rfl)) (pe_callB call_len_seq (by rfl) T.b_len PySem.boot_len (pa_cons (pe_dget hu (pv 0) pe_str (fun _ _ => rfl)) pa_nil)) (nomark _)))))
        (pss_cons (ps_set (i := 2) sc_draw.nd rfl (Or.inl rfl) (pe_ix ix_list (pe_dget hu (pv 0) pe_str (fun _ _ => rfl)) (pe_dget hu (pv 0) pe_str (fun _ _ => rfl)) (fun _ _ => rfl)))
          (pss_cons (ps_dput hu (pv 0) pe_str (pe_op op_add (pe_dget hu (pv 0) pe_str (fun _ _ => rfl)) pe_int) rfl)
          (pss_one (ps_if (pt_cmpR op_ge (pv 2) (pe_op op_pow pe_int pe_int) (nomark _))
            (pss_one (ps_dput hu (pv 0) pe_str (pe_op op_sub (pv 2) (pe_op op_pow pe_int pe_int)) rfl))
            (pss_one (ps_dput hu (pv 0) pe_str (pe_op op_mod (pe_callTy call_int1 (by rfl) T.b_int (by decide +kernel) (pa_cons (pe_op op_add (pe_op op_mul (pe_dget hu (pv 0) pe_str (fun _ _ => rfl)) pe_int) (pv 2)) pa_nil)) pe_int) rfl))))))
        pss_nil)
      (pss_cons (ps_if (pt_cmpR op_gt (pe_dget hu (pv 0) pe_str (fun _ _ => rfl)) pe_int (nomark _))
        (pss_cons (ps_set (i := 3) sc_draw.nd rfl (Or.inl rfl) (pe_op op_mod (pe_callTy call_int1 (by rfl) T.b_int (by decide +kernel) (pa_cons (pe_dget hu (pv 0) pe_str (fun _ _ => rfl)) pa_nil)) (pv 1)))
          (pss_cons (ps_dput hu (pv 0) pe_str (pe_op op_fdiv (pe_dget hu (pv 0) pe_str (fun _ _ => rfl)) (pv 1)) rfl)
          (pss_one (ps_ret (pv 3)))))
        pss_nil)
      (pss_cons (ps_set (i := 4) sc_draw.nd rfl (Or.inl rfl) (pe_op op_add (pe_op op_add (pe_dget hu (pv 0) pe_str (fun _ _ => rfl)) (pe_op op_mul (pe_dget hu (pv 0) pe_str (fun _ _ => rfl)) pe_int)) pe_int))
      (pss_one (ps_ret (pe_op op_mod (pe_op op_fdiv (pe_callTy call_int1 (by rfl) T.b_int (by decide +kernel) (pa_cons (pe_op op_mod (pe_op op_pow (pv 4) pe_int) pe_int) pa_nil)) pe_int) (pv 1)))))))), ?_⟩
    have hσ : (L2.start ["_law_pen_here", "_law_many", "_law_cell", "_law_digit", "_law_mixed"] [V.ref q, V.int n])[0]? = some (some (.ref q)) := rfl
    have qc : q ≠ cc := fun z => by
      rw [z, h2] at h1
      cases h1
    obtain ⟨g1, g2, g3, g4, g5⟩ := pen_get cc i dg ct fd0
    refine ⟨_, rfl, q, _, rfl, dget h1 g4, _, _, rfl, rfl, _, rfl, q, _, rfl, dput h1 pen_len (pen_put cc i dg ct fd0 (ct + 1)).1, ?_⟩
    have H1 : (upd H q (.dK (penKvs cc i dg (ct + 1) fd0))) q = some (.dK (penKvs cc i dg (ct + 1) fd0)) := upd_same
    have H2 : (upd H q (.dK (penKvs cc i dg (ct + 1) fd0))) cc = some (.lst (ns.map V.int)) := by rw [upd_ne (Ne.symm qc)]; exact h2
    generalize hH1 : upd H q (.dK (penKvs cc i dg (ct + 1) fd0)) = G at *
    have fr : ∀ b, b ≠ q → G b = H b := fun b z => by rw [← hH1]; exact upd_ne z
    clear hH1
    dsimp only
    refine seq_cut (t := tIfS (tAnd _ _) _ _) (fun σ' G' => σ'.length = 5 ∧ σ'[0]? = some (some (.ref q)) ∧ σ'[1]? = some (some (.int n)) ∧ (∀ b, b ≠ q → G' b = H b) ∧ ∃ (i' : Nat) (dg' fd' : Int), G' q = some (.dK (penKvs cc i' dg' (ct + 1) fd')) ∧ i' ≤ ns.length ∧ 0 ≤ dg' ∧ 0 ≤ fd' ∧ fd' < 2147483587) ?_ ?_
    · rintro σ' G' ⟨e5, e0, e1, fr', i', dg', fd', gq, hi', hdg', hf0', hf1'⟩
      obtain ⟨g1, g2, g3, g4, g5⟩ := pen_get cc i' dg' (ct + 1) fd'
      have fin : ∀ (j : Int) (i2 : Nat) (dg2 fd2 : Int) (G2 : Hp), (∀ b, b ≠ q → G2 b = H b) → G2 q = some (.dK (penKvs cc i2 dg2 (ct + 1) fd2)) → i2 ≤ ns.length → 0 ≤ dg2 → 0 ≤ fd2 → fd2 < 2147483587 → 0 ≤ j → j < n → Q (.int j) G2 := fun j i2 dg2 fd2 G2 f2 q2 a1 a2 a3 a4 a5 a6 =>
        k (.int j) (.int j) (m + 1) G2 (fun b o nb e => by rw [f2 b (fun z => nb (by rw [hp, z]))]; exact e) (fun q' e' => by
          rw [hp] at e'
          cases e'
          exact ⟨ns, i2, dg2, ct + 1, fd2, q2, by rw [f2 _ (Ne.symm qc)]; exact h2, a1, hn, a2, by omega, by omega, a3, a4⟩) (.int j) (hR j a5 a6)
      refine ⟨_, e0, q, _, rfl, dget gq g3, _, _, rfl, rfl, _, rfl, ?_⟩
      by_cases hd : 0 < dg'
      · refine ite_y (by simpa using hd) ?_
        refine ⟨_, e0, q, _, rfl, dget gq g3, .inl ⟨_, rfl, _, e1, _, _, rfl, rfl, n0, ?_⟩⟩
        have x0 : (σ'.set 3 (some (V.int (dg' % n))))[0]? = some (some (.ref q)) := by rw [List.getElem?_set_ne (by decide)]; exact e0
        have x1 : (σ'.set 3 (some (V.int (dg' % n))))[1]? = some (some (.int n)) := by rw [List.getElem?_set_ne (by decide)]; exact e1
        have x3 : (σ'.set 3 (some (V.int (dg' % n))))[3]? = some (some (V.int (dg' % n))) := by rw [List.getElem?_set_self (by omega)]
        refine ⟨_, x0, q, _, rfl, dget gq g3, _, x1, _, _, rfl, rfl, ⟨n0, n1⟩, _, x0, q, _, rfl, dput gq pen_len (pen_put _ _ _ _ _ _).2.2.1, _, x3, ?_⟩
        exact fin _ i' (dg' / n) fd' _ (fun b hb => by rw [upd_ne hb]; exact fr' b hb) upd_same hi' (Int.ediv_nonneg hdg' (by omega)) hf0' hf1' (emod_lt' n0).1 (emod_lt' n0).2
      · refine ite_n (by simpa using hd) ?_
        refine ⟨_, e0, q, _, rfl, dget gq g5, _, e0, q, _, rfl, dget gq g4, _, _, rfl, rfl, .inr ⟨by omega, by omega⟩, _, _, rfl, rfl, _, _, rfl, rfl, ?_⟩
        have x1 : (σ'.set 4 (some (V.int (fd' + (ct + 1) * 7919 + 41))))[1]? = some (some (.int n)) := by rw [List.getElem?_set_ne (by decide)]; exact e1
        have x4 : (σ'.set 4 (some (V.int (fd' + (ct + 1) * 7919 + 41))))[4]? = some (some (V.int (fd' + (ct + 1) * 7919 + 41))) := by rw [List.getElem?_set_self (by omega)]
        refine ⟨_, x4, _, _, rfl, rfl, ⟨by decide, by decide, by omega⟩, _, _, rfl, rfl, (show (0 : Int) < 2305843009213693951 by decide), .inl ⟨_, rfl, _, _, rfl, rfl, ⟨by decide, by decide⟩, _, x1, _, _, rfl, rfl, n0, ?_⟩⟩
        exact fin _ i' dg' fd' G' fr' gq hi' hdg' hf0' hf1' (emod_lt' n0).1 (emod_lt' n0).2
    · intro tail
      obtain ⟨g1, g2, g3, g4, g5⟩ := pen_get cc i dg (ct + 1) fd0
      refine ⟨_, rfl, q, _, rfl, dget H1 g3, rfl, _, rfl, ?_⟩
      have stay := tail (L2.start ["_law_pen_here", "_law_many", "_law_cell", "_law_digit", "_law_mixed"] [V.ref q, V.int n]) G ⟨rfl, rfl, rfl, fr, i, dg, fd0, H1, hi, hdg, hf0, hf1⟩
      refine ite_yn (fun z1 => ?_) fun _ => stay
      refine ⟨_, rfl, q, _, rfl, dget H1 g2, _, rfl, q, _, rfl, dget H1 g1, _, _, rfl, .inl (SqL.of H2), _, _, rfl, rfl, _, rfl, ?_⟩
      refine ite_yn (fun z2 => ?_) fun _ => stay
      have il : i < ns.length := by
        have := of_decide_eq_true z2
        rw [List.length_map] at this
        omega
      have d0 : dg = 0 := by
        have := of_decide_eq_true z1
        injection this
      refine ⟨_, rfl, q, _, rfl, dget H1 g1, _, rfl, q, _, rfl, dget H1 g2, cc, ns.map V.int, i, .int (ns[i]'il), rfl, rfl, SqL.of H2, ?_, ?_⟩
      · unfold atI ixN
        rw [List.length_map, if_pos (by omega), if_pos (by omega)]
        simp [il]
      refine ⟨_, rfl, q, _, rfl, dget H1 g2, _, _, rfl, rfl, _, rfl, q, _, rfl, dput H1 pen_len (pen_put _ _ _ _ _ _).2.1, ?_⟩
      have i1 : ((i : Int) + 1) = ((i + 1 : Nat) : Int) := rfl
      rw [i1]
      obtain ⟨g1', g2', g3', g4', g5'⟩ := pen_get cc (i + 1 : Nat) dg (ct + 1) fd0
      have fr1 : ∀ b, b ≠ q → (upd G q (.dK (penKvs cc (i + 1 : Nat) dg (ct + 1) fd0))) b = H b := fun b z => by rw [upd_ne z]; exact fr b z
      refine ⟨_, rfl, _, _, rfl, rfl, ⟨by decide, by decide, by decide⟩, _, _, rfl, rfl, _, rfl, ?_⟩
      refine ite_yn (fun z3 => ?_) fun z3 => ?_
      · refine ⟨_, rfl, _, _, rfl, rfl, ⟨by decide, by decide, by decide⟩, _, _, rfl, rfl, _, rfl, q, _, rfl, dput upd_same pen_len (pen_put _ _ _ _ _ _).2.2.1, ?_⟩
        refine tail _ _ ⟨rfl, rfl, rfl, fun b z => by rw [upd_ne z]; exact fr1 b z, i + 1, _, fd0, upd_same, by omega, ?_, hf0, hf1⟩
        have := of_decide_eq_true z3
        have e : (10 : Int) ^ (18 : Int).toNat = 1000000000000000000 := by decide
        rw [e] at this ⊢
        omega
      · refine ⟨_, rfl, q, _, rfl, dget upd_same g5', _, _, rfl, rfl, .inr ⟨by decide, by decide⟩, _, rfl, _, _, rfl, rfl, .inl ⟨_, rfl, _, _, rfl, rfl, (show (0 : Int) < 2147483587 by decide), _, rfl, q, _, rfl, dput upd_same pen_len (pen_put _ _ _ _ _ _).2.2.2, ?_⟩⟩
        exact tail _ _ ⟨rfl, rfl, rfl, fun b z => by rw [upd_ne z]; exact fr1 b z, i + 1, dg, _, upd_same, by omega, hdg, (emod_lt' (by decide)).1, (emod_lt' (by decide)).2⟩
theorem pen_merge (cc : Addr) (i dg ct fd : Int) : mergeK [] (penKvs cc i dg ct fd) = penKvs cc i dg ct fd := by
  have h1 : ¬ (("cells" : Str) = "at") := by decide +kernel
  have h2 : ¬ (("cells" : Str) = "digits") := by decide +kernel
  have h3 : ¬ (("cells" : Str) = "count") := by decide +kernel
  have h4 : ¬ (("cells" : Str) = "fold") := by decide +kernel
  have h5 : ¬ (("at" : Str) = "digits") := by decide +kernel
  have h6 : ¬ (("at" : Str) = "count") := by decide +kernel
  have h7 : ¬ (("at" : Str) = "fold") := by decide +kernel
  have h8 : ¬ (("digits" : Str) = "count") := by decide +kernel
  have h9 : ¬ (("digits" : Str) = "fold") := by decide +kernel
  have h0 : ¬ (("count" : Str) = "fold") := by decide +kernel
  simp [mergeK, putK, penKvs, h1, h2, h3, h4, h5, h6, h7, h8, h9, h0]
theorem ok_pen {g : Bool} {f : Addr} {fd : FuncData} (F : Fun K "_law_pen" "_law_pen" s_pen f fd) (T : TPen mg) : FnG g P w K mg base CX0 1 f fd ["_law_script"] (spPen K) := by
  refine fnG_of F sc_pen (fun vs H Q E h => ?_) (fun cdv A outer s H vs Q E hr hg h => ?_)
  · obtain ⟨a, ns, rfl, _⟩ := h
    rfl
  · obtain ⟨a, ns, rfl, hS, hlen, k⟩ := h
    refine ⟨_, PSs.nox (pss_cons (ps_set (i := 1) sc_pen.nd rfl (Or.inl rfl) pe_int)
      (pss_cons (ps_for PassesOwn.never rfl (pi_list (pv 0)) (pg_name (i := 2) sc_pen.nd rfl (Or.inl rfl))
        (pss_one (ps_set (i := 1) sc_pen.nd rfl (Or.inl rfl) (pe_op op_mod (pe_callTy call_int1 (by rfl) T.b_int (by decide +kernel) (pa_cons (pe_op op_add (pe_op op_mul (pv 1) pe_int) (pv 2)) pa_nil)) pe_int))))
      (pss_one (ps_ret (pe_disp (pps_cons pe_str (pe_callTy call_list_of (by rfl) T.b_list (by decide +kernel) (pa_cons (pv 0) pa_nil)) (pps_cons pe_str pe_int (pps_cons pe_str pe_int (pps_cons pe_str pe_int (pps_cons pe_str (pv 1) pps_nil))))) (by rfl) (by rfl) (fun z => by cases z) (by decide)))))), ?_⟩
    refine ⟨_, rfl, a, rfl, ⟨_, hS⟩, for_list (K := K) (a := a) (xs := ns.map V.int) (fun i σ H2 => ∃ (fo : Int) (v : Option V), σ = [some (.ref a), some (.int fo), v] ∧ H2 = H ∧ 0 ≤ fo ∧ fo < 1000000007)
      ⟨0, none, rfl, rfl, by decide, by decide⟩ (fun i σ H2 _ ⟨_, _, _, e, _⟩ => by rw [e]; exact hS) ?_ ?_⟩
    · rintro i y σ H2 hi ⟨fo, v, rfl, rfl, f0, f1⟩
      obtain ⟨z, rfl⟩ : ∃ z, y = V.int z := by
        rw [List.getElem?_map] at hi
        cases e : ns[i]? with
        | none =>
          rw [e] at hi
          cases hi
        | some z =>
          rw [e] at hi
          exact ⟨z, (Option.some.inj hi).symm⟩
      refine ⟨_, rfl, _, _, rfl, rfl, .inr ⟨by decide, by decide⟩, _, rfl, _, _, rfl, rfl, .inl ⟨_, rfl, _, _, rfl, rfl, (show (0 : Int) < 1000000007 by decide), ?_⟩⟩
      exact ⟨_, _, rfl, rfl, (emod_lt' (by decide)).1, (emod_lt' (by decide)).2⟩
    · rintro σ H2 ⟨fo, v, rfl, rfl, f0, f1⟩
      intro p hp
      have s1 : Same H2 (upd H2 p (.dK [])) := fun b o e => by
        rw [upd_ne (ne_of_none e hp)]
        exact e
      refine ⟨_, rfl, a, ns.map V.int, rfl, .inl (s1.seq hS), fun l hl => ?_⟩
      have lp : l ≠ p := fun z => by
        rw [z, upd_same] at hl
        cases hl
      have hl2 : H2 l = none := by rwa [upd_ne lp] at hl
      refine ⟨_, rfl, by rw [upd_ne (Ne.symm lp)]; exact upd_same, penKvs l (0 : Nat) 0 0 fo, rfl, (show 5 ≤ 15 by decide), ?_⟩
      rw [pen_merge]
      refine k p l _ (fun b o e => ?_) hp hl2 (Ne.symm lp) ⟨ns, 0, 0, 0, fo, upd_same, by rw [upd_ne lp]; exact upd_same, by omega, hlen, by decide, by decide, by decide, f0, by omega⟩
      rw [upd_ne (ne_of_none e hp), upd_ne (ne_of_none e hl2), upd_ne (ne_of_none e hp)]
      exact e
end
end DW

namespace DW
open PySem PySem.Spec L2
theorem nog {P : Prop} : false = true → P := fun z => nomatch z
def fwPick : FW := fun ds m Q => ∃ xs, ds = [.pen, .lst xs] ∧ 0 < xs.length ∧ xs.length < 1073741824 ∧ m < 1000000000000 ∧ ∀ x ∈ xs, Q x (m + 1)
def fwFar : FW := fun ds m Q => ds = [.pen] ∧ m < 999999999000 ∧ ∀ z m', -10 ^ 60 < z → z < 10 ^ 60 → m' ≤ m + 12 → Q (.int z) m'
theorem atI_lt {α : Type} {xs : List α} {i : Int} (h0 : 0 ≤ i) (h1 : i < xs.length) : ∃ x, atI xs i = some x ∧ x ∈ xs := by
  have h : i.toNat < xs.length := by omega
  refine ⟨xs[i.toNat], ?_, List.getElem_mem h⟩
  unfold atI ixN
  rw [if_pos h0, if_pos h1]
  simp [h]
structure TPick (P : Program) (w : World) (K : PySem.W.Frag) (mg : Str → Option Value) (base : Heap) : Prop where
  f__law_draw : DFn false P w K mg base 1 "_law_draw" fwDraw
  b_len : mg "len" = none
  b_range : mg "range" = none
section
variable {P : Program} {w : World} {K : PySem.W.Frag} {mg : Str → Option Value} {base : Heap}
abbrev s__law_pick : Stmt := topS 20
theorem sc__law_pick : FnScope ["_law_pen_here", "_law_some"] ["_law_pen_here", "_law_some"] (defScope s__law_pick) := ⟨rfl, rfl, rfl, by decide +kernel, rfl, by decide +kernel, by decide +kernel⟩
theorem ok_pick {f : Addr} {fd : FuncData} (F : Fun K "_law_pick" "_law_pick" s__law_pick f fd) (T : TPick P w K mg base) : FnG false P w K mg base CX0 2 f fd ["_law_pen_here", "_law_some"] (spD K fwPick) := by
  refine fn_data (k := 1) F sc__law_pick (fun ds m Q h => ?_) (fun cdv A outer s H E c hr hgs => (dss_one (ds_ret (de_item (de_var 1) (de_call T.f__law_draw hr nog (by decide) (by rfl) (da_cons (de_var 0) (da_cons (de_callB call_len rd_len (by rfl) T.b_len (by decide +kernel) (da_cons (de_var 1) da_nil)) da_nil))) (fun _ _ => rfl))))) fun ds m Q h => ?_
  · obtain ⟨xs, rfl, _⟩ := h
    rfl
  · obtain ⟨xs, rfl, h0, h1, hm, k⟩ := h
    refine ⟨xs.length, rfl, by omega, by omega, hm, fun i i0 i1 => ?_⟩
    obtain ⟨x, hx, hm⟩ := atI_lt i0 i1
    exact ⟨x, hx, k x hm⟩
structure TFar (P : Program) (w : World) (K : PySem.W.Frag) (mg : Str → Option Value) (base : Heap) : Prop extends TPick P w K mg base where
  f__law_pick : DFn false P w K mg base 2 "_law_pick" fwPick
abbrev s__law_far : Stmt := topS 21
theorem sc__law_far : FnScope ["_law_pen_here", "_law_sign", "_law_many", "_law_far_here", "_law_lap"] ["_law_pen_here"] (defScope s__law_far) := ⟨rfl, rfl, rfl, by decide +kernel, rfl, by decide +kernel, by decide +kernel⟩
theorem ok_far {f : Addr} {fd : FuncData} (F : Fun K "_law_far" "_law_far" s__law_far f fd) (T : TFar P w K mg base) : FnG false P w K mg base CX0 3 f fd ["_law_pen_here"] (spD K fwFar) := by
  refine fn_data (k := 2) F sc__law_far (fun ds m Q h => ?_) (fun cdv A outer s H E c hr hgs => (dss_cons (ds_par3 (i := 1) (j := 2) (l := 3) (fun _ h => ps_par3 (i := 1) (j := 2) (l := 3) rfl sc__law_far.nd rfl rfl rfl (by decide) (by decide) (by decide) rfl rfl rfl h rfl) (da_cons (de_sub de_int (de_mulI de_int (de_call T.f__law_draw hr nog (by decide) (by rfl) (da_cons (de_var 0) (da_cons de_int da_nil))))) (da_cons (de_call T.f__law_pick hr nog (by decide) (by rfl) (da_cons (de_var 0) (da_cons (de_lst (da_cons de_int (da_cons de_int (da_cons de_int (da_cons de_int (da_cons de_int da_nil)))))) da_nil))) (da_cons (de_call T.f__law_draw hr nog (by decide) (by rfl) (da_cons (de_var 0) (da_cons de_int da_nil))) da_nil))))
    (dss_cons (ds_for PassesOwn.never rfl (di_range1 (by rfl) T.b_range (da_cons (de_var 2) da_nil)) (dg_name (i := 4) sc__law_far.nd rfl (by first | exact Or.inl rfl | exact Or.inr rfl))
    (dss_one (ds_set (i := 3) sc__law_far.nd rfl (by first | exact Or.inl rfl | exact Or.inr rfl) (de_add (de_mulI (de_var 3) (de_pow de_int de_int)) (de_call T.f__law_draw hr nog (by decide) (by rfl) (da_cons (de_var 0) (da_cons (de_pow de_int de_int) da_nil)))))))
    (dss_one (ds_ret (de_mulI (de_var 1) (de_var 3))))))) fun ds m Q h => ?_
  · obtain ⟨rfl, _⟩ := h
    rfl
  · obtain ⟨rfl, hm, k⟩ := h
    refine ⟨2, rfl, by decide, by decide, by omega, fun i i0 i1 => ?_⟩
    refine ⟨.inl (by decide), ?_⟩
    refine ⟨show 5 ≤ sizeLine by decide, _, rfl, by decide, by decide, by omega, fun x hx => ?_⟩
    refine ⟨40, rfl, by decide, by decide, by omega, fun f0 f1 f2 => ?_⟩
    obtain ⟨n, rfl, hn⟩ : ∃ n : Nat, x = .int n ∧ n ≤ 9 := by
      simp only [List.mem_cons, List.not_mem_nil, or_false] at hx
      rcases hx with rfl | rfl | rfl | rfl | rfl
      · exact ⟨0, rfl, by decide⟩
      · exact ⟨0, rfl, by decide⟩
      · exact ⟨1, rfl, by decide⟩
      · exact ⟨3, rfl, by decide⟩
      · exact ⟨9, rfl, by decide⟩
    refine ⟨⟨by omega, by omega⟩, fun t ρ m' => t ≤ n → ∃ (z : Int) (lap : Cell), ρ = [.dat .pen, .dat (.int (1 - 2 * i)), .dat (.int n), .dat (.int z), lap] ∧ 0 ≤ z ∧ z < 40 * 10 ^ (6 * t) ∧ m' ≤ m + 3 + t, fun _ => ⟨f0, .un, rfl, f1, by simpa using f2, by omega⟩, ?_, ?_⟩
    · rintro t d ρ m' hd hI
      have hl : t < n := by
        have := (List.getElem?_eq_some_iff.mp hd).1
        simpa [rngD] using this
      obtain ⟨z, lap, rfl, z0, z1, hm'⟩ := hI (Nat.le_of_lt hl)
      refine ⟨⟨by decide, by decide, by decide⟩, .inr ⟨by decide, by decide⟩, ⟨by decide, by decide, by decide⟩, _, rfl, by decide, by decide, by omega, fun y y0 y1 => ?_⟩
      refine fun _ => ⟨_, .dat d, rfl, ?_, ?_, by omega⟩
      · have : (10 : Int) ^ (6 : Int).toNat = 1000000 := by decide
        rw [this]
        omega
      · have e1 : (10 : Int) ^ (6 : Int).toNat = 1000000 := by decide
        have e2 : (10 : Int) ^ (6 * (t + 1)) = 10 ^ (6 * t) * 1000000 := by
          rw [Nat.mul_add, Int.pow_add]
          rfl
        rw [e1] at y1 ⊢
        rw [e2]
        omega
    · rintro ρ m' hI
      have hl : (rngD 0 (n : Int)).length = n := by simp [rngD]
      rw [hl] at hI
      obtain ⟨z, lap, rfl, z0, z1, hm'⟩ := hI (Nat.le_refl _)
      have hp : (10 : Int) ^ (6 * n) ≤ 10 ^ 54 := by
        have : 6 * n ≤ 54 := by omega
        obtain ⟨j, hj⟩ := Nat.exists_eq_add_of_le this
        rw [hj, Int.pow_add]
        have h1 : (0 : Int) < 10 ^ (6 * n) := Int.pow_pos (by decide)
        have h2 : (0 : Int) < 10 ^ j := Int.pow_pos (by decide)
        calc (10 : Int) ^ (6 * n) = 10 ^ (6 * n) * 1 := (Int.mul_one _).symm
          _ ≤ 10 ^ (6 * n) * 10 ^ j := Int.mul_le_mul_of_nonneg_left (by omega) (by omega)
      have hz : z < 40 * 10 ^ 54 := by omega
      have e : (40 : Int) * 10 ^ 54 < 10 ^ 60 := by decide
      have hi : i = 0 ∨ i = 1 := by omega
      refine ⟨.inl ?_, k _ m' ?_ ?_ (by omega)⟩
      · rcases hi with rfl | rfl <;> decide
      · rcases hi with rfl | rfl <;> omega
      · rcases hi with rfl | rfl <;> omega
end
end DW

namespace DW
open PySem PySem.Spec L2
def xs15 : List Str := ["BadNumber", "BadBook", "BadPlace", "BadRow", "BadText", "BadName", "NoName", "TakenName", "NoMove", "Unlike", "TooMany", "NotKept", "BadPromise", "NothingToUndo", "NothingToRedo"]
/-- the rows' fields, by class -/
def rowD (ad : Str → Addr) (a b : D) : List D := [.exc (ad "BadNumber") [("value", b), ("what", a)], .exc (ad "BadBook") [("index", b), ("what", a)], .exc (ad "BadPlace") [("value", a)], .exc (ad "BadRow") [("value", a)], .exc (ad "BadText") [("column", b), ("line", a)], .exc (ad "BadName") [("name", a)], .exc (ad "NoName") [("name", a)], .exc (ad "TakenName") [("name", a)], .exc (ad "NoMove") [("value", a)], .exc (ad "Unlike") [("what", a)], .exc (ad "TooMany") [("limit", b), ("what", a)], .exc (ad "NotKept") [("witness", b), ("promise", a)], .exc (ad "BadPromise") [("column", a)], .exc (ad "NothingToUndo") [], .exc (ad "NothingToRedo") []]
def fieldsD (a b : D) : List D := [.lst [a, b], .lst [a, b], .lst [a], .lst [a], .lst [a, b], .lst [a], .lst [a], .lst [a], .lst [a], .lst [a], .lst [a, b], .lst [a, b], .lst [a], .lst [], .lst []]
/-- what the module says of its classes -/
structure TX (P : Program) (w : World) (K : PySem.W.Frag) (mg : Str → Option Value) (base : Heap) (ad : Str → Addr) : Prop where
  b_isinstance : mg "isinstance" = none
  b_ValueError : mg "ValueError" = none
  mg_LeadError : mg "LeadError" = some (.ref (ad "LeadError"))
  xc : ∀ x ∈ xs15, XC K (ad x)
  isA : ∀ x ∈ xs15, ∀ y ∈ xs15, PySem.W.kitOne K (.ref (ad x)) (.ref (ad y)) = some (decide (x = y))
  isL : ∀ x ∈ xs15, PySem.W.kitOne K (.ref (ad x)) (.ref (ad "LeadError")) = some true
  isV : ∀ x ∈ xs15, PySem.W.kitOne K (.ref (ad x)) (.type "ValueError") = some true
  mg_BadNumber : mg "BadNumber" = some (.ref (ad "BadNumber"))
  mk_BadNumber : MkX P w K mg base "BadNumber" (ad "BadNumber") ["what", "value"]
  nf_BadNumber_what : PySem.W.findIn K (.ref (ad "BadNumber")) "what" = some none
  nf_BadNumber_value : PySem.W.findIn K (.ref (ad "BadNumber")) "value" = some none
  mg_BadBook : mg "BadBook" = some (.ref (ad "BadBook"))
  mk_BadBook : MkX P w K mg base "BadBook" (ad "BadBook") ["what", "index"]
  nf_BadBook_what : PySem.W.findIn K (.ref (ad "BadBook")) "what" = some none
  nf_BadBook_index : PySem.W.findIn K (.ref (ad "BadBook")) "index" = some none
  mg_BadPlace : mg "BadPlace" = some (.ref (ad "BadPlace"))
  mk_BadPlace : MkX P w K mg base "BadPlace" (ad "BadPlace") ["value"]
  nf_BadPlace_value : PySem.W.findIn K (.ref (ad "BadPlace")) "value" = some none
  mg_BadRow : mg "BadRow" = some (.ref (ad "BadRow"))
  mk_BadRow : MkX P w K mg base "BadRow" (ad "BadRow") ["value"]
  nf_BadRow_value : PySem.W.findIn K (.ref (ad "BadRow")) "value" = some none
  mg_BadText : mg "BadText" = some (.ref (ad "BadText"))
  mk_BadText : MkX P w K mg base "BadText" (ad "BadText") ["line", "column"]
  nf_BadText_line : PySem.W.findIn K (.ref (ad "BadText")) "line" = some none
  nf_BadText_column : PySem.W.findIn K (.ref (ad "BadText")) "column" = some none
  mg_BadName : mg "BadName" = some (.ref (ad "BadName"))
  mk_BadName : MkX P w K mg base "BadName" (ad "BadName") ["name"]
  nf_BadName_name : PySem.W.findIn K (.ref (ad "BadName")) "name" = some none
  mg_NoName : mg "NoName" = some (.ref (ad "NoName"))
  mk_NoName : MkX P w K mg base "NoName" (ad "NoName") ["name"]
  nf_NoName_name : PySem.W.findIn K (.ref (ad "NoName")) "name" = some none
  mg_TakenName : mg "TakenName" = some (.ref (ad "TakenName"))
  mk_TakenName : MkX P w K mg base "TakenName" (ad "TakenName") ["name"]
  nf_TakenName_name : PySem.W.findIn K (.ref (ad "TakenName")) "name" = some none
  mg_NoMove : mg "NoMove" = some (.ref (ad "NoMove"))
  mk_NoMove : MkX P w K mg base "NoMove" (ad "NoMove") ["value"]
  nf_NoMove_value : PySem.W.findIn K (.ref (ad "NoMove")) "value" = some none
  mg_Unlike : mg "Unlike" = some (.ref (ad "Unlike"))
  mk_Unlike : MkX P w K mg base "Unlike" (ad "Unlike") ["what"]
  nf_Unlike_what : PySem.W.findIn K (.ref (ad "Unlike")) "what" = some none
  mg_TooMany : mg "TooMany" = some (.ref (ad "TooMany"))
  mk_TooMany : MkX P w K mg base "TooMany" (ad "TooMany") ["what", "limit"]
  nf_TooMany_what : PySem.W.findIn K (.ref (ad "TooMany")) "what" = some none
  nf_TooMany_limit : PySem.W.findIn K (.ref (ad "TooMany")) "limit" = some none
  mg_NotKept : mg "NotKept" = some (.ref (ad "NotKept"))
  mk_NotKept : MkX P w K mg base "NotKept" (ad "NotKept") ["promise", "witness"]
  nf_NotKept_promise : PySem.W.findIn K (.ref (ad "NotKept")) "promise" = some none
  nf_NotKept_witness : PySem.W.findIn K (.ref (ad "NotKept")) "witness" = some none
  mg_BadPromise : mg "BadPromise" = some (.ref (ad "BadPromise"))
  mk_BadPromise : MkX P w K mg base "BadPromise" (ad "BadPromise") ["column"]
  nf_BadPromise_column : PySem.W.findIn K (.ref (ad "BadPromise")) "column" = some none
  mg_NothingToUndo : mg "NothingToUndo" = some (.ref (ad "NothingToUndo"))
  ei_NothingToUndo : PySem.W.excIn K (ad "NothingToUndo") [.type "ValueError", .type "Exception", .type "BaseException", .type "object"] "ValueError.__new__" = true
  kp_NothingToUndo : PySem.W.keepIn K (.ref (ad "NothingToUndo")) = true
  mg_NothingToRedo : mg "NothingToRedo" = some (.ref (ad "NothingToRedo"))
  ei_NothingToRedo : PySem.W.excIn K (ad "NothingToRedo") [.type "ValueError", .type "Exception", .type "BaseException", .type "object"] "ValueError.__new__" = true
  kp_NothingToRedo : PySem.W.keepIn K (.ref (ad "NothingToRedo")) = true
section
variable {P : Program} {w : World} {K : PySem.W.Frag} {mg : Str → Option Value} {base : Heap} {ad : Str → Addr}
def fwKinds (ad : Str → Addr) : FW := fun ds m Q => ∃ x fs, x ∈ xs15 ∧ ds = [.exc (ad x) fs] ∧ Q (.lst (xs15.map fun y => .bl (decide (x = y)))) m
def fwMade (ad : Str → Addr) : FW := fun ds m Q => ∃ a b, ds = [a, b] ∧ Q (.lst (rowD ad a b)) m
def fwFields (ad : Str → Addr) : FW := fun ds m Q => ∃ a b, ds = [.lst (rowD ad a b)] ∧ Q (.lst (fieldsD a b)) m
abbrev s__law_kinds : Stmt := topS 22
theorem sc__law_kinds : FnScope ["_law_e", "_law_first"] ["_law_e"] (defScope s__law_kinds) := ⟨rfl, rfl, rfl, by decide +kernel, rfl, by decide +kernel, by decide +kernel⟩
theorem ok_kinds {f : Addr} {fd : FuncData} (F : Fun K "_law_kinds" "_law_kinds" s__law_kinds f fd) (T : TX P w K mg base ad) : FnG false P w K mg base CX0 2 f fd ["_law_e"] (spD K (fwKinds ad)) := by
  refine fn_data (g := false) (P := P) (w := w) (mg := mg) (base := base) (k := 1) F sc__law_kinds (fun ds m Q h => ?_) (fun cdv A outer s H E c hr hgs => (dss_cons (ds_set (i := 1) sc__law_kinds.nd rfl (by first | exact Or.inl rfl | exact Or.inr rfl) (de_lst (da_cons (de_isX (K := K) rfl (by rfl) T.b_isinstance (by rfl) T.mg_BadNumber (de_var 0)) (da_cons (de_isX (K := K) rfl (by rfl) T.b_isinstance (by rfl) T.mg_BadBook (de_var 0)) (da_cons (de_isX (K := K) rfl (by rfl) T.b_isinstance (by rfl) T.mg_BadPlace (de_var 0)) (da_cons (de_isX (K := K) rfl (by rfl) T.b_isinstance (by rfl) T.mg_BadRow (de_var 0)) da_nil))))))
    (dss_cons (ds_set (i := 1) sc__law_kinds.nd rfl (by first | exact Or.inl rfl | exact Or.inr rfl) (de_add (de_var 1) (de_lst (da_cons (de_isX (K := K) rfl (by rfl) T.b_isinstance (by rfl) T.mg_BadText (de_var 0)) (da_cons (de_isX (K := K) rfl (by rfl) T.b_isinstance (by rfl) T.mg_BadName (de_var 0)) (da_cons (de_isX (K := K) rfl (by rfl) T.b_isinstance (by rfl) T.mg_NoName (de_var 0)) (da_cons (de_isX (K := K) rfl (by rfl) T.b_isinstance (by rfl) T.mg_TakenName (de_var 0)) da_nil)))))))
    (dss_cons (ds_set (i := 1) sc__law_kinds.nd rfl (by first | exact Or.inl rfl | exact Or.inr rfl) (de_add (de_var 1) (de_lst (da_cons (de_isX (K := K) rfl (by rfl) T.b_isinstance (by rfl) T.mg_NoMove (de_var 0)) (da_cons (de_isX (K := K) rfl (by rfl) T.b_isinstance (by rfl) T.mg_Unlike (de_var 0)) (da_cons (de_isX (K := K) rfl (by rfl) T.b_isinstance (by rfl) T.mg_TooMany (de_var 0)) (da_cons (de_isX (K := K) rfl (by rfl) T.b_isinstance (by rfl) T.mg_NotKept (de_var 0)) da_nil)))))))
    (dss_one (ds_ret (de_add (de_var 1) (de_lst (da_cons (de_isX (K := K) rfl (by rfl) T.b_isinstance (by rfl) T.mg_BadPromise (de_var 0)) (da_cons (de_isX (K := K) rfl (by rfl) T.b_isinstance (by rfl) T.mg_NothingToUndo (de_var 0)) (da_cons (de_isX (K := K) rfl (by rfl) T.b_isinstance (by rfl) T.mg_NothingToRedo (de_var 0)) da_nil))))))))))) fun ds m Q h => ?_
  · obtain ⟨x, fs, _, rfl, _⟩ := h
    rfl
  · obtain ⟨x, fs, hx, rfl, k⟩ := h
    refine ⟨_, _, _, rfl, T.xc x hx, T.isA x hx "BadNumber" (by decide +kernel), ?_⟩
    refine ⟨_, _, _, rfl, T.xc x hx, T.isA x hx "BadBook" (by decide +kernel), ?_⟩
    refine ⟨_, _, _, rfl, T.xc x hx, T.isA x hx "BadPlace" (by decide +kernel), ?_⟩
    refine ⟨_, _, _, rfl, T.xc x hx, T.isA x hx "BadRow" (by decide +kernel), ?_⟩
    refine ⟨show 4 ≤ sizeLine by decide, ?_⟩
    refine ⟨_, _, _, rfl, T.xc x hx, T.isA x hx "BadText" (by decide +kernel), ?_⟩
    refine ⟨_, _, _, rfl, T.xc x hx, T.isA x hx "BadName" (by decide +kernel), ?_⟩
    refine ⟨_, _, _, rfl, T.xc x hx, T.isA x hx "NoName" (by decide +kernel), ?_⟩
    refine ⟨_, _, _, rfl, T.xc x hx, T.isA x hx "TakenName" (by decide +kernel), ?_⟩
    refine ⟨show 4 ≤ sizeLine by decide, ?_⟩
    refine ⟨show 4 + 4 ≤ sizeLine by decide, ?_⟩
    refine ⟨_, _, _, rfl, T.xc x hx, T.isA x hx "NoMove" (by decide +kernel), ?_⟩
    refine ⟨_, _, _, rfl, T.xc x hx, T.isA x hx "Unlike" (by decide +kernel), ?_⟩
    refine ⟨_, _, _, rfl, T.xc x hx, T.isA x hx "TooMany" (by decide +kernel), ?_⟩
    refine ⟨_, _, _, rfl, T.xc x hx, T.isA x hx "NotKept" (by decide +kernel), ?_⟩
    refine ⟨show 4 ≤ sizeLine by decide, ?_⟩
    refine ⟨show 8 + 4 ≤ sizeLine by decide, ?_⟩
    refine ⟨_, _, _, rfl, T.xc x hx, T.isA x hx "BadPromise" (by decide +kernel), ?_⟩
    refine ⟨_, _, _, rfl, T.xc x hx, T.isA x hx "NothingToUndo" (by decide +kernel), ?_⟩
    refine ⟨_, _, _, rfl, T.xc x hx, T.isA x hx "NothingToRedo" (by decide +kernel), ?_⟩
    refine ⟨show 3 ≤ sizeLine by decide, ?_⟩
    refine ⟨show 12 + 3 ≤ sizeLine by decide, ?_⟩
    exact k
abbrev s__law_made : Stmt := topS 23
theorem sc__law_made : FnScope ["_law_a", "_law_b", "_law_first"] ["_law_a", "_law_b"] (defScope s__law_made) := ⟨rfl, rfl, rfl, by decide +kernel, rfl, by decide +kernel, by decide +kernel⟩
theorem ok_made {f : Addr} {fd : FuncData} (F : Fun K "_law_made" "_law_made" s__law_made f fd) (T : TX P w K mg base ad) : FnG false P w K mg base CX0 3 f fd ["_law_a", "_law_b"] (spD K (fwMade ad)) := by
  refine fn_data (g := false) (P := P) (w := w) (mg := mg) (base := base) (k := 2) F sc__law_made (fun ds m Q h => ?_) (fun cdv A outer s H E c hr hgs => (dss_cons (ds_set (i := 2) sc__law_made.nd rfl (by first | exact Or.inl rfl | exact Or.inr rfl) (de_lst (da_cons (de_mkx T.mk_BadNumber hr (by decide) (by rfl) (da_cons (de_var 0) (da_cons (de_var 1) da_nil))) (da_cons (de_mkx T.mk_BadBook hr (by decide) (by rfl) (da_cons (de_var 0) (da_cons (de_var 1) da_nil))) (da_cons (de_mkx T.mk_BadPlace hr (by decide) (by rfl) (da_cons (de_var 0) da_nil)) (da_cons (de_mkx T.mk_BadRow hr (by decide) (by rfl) (da_cons (de_var 0) da_nil)) (da_cons (de_mkx T.mk_BadText hr (by decide) (by rfl) (da_cons (de_var 0) (da_cons (de_var 1) da_nil))) (da_cons (de_mkx T.mk_BadName hr (by decide) (by rfl) (da_cons (de_var 0) da_nil)) (da_cons (de_mkx T.mk_NoName hr (by decide) (by rfl) (da_cons (de_var 0) da_nil)) da_nil)))))))))
    (dss_cons (ds_set (i := 2) sc__law_made.nd rfl (by first | exact Or.inl rfl | exact Or.inr rfl) (de_add (de_var 2) (de_lst (da_cons (de_mkx T.mk_TakenName hr (by decide) (by rfl) (da_cons (de_var 0) da_nil)) (da_cons (de_mkx T.mk_NoMove hr (by decide) (by rfl) (da_cons (de_var 0) da_nil)) (da_cons (de_mkx T.mk_Unlike hr (by decide) (by rfl) (da_cons (de_var 0) da_nil)) (da_cons (de_mkx T.mk_TooMany hr (by decide) (by rfl) (da_cons (de_var 0) (da_cons (de_var 1) da_nil))) (da_cons (de_mkx T.mk_NotKept hr (by decide) (by rfl) (da_cons (de_var 0) (da_cons (de_var 1) da_nil))) (da_cons (de_mkx T.mk_BadPromise hr (by decide) (by rfl) (da_cons (de_var 0) da_nil)) da_nil)))))))))
    (dss_one (ds_ret (de_add (de_var 2) (de_lst (da_cons (de_mkx0 PySem.F.excBase_ValueError T.ei_NothingToUndo T.mg_NothingToUndo T.kp_NothingToUndo (by rfl)) (da_cons (de_mkx0 PySem.F.excBase_ValueError T.ei_NothingToRedo T.mg_NothingToRedo T.kp_NothingToRedo (by rfl)) da_nil))))))))) fun ds m Q h => ?_
  · obtain ⟨a, b, rfl, _⟩ := h
    rfl
  · obtain ⟨a, b, rfl, k⟩ := h
    refine ⟨rfl, ?_⟩
    refine ⟨rfl, ?_⟩
    refine ⟨rfl, ?_⟩
    refine ⟨rfl, ?_⟩
    refine ⟨rfl, ?_⟩
    refine ⟨rfl, ?_⟩
    refine ⟨rfl, ?_⟩
    refine ⟨show 7 ≤ sizeLine by decide, ?_⟩
    refine ⟨rfl, ?_⟩
    refine ⟨rfl, ?_⟩
    refine ⟨rfl, ?_⟩
    refine ⟨rfl, ?_⟩
    refine ⟨rfl, ?_⟩
    refine ⟨rfl, ?_⟩
    refine ⟨show 6 ≤ sizeLine by decide, ?_⟩
    refine ⟨show 7 + 6 ≤ sizeLine by decide, ?_⟩
    refine ⟨show 2 ≤ sizeLine by decide, ?_⟩
    refine ⟨show 13 + 2 ≤ sizeLine by decide, ?_⟩
    exact k
theorem look_hit {α : Type} {f : Str} {v : α} {r : List (Str × α)} : List.lookup f ((f, v) :: r) = some v := by simp [List.lookup]
theorem look_next {α : Type} {f g : Str} {v w : α} {r : List (Str × α)} (h : (f == g) = false) : List.lookup f ((g, w) :: (f, v) :: r) = some v := by simp [List.lookup, h]
abbrev s__law_fields : Stmt := topS 24
theorem sc__law_fields : FnScope ["_law_row", "_law_first"] ["_law_row"] (defScope s__law_fields) := ⟨rfl, rfl, rfl, by decide +kernel, rfl, by decide +kernel, by decide +kernel⟩
theorem ok_fields {f : Addr} {fd : FuncData} (F : Fun K "_law_fields" "_law_fields" s__law_fields f fd) (T : TX P w K mg base ad) : FnG false P w K mg base CX0 2 f fd ["_law_row"] (spD K (fwFields ad)) := by
  refine fn_data (g := false) (P := P) (w := w) (mg := mg) (base := base) (k := 1) F sc__law_fields (fun ds m Q h => ?_) (fun cdv A outer s H E c hr hgs => (dss_cons (ds_set (i := 1) sc__law_fields.nd rfl (by first | exact Or.inl rfl | exact Or.inr rfl) (de_lst (da_cons (de_lst (da_cons (de_xat (K := K) rfl (de_item (de_var 0) de_int (fun _ _ => rfl))) (da_cons (de_xat (K := K) rfl (de_item (de_var 0) de_int (fun _ _ => rfl))) da_nil))) (da_cons (de_lst (da_cons (de_xat (K := K) rfl (de_item (de_var 0) de_int (fun _ _ => rfl))) (da_cons (de_xat (K := K) rfl (de_item (de_var 0) de_int (fun _ _ => rfl))) da_nil))) (da_cons (de_lst (da_cons (de_xat (K := K) rfl (de_item (de_var 0) de_int (fun _ _ => rfl))) da_nil)) (da_cons (de_lst (da_cons (de_xat (K := K) rfl (de_item (de_var 0) de_int (fun _ _ => rfl))) da_nil)) da_nil))))))
    (dss_cons (ds_set (i := 1) sc__law_fields.nd rfl (by first | exact Or.inl rfl | exact Or.inr rfl) (de_add (de_var 1) (de_lst (da_cons (de_lst (da_cons (de_xat (K := K) rfl (de_item (de_var 0) de_int (fun _ _ => rfl))) (da_cons (de_xat (K := K) rfl (de_item (de_var 0) de_int (fun _ _ => rfl))) da_nil))) (da_cons (de_lst (da_cons (de_xat (K := K) rfl (de_item (de_var 0) de_int (fun _ _ => rfl))) da_nil)) (da_cons (de_lst (da_cons (de_xat (K := K) rfl (de_item (de_var 0) de_int (fun _ _ => rfl))) da_nil)) (da_cons (de_lst (da_cons (de_xat (K := K) rfl (de_item (de_var 0) de_int (fun _ _ => rfl))) da_nil)) (da_cons (de_lst (da_cons (de_xat (K := K) rfl (de_item (de_var 0) de_int (fun _ _ => rfl))) da_nil)) da_nil))))))))
    (dss_cons (ds_set (i := 1) sc__law_fields.nd rfl (by first | exact Or.inl rfl | exact Or.inr rfl) (de_add (de_var 1) (de_lst (da_cons (de_lst (da_cons (de_xat (K := K) rfl (de_item (de_var 0) de_int (fun _ _ => rfl))) da_nil)) (da_cons (de_lst (da_cons (de_xat (K := K) rfl (de_item (de_var 0) de_int (fun _ _ => rfl))) (da_cons (de_xat (K := K) rfl (de_item (de_var 0) de_int (fun _ _ => rfl))) da_nil))) (da_cons (de_lst (da_cons (de_xat (K := K) rfl (de_item (de_var 0) de_int (fun _ _ => rfl))) (da_cons (de_xat (K := K) rfl (de_item (de_var 0) de_int (fun _ _ => rfl))) da_nil))) da_nil))))))
    (dss_one (ds_ret (de_add (de_var 1) (de_lst (da_cons (de_lst (da_cons (de_xat (K := K) rfl (de_item (de_var 0) de_int (fun _ _ => rfl))) da_nil)) (da_cons (de_lst da_nil) (da_cons (de_lst da_nil) da_nil))))))))))) fun ds m Q h => ?_
  · obtain ⟨a, b, rfl, _⟩ := h
    rfl
  · obtain ⟨a, b, rfl, k⟩ := h
    refine ⟨_, rfl, _, _, _, rfl, T.xc "BadNumber" (by decide +kernel), T.nf_BadNumber_what, (look_next (by decide +kernel)), ?_⟩
    refine ⟨_, rfl, _, _, _, rfl, T.xc "BadNumber" (by decide +kernel), T.nf_BadNumber_value, look_hit, ?_⟩
    refine ⟨show 2 ≤ sizeLine by decide, ?_⟩
    refine ⟨_, rfl, _, _, _, rfl, T.xc "BadBook" (by decide +kernel), T.nf_BadBook_what, (look_next (by decide +kernel)), ?_⟩
    refine ⟨_, rfl, _, _, _, rfl, T.xc "BadBook" (by decide +kernel), T.nf_BadBook_index, look_hit, ?_⟩
    refine ⟨show 2 ≤ sizeLine by decide, ?_⟩
    refine ⟨_, rfl, _, _, _, rfl, T.xc "BadPlace" (by decide +kernel), T.nf_BadPlace_value, look_hit, ?_⟩
    refine ⟨show 1 ≤ sizeLine by decide, ?_⟩
    refine ⟨_, rfl, _, _, _, rfl, T.xc "BadRow" (by decide +kernel), T.nf_BadRow_value, look_hit, ?_⟩
    refine ⟨show 1 ≤ sizeLine by decide, ?_⟩
    refine ⟨show 4 ≤ sizeLine by decide, ?_⟩
    refine ⟨_, rfl, _, _, _, rfl, T.xc "BadText" (by decide +kernel), T.nf_BadText_line, (look_next (by decide +kernel)), ?_⟩
    refine ⟨_, rfl, _, _, _, rfl, T.xc "BadText" (by decide +kernel), T.nf_BadText_column, look_hit, ?_⟩
    refine ⟨show 2 ≤ sizeLine by decide, ?_⟩
    refine ⟨_, rfl, _, _, _, rfl, T.xc "BadName" (by decide +kernel), T.nf_BadName_name, look_hit, ?_⟩
    refine ⟨show 1 ≤ sizeLine by decide, ?_⟩
    refine ⟨_, rfl, _, _, _, rfl, T.xc "NoName" (by decide +kernel), T.nf_NoName_name, look_hit, ?_⟩
    refine ⟨show 1 ≤ sizeLine by decide, ?_⟩
    refine ⟨_, rfl, _, _, _, rfl, T.xc "TakenName" (by decide +kernel), T.nf_TakenName_name, look_hit, ?_⟩
    refine ⟨show 1 ≤ sizeLine by decide, ?_⟩
    refine ⟨_, rfl, _, _, _, rfl, T.xc "NoMove" (by decide +kernel), T.nf_NoMove_value, look_hit, ?_⟩
    refine ⟨show 1 ≤ sizeLine by decide, ?_⟩
    refine ⟨show 5 ≤ sizeLine by decide, ?_⟩
    refine ⟨show 4 + 5 ≤ sizeLine by decide, ?_⟩
    refine ⟨_, rfl, _, _, _, rfl, T.xc "Unlike" (by decide +kernel), T.nf_Unlike_what, look_hit, ?_⟩
    refine ⟨show 1 ≤ sizeLine by decide, ?_⟩
    refine ⟨_, rfl, _, _, _, rfl, T.xc "TooMany" (by decide +kernel), T.nf_TooMany_what, (look_next (by decide +kernel)), ?_⟩
    refine ⟨_, rfl, _, _, _, rfl, T.xc "TooMany" (by decide +kernel), T.nf_TooMany_limit, look_hit, ?_⟩
    refine ⟨show 2 ≤ sizeLine by decide, ?_⟩
    refine ⟨_, rfl, _, _, _, rfl, T.xc "NotKept" (by decide +kernel), T.nf_NotKept_promise, (look_next (by decide +kernel)), ?_⟩
    refine ⟨_, rfl, _, _, _, rfl, T.xc "NotKept" (by decide +kernel), T.nf_NotKept_witness, look_hit, ?_⟩
    refine ⟨show 2 ≤ sizeLine by decide, ?_⟩
    refine ⟨show 3 ≤ sizeLine by decide, ?_⟩
    refine ⟨show 9 + 3 ≤ sizeLine by decide, ?_⟩
    refine ⟨_, rfl, _, _, _, rfl, T.xc "BadPromise" (by decide +kernel), T.nf_BadPromise_column, look_hit, ?_⟩
    refine ⟨show 1 ≤ sizeLine by decide, ?_⟩
    refine ⟨show 0 ≤ sizeLine by decide, ?_⟩
    refine ⟨show 0 ≤ sizeLine by decide, ?_⟩
    refine ⟨show 3 ≤ sizeLine by decide, ?_⟩
    refine ⟨show 12 + 3 ≤ sizeLine by decide, ?_⟩
    exact k
end
end DW

namespace DW
open PySem PySem.Spec L2
def fwVal : FW := fun ds m Q => ds = [.pen] ∧ m < 999999998000 ∧ ∀ v m', Val 1000 v → m' ≤ m + 13 → Q v m'
structure TVal (P : Program) (w : World) (K : PySem.W.Frag) (mg : Str → Option Value) (base : Heap) : Prop extends TFar P w K mg base where
  f__law_far : DFn false P w K mg base 3 "_law_far" fwFar
  b_str : mg "str" = none
  b_abs : mg "abs" = none
section
variable {P : Program} {w : World} {K : PySem.W.Frag} {mg : Str → Option Value} {base : Heap} {ad : Str → Addr}
abbrev s__law_value : Stmt := topS 25
theorem sc__law_value : FnScope ["_law_pen_here", "_law_far_here", "_law_some"] ["_law_pen_here"] (defScope s__law_value) := ⟨rfl, rfl, rfl, by decide +kernel, rfl, by decide +kernel, by decide +kernel⟩
theorem ok_value {f : Addr} {fd : FuncData} (F : Fun K "_law_value" "_law_value" s__law_value f fd) (T : TVal P w K mg base) : FnG false P w K mg base CX0 4 f fd ["_law_pen_here"] (spD K fwVal) := by
  refine fn_data (g := false) (P := P) (w := w) (mg := mg) (base := base) (k := 3) F sc__law_value (fun ds m Q h => ?_) (fun cdv A outer s H E c hr hgs => (dss_cons (ds_set (i := 1) sc__law_value.nd rfl (by first | exact Or.inl rfl | exact Or.inr rfl) (de_call T.f__law_far hr nog (by decide) (by rfl) (da_cons (de_var 0) da_nil)))
    (dss_cons (ds_set (i := 2) sc__law_value.nd rfl (by first | exact Or.inl rfl | exact Or.inr rfl) (de_lst (da_cons (de_var 1) (da_cons (de_add de_str (de_callTy call_str_int rd_str (by rfl) T.b_str (by decide +kernel) (da_cons (de_mod (de_callB call_abs rd_abs (by rfl) T.b_abs (by decide +kernel) (da_cons (de_var 1) da_nil)) de_int) da_nil))) (da_cons de_non (da_cons (de_tup (da_cons (de_var 1) (da_cons de_str da_nil))) (da_cons (de_lst (da_cons (de_var 1) da_nil)) (da_cons de_bl (da_cons de_str da_nil)))))))))
    (dss_one (ds_ret (de_call T.f__law_pick hr nog (by decide) (by rfl) (da_cons (de_var 0) (da_cons (de_add (de_var 2) (de_lst (da_cons (de_tup (da_cons de_str (da_cons de_int da_nil))) (da_cons (de_tup (da_cons de_str (da_cons de_int (da_cons (de_lst (da_cons de_int da_nil)) da_nil)))) da_nil)))) da_nil)))))))) fun ds m Q h => ?_
  · obtain ⟨rfl, _⟩ := h
    rfl
  · obtain ⟨rfl, hm, k⟩ := h
    refine ⟨rfl, by omega, fun z m1 z0 z1 hm1 => ?_⟩
    refine ⟨show (0 : Int) < 1000 by decide, ?_⟩
    have a0 : 0 ≤ (if z < 0 then -z else z) % 1000 ∧ (if z < 0 then -z else z) % 1000 < 1000 := emod_lt' (by decide)
    generalize (if z < 0 then -z else z) % 1000 = u at a0
    have ul : (Str.ofString (toString u)).length ≤ 61 := int_len (by omega) (by omega)
    have xl : (Str.ofString "x").length = 1 := by decide +kernel
    have al : (Str.ofString "a").length = 1 := by decide +kernel
    have sl : sizeLine = 16777216 := sizeLine_eq
    refine ⟨int_log (by omega) (by omega), ⟨by rw [xl]; omega, ?_⟩⟩
    refine ⟨show 2 ≤ sizeLine by decide, show 1 ≤ sizeLine by decide, show 7 ≤ sizeLine by decide, ?_⟩
    refine ⟨show 2 ≤ sizeLine by decide, show 1 ≤ sizeLine by decide, show 3 ≤ sizeLine by decide, show 2 ≤ sizeLine by decide, show 7 + 2 ≤ sizeLine by decide, ?_⟩
    refine ⟨_, rfl, (show 0 < 9 by decide), (show 9 < 1073741824 by decide), by omega, fun x hx => k x _ ?_ (by omega)⟩
    have zl := int_len z0 z1
    have zg := int_log z0 z1
    simp only [List.cons_append, List.nil_append, List.mem_cons, List.not_mem_nil, or_false] at hx
    rcases hx with rfl | rfl | rfl | rfl | rfl | rfl | rfl | rfl | rfl
    · exact (val_int z0 z1).mono (by decide)
    · refine val_str (strOk_append (by decide +kernel) (intText_ok u)) ?_
      rw [Str.length_append, xl]
      omega
    · exact ⟨.none, by simp [D.py, pyAll], by simp [PyData.canLay0, PyData.canLayAll0], by simp [PyData.showable, PyData.showableAll], by simp [PyData.hasDict, PyData.hasDictAll], by simp only [lnB, lnAll]; omega, by simp [PyData.depth, PyData.depthAll]⟩
    · exact ⟨.tuple [.int z, .str "a"], by simp [D.py, pyAll], by simp [PyData.canLay0, PyData.canLayAll0]; decide +kernel, by simp [PyData.showable, PyData.showableAll]; exact zg, by simp [PyData.hasDict, PyData.hasDictAll], by simp only [lnB, lnAll]; rw [al]; omega, by simp [PyData.depth, PyData.depthAll]⟩
    · exact ⟨.list [.int z], by simp [D.py, pyAll], by simp [PyData.canLay0, PyData.canLayAll0], by simp [PyData.showable, PyData.showableAll]; exact zg, by simp [PyData.hasDict, PyData.hasDictAll], by simp only [lnB, lnAll]; omega, by simp [PyData.depth, PyData.depthAll]⟩
    · exact ⟨.bool true, by simp [D.py, pyAll], by simp [PyData.canLay0, PyData.canLayAll0], by simp [PyData.showable, PyData.showableAll], by simp [PyData.hasDict, PyData.hasDictAll], by simp only [lnB, lnAll]; omega, by simp [PyData.depth, PyData.depthAll]⟩
    · exact val_str (by decide +kernel) (by decide +kernel)
    · exact ⟨.tuple [.str "least", .int 2], by simp [D.py, pyAll], by simp [PyData.canLay0, PyData.canLayAll0]; decide +kernel, by simp [PyData.showable, PyData.showableAll]; decide +kernel, by simp [PyData.hasDict, PyData.hasDictAll], by simp only [lnB, lnAll]; decide +kernel, by simp [PyData.depth, PyData.depthAll]⟩
    · exact ⟨.tuple [.str "rest", .int 2, .list [.int 1]], by simp [D.py, pyAll], by simp [PyData.canLay0, PyData.canLayAll0]; decide +kernel, by simp [PyData.showable, PyData.showableAll]; decide +kernel, by simp [PyData.hasDict, PyData.hasDictAll], by simp only [lnB, lnAll]; decide +kernel, by simp [PyData.depth, PyData.depthAll]⟩
end
end DW

namespace DW
open PySem PySem.Spec L2
structure TLaw (P : Program) (w : World) (K : PySem.W.Frag) (mg : Str → Option Value) (base : Heap) (ad : Str → Addr) : Prop extends TX P w K mg base ad where
  f__law_value : DFn false P w K mg base 4 "_law_value" fwVal
  f__law_made : DFn false P w K mg base 3 "_law_made" (fwMade ad)
  f__law_kinds : DFn false P w K mg base 2 "_law_kinds" (fwKinds ad)
  f__law_fields : DFn false P w K mg base 2 "_law_fields" (fwFields ad)
  b_range : mg "range" = none
  b_len : mg "len" = none
  b_enumerate : mg "enumerate" = none
  b_repr : mg "repr" = none
section
variable {P : Program} {w : World} {K : PySem.W.Frag} {mg : Str → Option Value} {base : Heap} {ad : Str → Addr}
def lens : List Int := [2, 2, 1, 1, 2, 1, 1, 1, 1, 1, 2, 2, 1, 0, 0]
theorem fun15 {P : Nat → Prop} (h0 h1 h2 h3 h4 h5 h6 h7 h8 h9 h10 h11 h12 h13 h14 : True) : True := trivial
theorem rowFs {a b : D} {i : Nat} {d : D} (h : (rowD ad a b)[i]? = some d) : i < 15 ∧ ∃ fs, d = .exc (ad (xs15.getD i "")) fs := by
  match i, h with
  | 0, h => exact ⟨by decide, _, (Option.some.inj h).symm⟩
  | 1, h => exact ⟨by decide, _, (Option.some.inj h).symm⟩
  | 2, h => exact ⟨by decide, _, (Option.some.inj h).symm⟩
  | 3, h => exact ⟨by decide, _, (Option.some.inj h).symm⟩
  | 4, h => exact ⟨by decide, _, (Option.some.inj h).symm⟩
  | 5, h => exact ⟨by decide, _, (Option.some.inj h).symm⟩
  | 6, h => exact ⟨by decide, _, (Option.some.inj h).symm⟩
  | 7, h => exact ⟨by decide, _, (Option.some.inj h).symm⟩
  | 8, h => exact ⟨by decide, _, (Option.some.inj h).symm⟩
  | 9, h => exact ⟨by decide, _, (Option.some.inj h).symm⟩
  | 10, h => exact ⟨by decide, _, (Option.some.inj h).symm⟩
  | 11, h => exact ⟨by decide, _, (Option.some.inj h).symm⟩
  | 12, h => exact ⟨by decide, _, (Option.some.inj h).symm⟩
  | 13, h => exact ⟨by decide, _, (Option.some.inj h).symm⟩
  | 14, h => exact ⟨by decide, _, (Option.some.inj h).symm⟩
  | n + 15, h =>
    have : (rowD ad a b)[n + 15]? = none := List.getElem?_eq_none (show 15 ≤ n + 15 by omega)
    rw [this] at h
    cases h
theorem rowAt {a b : D} {i : Nat} {d : D} (h : (enumD (rowD ad a b))[i]? = some d) : i < 15 ∧ ∃ fs, d = .tup [.int i, .exc (ad (xs15.getD i "")) fs] := by
  unfold enumD at h
  rw [List.getElem?_mapIdx] at h
  cases e : (rowD ad a b)[i]? with
  | none =>
    rw [e] at h
    cases h
  | some x =>
    rw [e] at h
    obtain ⟨hi, fs, rfl⟩ := rowFs e
    exact ⟨hi, fs, (Option.some.inj h).symm⟩
theorem nameAt : ∀ i < 15, xs15.getD i "" ∈ xs15 := by decide +kernel
theorem boolsAt : ∀ i < 15, (xs15.map fun y => decide (xs15.getD i "" = y)) = (List.range 15).map fun j => decide (j = i) := by decide +kernel
theorem fieldAt {a b : D} {i : Nat} {d : D} (h : (fieldsD a b)[i]? = some d) : ∃ n : Nat, n ≤ 2 ∧ d = .lst ([a, b].take n) ∧ lens[i]? = some (n : Int) := by
  match i, h with
  | 0, h => exact ⟨2, by decide, (Option.some.inj h).symm, rfl⟩
  | 1, h => exact ⟨2, by decide, (Option.some.inj h).symm, rfl⟩
  | 2, h => exact ⟨1, by decide, (Option.some.inj h).symm, rfl⟩
  | 3, h => exact ⟨1, by decide, (Option.some.inj h).symm, rfl⟩
  | 4, h => exact ⟨2, by decide, (Option.some.inj h).symm, rfl⟩
  | 5, h => exact ⟨1, by decide, (Option.some.inj h).symm, rfl⟩
  | 6, h => exact ⟨1, by decide, (Option.some.inj h).symm, rfl⟩
  | 7, h => exact ⟨1, by decide, (Option.some.inj h).symm, rfl⟩
  | 8, h => exact ⟨1, by decide, (Option.some.inj h).symm, rfl⟩
  | 9, h => exact ⟨1, by decide, (Option.some.inj h).symm, rfl⟩
  | 10, h => exact ⟨2, by decide, (Option.some.inj h).symm, rfl⟩
  | 11, h => exact ⟨2, by decide, (Option.some.inj h).symm, rfl⟩
  | 12, h => exact ⟨1, by decide, (Option.some.inj h).symm, rfl⟩
  | 13, h => exact ⟨0, by decide, (Option.some.inj h).symm, rfl⟩
  | 14, h => exact ⟨0, by decide, (Option.some.inj h).symm, rfl⟩
  | n + 15, h =>
    have : (fieldsD a b)[n + 15]? = none := List.getElem?_eq_none (show 15 ≤ n + 15 by omega)
    rw [this] at h
    cases h
theorem neSame {d : D} {q : PyData} {R : D → Prop} (h : d.py = some q) (c : q.canLay0 = true) (l : q.depth ≤ 64) (r : R (.bl false)) : neA d d R := by
  have s : SeqAt.shaped q = true := by
    unfold SeqAt.shaped
    rw [c]
    simpa using l
  refine .inl ⟨q, q, h, h, s, s, ?_⟩
  rw [SeqAt.eqv_refl q c]
  exact r
theorem pyBools : ∀ l : List Bool, pyAll (l.map D.bl) = some (l.map PyData.bool)
  | [] => by simp [pyAll]
  | b :: l => by simp [pyAll, D.py, pyBools l]
theorem layBools : ∀ l : List Bool, PyData.canLayAll0 (l.map PyData.bool) = true ∧ PyData.depthAll (l.map PyData.bool) = 0
  | [] => by simp [PyData.canLayAll0, PyData.depthAll]
  | b :: l => by simp [PyData.canLayAll0, PyData.depthAll, PyData.canLay0, PyData.depth, layBools l]
theorem pyInts : ∀ l : List Int, pyAll (l.map D.int) = some (l.map PyData.int)
  | [] => by simp [pyAll]
  | b :: l => by simp [pyAll, D.py, pyInts l]
theorem layInts : ∀ l : List Int, PyData.canLayAll0 (l.map PyData.int) = true ∧ PyData.depthAll (l.map PyData.int) = 0
  | [] => by simp [PyData.canLayAll0, PyData.depthAll]
  | b :: l => by simp [PyData.canLayAll0, PyData.depthAll, PyData.canLay0, PyData.depth, layInts l]
theorem eqInts {l : List Int} {R : D → Prop} (r : R (.bl true)) : eqA (.lst (l.map D.int)) (.lst (l.map D.int)) R := by
  have c : PyData.canLay0 (.list (l.map PyData.int)) = true := by rw [PyData.canLay0]; exact (layInts l).1
  have s : SeqAt.shaped (.list (l.map PyData.int)) = true := by
    unfold SeqAt.shaped
    rw [c, PyData.depth, (layInts l).2]
    rfl
  have e : D.py (.lst (l.map D.int)) = some (.list (l.map PyData.int)) := by rw [D.py, pyInts]; rfl
  refine .inl ⟨_, _, e, e, s, s, ?_⟩
  rw [SeqAt.eqv_refl _ c]
  exact r
theorem neBools {l : List Bool} {R : D → Prop} (r : R (.bl false)) : neA (.lst (l.map D.bl)) (.lst (l.map D.bl)) R :=
  neSame (q := .list (l.map PyData.bool)) (by rw [D.py, pyBools]; rfl) (by rw [PyData.canLay0]; exact (layBools l).1) (by rw [PyData.depth, (layBools l).2]; decide) r
theorem eqInt {i j : Int} {R : D → Prop} (r : R (.bl (decide (i = j)))) : eqA (.int i) (.int j) R := by
  refine .inl ⟨.int i, .int j, by simp [D.py], by simp [D.py], by simp [SeqAt.shaped, PyData.canLay0, PyData.depth], by simp [SeqAt.shaped, PyData.canLay0, PyData.depth], ?_⟩
  have : PyData.eqv (.int i) (.int j) = decide (i = j) := by
    rw [PyData.eqv]
    rfl
  rw [this]
  exact r
theorem takeVal {a b : D} {n : Nat} (ha : Val 1000 a) (hb : Val 1000 b) (hn : n ≤ 2) : ∃ q, D.py (.lst ([a, b].take n)) = some q ∧ q.canLay0 = true ∧ q.showable = true ∧ q.hasDict = false ∧ q.shown.length ≤ sizeLine ∧ q.depth ≤ 60 := by
  obtain ⟨p, a1, a2, a3, a4, a5, a6⟩ := ha
  obtain ⟨r, b1, b2, b3, b4, b5, b6⟩ := hb
  have sl : sizeLine = 16777216 := sizeLine_eq
  have key : ∀ xs : List PyData, (∀ x ∈ xs, x = p ∨ x = r) → xs.length ≤ 2 → PyData.canLay0 (.list xs) = true ∧ PyData.showable (.list xs) = true ∧ PyData.hasDict (.list xs) = false ∧ lnB (.list xs) ≤ 2100 ∧ PyData.depth (.list xs) ≤ 60 := by
    intro xs hx hl
    have one : ∀ x ∈ xs, x.canLay0 = true ∧ x.showable = true ∧ x.hasDict = false ∧ lnB x ≤ 1000 ∧ x.depth ≤ 5 := fun x h => by
      rcases hx x h with rfl | rfl
      · exact ⟨a2, a3, a4, a5, a6⟩
      · exact ⟨b2, b3, b4, b5, b6⟩
    match xs, hl, one with
    | [], _, _ => simp [PyData.canLay0, PyData.canLayAll0, PyData.showable, PyData.showableAll, PyData.hasDict, PyData.hasDictAll, lnB, lnAll, PyData.depth, PyData.depthAll]
    | [x], _, one =>
      obtain ⟨h1, h2, h3, h4, h5⟩ := one x (by simp)
      refine ⟨by simp [PyData.canLay0, PyData.canLayAll0, h1], by simp [PyData.showable, PyData.showableAll, h2], by simp [PyData.hasDict, PyData.hasDictAll, h3], by simp only [lnB, lnAll]; omega, by simp only [PyData.depth, PyData.depthAll]; omega⟩
    | [x, y], _, one =>
      obtain ⟨h1, h2, h3, h4, h5⟩ := one x (by simp)
      obtain ⟨g1, g2, g3, g4, g5⟩ := one y (by simp)
      refine ⟨by simp [PyData.canLay0, PyData.canLayAll0, h1, g1], by simp [PyData.showable, PyData.showableAll, h2, g2], by simp [PyData.hasDict, PyData.hasDictAll, h3, g3], by simp only [lnB, lnAll]; omega, by simp only [PyData.depth, PyData.depthAll]; omega⟩
  have fin : ∀ (ds : List D) (xs : List PyData), pyAll ds = some xs → (∀ x ∈ xs, x = p ∨ x = r) → xs.length ≤ 2 → ∃ q, D.py (.lst ds) = some q ∧ q.canLay0 = true ∧ q.showable = true ∧ q.hasDict = false ∧ q.shown.length ≤ sizeLine ∧ q.depth ≤ 60 := fun ds xs h1 h2 h3 => by
    obtain ⟨k1, k2, k3, k4, k5⟩ := key xs h2 h3
    refine ⟨.list xs, by rw [D.py, h1]; rfl, k1, k2, k3, ?_, k5⟩
    have := shown_le _ k1
    omega
  match n, hn with
  | 0, _ => exact fin [] [] (by simp [pyAll]) (by simp) (by simp)
  | 1, _ => exact fin [a] [p] (by simp [pyAll, a1]) (by simp) (by simp)
  | 2, _ => exact fin [a, b] [p, r] (by simp [pyAll, a1, b1]) (by simp) (by simp)
theorem cutAt {a b : D} : ∀ n : Nat, n ≤ 2 → cutG [a, b] none (some (([a, b].take n).length : Int)) = [a, b].take n
  | 0, _ => rfl
  | 1, _ => rfl
  | 2, _ => rfl
abbrev s_law : Stmt := topS 26
theorem sc_law : FnScope ["_law_script", "_law_pen_here", "_law_given", "_law_k", "_law_row", "_law_e", "_law_j", "_law_fields_here"] ["_law_script"] (defScope s_law) := ⟨rfl, rfl, rfl, by decide +kernel, rfl, by decide +kernel, by decide +kernel⟩
theorem ok_law {f fp : Addr} {fd fdp : FuncData} (F : Fun K "law" "law" s_law f fd) (T : TLaw P w K mg base ad) (Fp : FnG false P w K mg base CX0 1 fp fdp ["_law_script"] (spPen K)) (gp : mg "_law_pen" = some (.ref fp)) (kp : PySem.W.keepIn K (.ref fp) = true) (bp : Binds K fdp ["_law_script"] []) : FnG true P w K mg base CX0 6 f fd ["_law_script"] (spLaw K) := by
  refine law_data (P := P) (w := w) (mg := mg) (base := base) (k := 5) F sc_law (by decide) rfl (fun cdv A outer s H E hr => ps_set (i := 1) sc_law.nd rfl (by first | exact Or.inl rfl | exact Or.inr rfl) (pe_callG (E := E0) Fp (hr.mono (by decide)) nog (by rfl) gp kp bp pass0 (pa_cons (pv 0) pa_nil)))
    (fun cdv A outer s H E c hr hgs => (dss_cons (ds_setLcD (i := 2) (own := [("_law_k", 3)]) sc_law.nd rfl rfl rfl rfl (di_range1 (by rfl) T.b_range (da_cons de_int da_nil)) (blkOk_by (own := [("_law_k", 3)]) (N := ["_law_script", "_law_pen_here", "_law_given", "_law_k", "_law_row", "_law_e", "_law_j", "_law_fields_here"]) (sc := defScope s_law) (by decide +kernel)) (fun _ _ _ _ _ => (dg_name (i := 3) sc_law.nd rfl (by first | exact Or.inl rfl | exact Or.inr rfl))) (by decide) (fun _ _ _ _ _ => dts_nil) (fun _ _ _ _ _ => (de_call T.f__law_value hr nog (by decide) (by rfl) (da_cons (de_var 1) da_nil))))
    (dss_cons (ds_set (i := 4) sc_law.nd rfl (by first | exact Or.inl rfl | exact Or.inr rfl) (de_call T.f__law_made hr nog (by decide) (by rfl) (da_cons (de_item (de_var 2) de_int (fun _ _ => rfl)) (da_cons (de_item (de_var 2) de_int (fun _ _ => rfl)) da_nil))))
    (dss_cons (ds_for PassesOwn.never rfl (di_enum (by rfl) T.b_enumerate (da_cons (de_var 4) da_nil)) (dg_tup (n := 2) rfl (dgs_cons (dg_name (i := 3) sc_law.nd rfl (by first | exact Or.inl rfl | exact Or.inr rfl)) (dgs_cons (dg_name (i := 5) sc_law.nd rfl (by first | exact Or.inl rfl | exact Or.inr rfl)) dgs_nil)))
    (dss_cons (ds_if (DTw.dt (dtw_or (dt_not (dt_val (de_isX (K := K) rfl (by rfl) T.b_isinstance (by rfl) T.mg_LeadError (de_var 5)))) (dtw_or1 (dt_not (dt_val (de_isXT (K := K) (T := "ValueError") rfl (by rfl) T.b_isinstance (by rfl) T.b_ValueError (by decide +kernel) (de_var 5)))))))
    (dss_one (ds_ret de_bl))
    dss_nil)
    (dss_one (ds_if (dt_ne hr (de_call T.f__law_kinds hr nog (by decide) (by rfl) (da_cons (de_var 5) da_nil)) (dl_lc (own := [("_law_j", 6)]) rfl sc_law.nd (di_range1 (by rfl) T.b_range (da_cons (de_callB call_len rd_len (by rfl) T.b_len (by decide +kernel) (da_cons (de_var 4) da_nil)) da_nil)) (blkOk_by (own := [("_law_j", 6)]) (N := ["_law_script", "_law_pen_here", "_law_given", "_law_k", "_law_row", "_law_e", "_law_j", "_law_fields_here"]) (sc := defScope s_law) (by decide +kernel)) (fun _ _ _ _ _ => (dg_name (i := 6) sc_law.nd rfl (by first | exact Or.inl rfl | exact Or.inr rfl))) (by decide) (fun _ _ _ _ _ => dts_nil) (fun _ _ _ _ _ => (de_eq hr (de_var 6) (de_var 3)))).de)
    (dss_one (ds_ret de_bl))
    dss_nil))))
    (dss_cons (ds_for PassesOwn.never rfl (di_seq (de_call T.f__law_fields hr nog (by decide) (by rfl) (da_cons (de_var 4) da_nil))) (dg_name (i := 7) sc_law.nd rfl (by first | exact Or.inl rfl | exact Or.inr rfl))
    (dss_one (ds_if (DTw.dt (dtw_or (dt_ne hr (de_var 7) (de_slice (de_var 2) do_none (do_some (de_callB call_len rd_len (by rfl) T.b_len (by decide +kernel) (da_cons (de_var 7) da_nil))))) (dtw_or1 (dt_ne hr (de_callB (call_reprD hgs (hu64 hr)) rd_repr (by rfl) T.b_repr (by decide +kernel) (da_cons (de_var 7) da_nil)) (de_callB (call_reprD hgs (hu64 hr)) rd_repr (by rfl) T.b_repr (by decide +kernel) (da_cons (de_slice (de_var 2) do_none (do_some (de_callB call_len rd_len (by rfl) T.b_len (by decide +kernel) (da_cons (de_var 7) da_nil)))) da_nil))))))
    (dss_one (ds_ret de_bl))
    dss_nil)))
    (dss_one (ds_ret (de_eq hr (dl_lc (own := [("_law_fields_here", 7)]) rfl sc_law.nd (di_seq (de_call T.f__law_fields hr nog (by decide) (by rfl) (da_cons (de_var 4) da_nil))) (blkOk_by (own := [("_law_fields_here", 7)]) (N := ["_law_script", "_law_pen_here", "_law_given", "_law_k", "_law_row", "_law_e", "_law_j", "_law_fields_here"]) (sc := defScope s_law) (by decide +kernel)) (fun _ _ _ _ _ => (dg_name (i := 7) sc_law.nd rfl (by first | exact Or.inl rfl | exact Or.inr rfl))) (by decide) (fun _ _ _ _ _ => dts_nil) (fun _ _ _ _ _ => (de_callB call_len rd_len (by rfl) T.b_len (by decide +kernel) (da_cons (de_var 7) da_nil)))).de (de_lst (da_cons de_int (da_cons de_int (da_cons de_int (da_cons de_int (da_cons de_int (da_cons de_int (da_cons de_int (da_cons de_int (da_cons de_int (da_cons de_int (da_cons de_int (da_cons de_int (da_cons de_int (da_cons de_int (da_cons de_int da_nil)))))))))))))))))))))))) ?_
  refine ⟨⟨by decide, by decide⟩, (show 2 < sizeLine by decide), fun i acc m => acc.length = i ∧ (∀ v ∈ acc, Val 1000 v) ∧ m ≤ 13 * i, ⟨rfl, by simp, by decide⟩, ?_, ?_⟩
  · rintro i d acc m hd ⟨h1, h2, h3⟩
    have hi : i < 2 := (List.getElem?_eq_some_iff.mp hd).1
    refine ⟨rfl, by omega, fun v m' hv hm => ⟨by simp [h1], fun x hx => ?_, by omega⟩⟩
    rcases List.mem_append.mp hx with z | z
    · exact h2 x z
    · rw [List.mem_singleton.mp z]
      exact hv
  rintro acc m ⟨h1, h2, h3⟩
  obtain ⟨a, b, rfl⟩ : ∃ a b, acc = [a, b] := by
    match acc, (show acc.length = 2 from h1) with
    | [a, b], _ => exact ⟨a, b, rfl⟩
  have va := h2 a (by simp)
  have vb := h2 b (by simp)
  refine ⟨a, rfl, b, rfl, a, b, rfl, ?_⟩
  refine ⟨fun i ρ m => ∃ c3 c5 c6 c7, ρ = [.un, .dat .pen, .dat (.lst [a, b]), c3, .dat (.lst (rowD ad a b)), c5, c6, c7], ⟨.un, .un, .un, .un, rfl⟩, ?_, ?_⟩
  · rintro i d ρ m' hd ⟨c3, c5, c6, c7, rfl⟩
    obtain ⟨hi, fs, rfl⟩ := rowAt hd
    have hx := nameAt i hi
    refine ⟨rfl, rfl, ?_⟩
    refine ⟨_, _, _, rfl, T.xc _ hx, T.isL _ hx, ?_⟩
    refine ⟨_, _, _, rfl, T.xc _ hx, T.isV _ hx, ?_⟩
    refine ⟨_, fs, hx, rfl, ?_⟩
    have r15 : (rowD ad a b).length = 15 := rfl
    refine ⟨⟨by rw [r15]; decide, by rw [r15]; decide⟩, (show 15 < sizeLine by decide), fun j acc m => acc = ((List.range j).map fun t => decide (t = i)).map D.bl, rfl, ?_, ?_⟩
    · rintro j d acc m2 hj rfl
      have hj15 : j < 15 := (List.getElem?_eq_some_iff.mp hj).1
      have ed : d = .int (0 + (j : Int)) := by
        unfold rngD at hj
        rw [List.getElem?_map, List.getElem?_range (show j < (((rowD ad a b).length : Int) - 0).toNat from hj15)] at hj
        exact (Option.some.inj hj).symm
      subst ed
      refine eqInt ?_
      show ((List.range j).map fun t => decide (t = i)).map D.bl ++ [D.bl (decide (0 + (j : Int) = (i : Int)))] = ((List.range (j + 1)).map fun t => decide (t = i)).map D.bl
      rw [List.range_succ, List.map_append, List.map_append]
      have : decide (0 + (j : Int) = (i : Int)) = decide (j = i) := by
        apply decide_eq_decide.mpr
        omega
      rw [this]
      rfl
    · rintro acc m2 rfl
      have e1 : (xs15.map fun y => D.bl (decide (xs15.getD i "" = y))) = ((List.range 15).map fun t => decide (t = i)).map D.bl := by
        rw [← boolsAt i hi, List.map_map]
        rfl
      rw [e1]
      exact neBools ⟨_, _, _, _, rfl⟩
  · rintro ρ m' ⟨c3, c5, c6, c7, rfl⟩
    refine ⟨a, b, rfl, ?_⟩
    refine ⟨fun i ρ m => ∃ c3 c5 c6 c7, ρ = [.un, .dat .pen, .dat (.lst [a, b]), c3, .dat (.lst (rowD ad a b)), c5, c6, c7], ⟨_, _, _, _, rfl⟩, ?_, ?_⟩
    · rintro i d ρ m2 hd ⟨c3, c5, c6, c7, rfl⟩
      obtain ⟨n, hn, rfl, _⟩ := fieldAt hd
      obtain ⟨q, q1, q2, q3, q4, q5, q6⟩ := takeVal va vb hn
      show neA (.lst ([a, b].take n)) (.lst (cutG [a, b] none (some (([a, b].take n).length : Int)))) _
      rw [cutAt n hn]
      refine neSame q1 q2 (by omega) ?_
      refine ⟨q, q1, q3, q4, q5, q6, q, (congrArg (fun z => D.py (.lst z)) (cutAt n hn)).trans q1, q3, q4, q5, q6, .inr ⟨q.shown, q.shown, rfl, rfl, ?_⟩⟩
      rw [decide_eq_true rfl]
      exact ⟨_, _, _, _, rfl⟩
    · rintro ρ m2 ⟨c3, c5, c6, c7, rfl⟩
      refine ⟨a, b, rfl, (show 15 < sizeLine by decide), fun i acc m => acc = (lens.take i).map D.int, rfl, ?_, ?_⟩
      · rintro i d acc m3 hd rfl
        obtain ⟨n, hn, rfl, hl⟩ := fieldAt hd
        have el : ([a, b].take n).length = n := by
          rw [List.length_take]
          exact Nat.min_eq_left hn
        show (lens.take i).map D.int ++ [D.int ((([a, b].take n).length : Nat) : Int)] = (lens.take (i + 1)).map D.int
        rw [el, List.take_succ, hl, List.map_append]
        rfl
      · rintro acc m3 rfl
        refine ⟨show 15 ≤ sizeLine by decide, ?_⟩
        exact eqInts (l := lens) rfl
end
end DW

namespace DW
open PySem PySem.Spec L2
section
variable {P : Program} {w : World} {K : PySem.W.Frag} {mg : Str → Option Value} {base : Heap}
abbrev s_BadNumber___init__ : Stmt := inClass (topS 2) 0
theorem sc_BadNumber___init__ : FnScope ["self", "what", "value"] ["self", "what", "value"] (defScope s_BadNumber___init__) := ⟨rfl, rfl, rfl, by decide +kernel, rfl, by decide +kernel, by decide +kernel⟩
theorem ini_BadNumber {C f : Addr} {fd : FuncData} (F : Fun K "__init__" "BadNumber.__init__" s_BadNumber___init__ f fd) (T : OexC K C) (N0 : PySem.W.findIn K (.ref C) "what" = some none) (N1 : PySem.W.findIn K (.ref C) "value" = some none) : FnOk P w K mg base CX0 1 f fd ["self", "what", "value"] (spX C ["what", "value"]) :=
  FnG.ok (fnG_of (g := false) F sc_BadNumber___init__ (fun vs H Q E h => by
    obtain ⟨a, us, rfl, hl, _⟩ := h
    rw [List.length_cons, hl]
    rfl) fun cdv A outer s H vs Q E hr _ h => ⟨_, PSs.nox (pss_cons (ps_ost (pv 0) (pv 1)) (pss_one (ps_ost (pv 0) (pv 2)))), init2 T N0 N1 h⟩)
abbrev s_BadBook___init__ : Stmt := inClass (topS 3) 0
theorem sc_BadBook___init__ : FnScope ["self", "what", "index"] ["self", "what", "index"] (defScope s_BadBook___init__) := ⟨rfl, rfl, rfl, by decide +kernel, rfl, by decide +kernel, by decide +kernel⟩
theorem ini_BadBook {C f : Addr} {fd : FuncData} (F : Fun K "__init__" "BadBook.__init__" s_BadBook___init__ f fd) (T : OexC K C) (N0 : PySem.W.findIn K (.ref C) "what" = some none) (N1 : PySem.W.findIn K (.ref C) "index" = some none) : FnOk P w K mg base CX0 1 f fd ["self", "what", "index"] (spX C ["what", "index"]) :=
  FnG.ok (fnG_of (g := false) F sc_BadBook___init__ (fun vs H Q E h => by
    obtain ⟨a, us, rfl, hl, _⟩ := h
    rw [List.length_cons, hl]
    rfl) fun cdv A outer s H vs Q E hr _ h => ⟨_, PSs.nox (pss_cons (ps_ost (pv 0) (pv 1)) (pss_one (ps_ost (pv 0) (pv 2)))), init2 T N0 N1 h⟩)
abbrev s_BadPlace___init__ : Stmt := inClass (topS 4) 0
theorem sc_BadPlace___init__ : FnScope ["self", "value"] ["self", "value"] (defScope s_BadPlace___init__) := ⟨rfl, rfl, rfl, by decide +kernel, rfl, by decide +kernel, by decide +kernel⟩
theorem ini_BadPlace {C f : Addr} {fd : FuncData} (F : Fun K "__init__" "BadPlace.__init__" s_BadPlace___init__ f fd) (T : OexC K C) (N0 : PySem.W.findIn K (.ref C) "value" = some none) : FnOk P w K mg base CX0 1 f fd ["self", "value"] (spX C ["value"]) :=
  FnG.ok (fnG_of (g := false) F sc_BadPlace___init__ (fun vs H Q E h => by
    obtain ⟨a, us, rfl, hl, _⟩ := h
    rw [List.length_cons, hl]
    rfl) fun cdv A outer s H vs Q E hr _ h => ⟨_, PSs.nox (pss_one (ps_ost (pv 0) (pv 1))), init1 T N0 h⟩)
abbrev s_BadRow___init__ : Stmt := inClass (topS 5) 0
theorem sc_BadRow___init__ : FnScope ["self", "value"] ["self", "value"] (defScope s_BadRow___init__) := ⟨rfl, rfl, rfl, by decide +kernel, rfl, by decide +kernel, by decide +kernel⟩
theorem ini_BadRow {C f : Addr} {fd : FuncData} (F : Fun K "__init__" "BadRow.__init__" s_BadRow___init__ f fd) (T : OexC K C) (N0 : PySem.W.findIn K (.ref C) "value" = some none) : FnOk P w K mg base CX0 1 f fd ["self", "value"] (spX C ["value"]) :=
  FnG.ok (fnG_of (g := false) F sc_BadRow___init__ (fun vs H Q E h => by
    obtain ⟨a, us, rfl, hl, _⟩ := h
    rw [List.length_cons, hl]
    rfl) fun cdv A outer s H vs Q E hr _ h => ⟨_, PSs.nox (pss_one (ps_ost (pv 0) (pv 1))), init1 T N0 h⟩)
abbrev s_BadText___init__ : Stmt := inClass (topS 6) 0
theorem sc_BadText___init__ : FnScope ["self", "line", "column"] ["self", "line", "column"] (defScope s_BadText___init__) := ⟨rfl, rfl, rfl, by decide +kernel, rfl, by decide +kernel, by decide +kernel⟩
theorem ini_BadText {C f : Addr} {fd : FuncData} (F : Fun K "__init__" "BadText.__init__" s_BadText___init__ f fd) (T : OexC K C) (N0 : PySem.W.findIn K (.ref C) "line" = some none) (N1 : PySem.W.findIn K (.ref C) "column" = some none) : FnOk P w K mg base CX0 1 f fd ["self", "line", "column"] (spX C ["line", "column"]) :=
  FnG.ok (fnG_of (g := false) F sc_BadText___init__ (fun vs H Q E h => by
    obtain ⟨a, us, rfl, hl, _⟩ := h
    rw [List.length_cons, hl]
    rfl) fun cdv A outer s H vs Q E hr _ h => ⟨_, PSs.nox (pss_cons (ps_ost (pv 0) (pv 1)) (pss_one (ps_ost (pv 0) (pv 2)))), init2 T N0 N1 h⟩)
abbrev s_BadName___init__ : Stmt := inClass (topS 7) 0
theorem sc_BadName___init__ : FnScope ["self", "name"] ["self", "name"] (defScope s_BadName___init__) := ⟨rfl, rfl, rfl, by decide +kernel, rfl, by decide +kernel, by decide +kernel⟩
theorem ini_BadName {C f : Addr} {fd : FuncData} (F : Fun K "__init__" "BadName.__init__" s_BadName___init__ f fd) (T : OexC K C) (N0 : PySem.W.findIn K (.ref C) "name" = some none) : FnOk P w K mg base CX0 1 f fd ["self", "name"] (spX C ["name"]) :=
  FnG.ok (fnG_of (g := false) F sc_BadName___init__ (fun vs H Q E h => by
    obtain ⟨a, us, rfl, hl, _⟩ := h
    rw [List.length_cons, hl]
    rfl) fun cdv A outer s H vs Q E hr _ h => ⟨_, PSs.nox (pss_one (ps_ost (pv 0) (pv 1))), init1 T N0 h⟩)
abbrev s_NoName___init__ : Stmt := inClass (topS 8) 0
theorem sc_NoName___init__ : FnScope ["self", "name"] ["self", "name"] (defScope s_NoName___init__) := ⟨rfl, rfl, rfl, by decide +kernel, rfl, by decide +kernel, by decide +kernel⟩
theorem ini_NoName {C f : Addr} {fd : FuncData} (F : Fun K "__init__" "NoName.__init__" s_NoName___init__ f fd) (T : OexC K C) (N0 : PySem.W.findIn K (.ref C) "name" = some none) : FnOk P w K mg base CX0 1 f fd ["self", "name"] (spX C ["name"]) :=
  FnG.ok (fnG_of (g := false) F sc_NoName___init__ (fun vs H Q E h => by
    obtain ⟨a, us, rfl, hl, _⟩ := h
    rw [List.length_cons, hl]
    rfl) fun cdv A outer s H vs Q E hr _ h => ⟨_, PSs.nox (pss_one (ps_ost (pv 0) (pv 1))), init1 T N0 h⟩)
abbrev s_TakenName___init__ : Stmt := inClass (topS 9) 0
theorem sc_TakenName___init__ : FnScope ["self", "name"] ["self", "name"] (defScope s_TakenName___init__) := ⟨rfl, rfl, rfl, by decide +kernel, rfl, by decide +kernel, by decide +kernel⟩
theorem ini_TakenName {C f : Addr} {fd : FuncData} (F : Fun K "__init__" "TakenName.__init__" s_TakenName___init__ f fd) (T : OexC K C) (N0 : PySem.W.findIn K (.ref C) "name" = some none) : FnOk P w K mg base CX0 1 f fd ["self", "name"] (spX C ["name"]) :=
  FnG.ok (fnG_of (g := false) F sc_TakenName___init__ (fun vs H Q E h => by
    obtain ⟨a, us, rfl, hl, _⟩ := h
    rw [List.length_cons, hl]
    rfl) fun cdv A outer s H vs Q E hr _ h => ⟨_, PSs.nox (pss_one (ps_ost (pv 0) (pv 1))), init1 T N0 h⟩)
abbrev s_NoMove___init__ : Stmt := inClass (topS 10) 0
theorem sc_NoMove___init__ : FnScope ["self", "value"] ["self", "value"] (defScope s_NoMove___init__) := ⟨rfl, rfl, rfl, by decide +kernel, rfl, by decide +kernel, by decide +kernel⟩
theorem ini_NoMove {C f : Addr} {fd : FuncData} (F : Fun K "__init__" "NoMove.__init__" s_NoMove___init__ f fd) (T : OexC K C) (N0 : PySem.W.findIn K (.ref C) "value" = some none) : FnOk P w K mg base CX0 1 f fd ["self", "value"] (spX C ["value"]) :=
  FnG.ok (fnG_of (g := false) F sc_NoMove___init__ (fun vs H Q E h => by
    obtain ⟨a, us, rfl, hl, _⟩ := h
    rw [List.length_cons, hl]
    rfl) fun cdv A outer s H vs Q E hr _ h => ⟨_, PSs.nox (pss_one (ps_ost (pv 0) (pv 1))), init1 T N0 h⟩)
abbrev s_Unlike___init__ : Stmt := inClass (topS 11) 0
theorem sc_Unlike___init__ : FnScope ["self", "what"] ["self", "what"] (defScope s_Unlike___init__) := ⟨rfl, rfl, rfl, by decide +kernel, rfl, by decide +kernel, by decide +kernel⟩
theorem ini_Unlike {C f : Addr} {fd : FuncData} (F : Fun K "__init__" "Unlike.__init__" s_Unlike___init__ f fd) (T : OexC K C) (N0 : PySem.W.findIn K (.ref C) "what" = some none) : FnOk P w K mg base CX0 1 f fd ["self", "what"] (spX C ["what"]) :=
  FnG.ok (fnG_of (g := false) F sc_Unlike___init__ (fun vs H Q E h => by
    obtain ⟨a, us, rfl, hl, _⟩ := h
    rw [List.length_cons, hl]
    rfl) fun cdv A outer s H vs Q E hr _ h => ⟨_, PSs.nox (pss_one (ps_ost (pv 0) (pv 1))), init1 T N0 h⟩)
abbrev s_TooMany___init__ : Stmt := inClass (topS 12) 0
theorem sc_TooMany___init__ : FnScope ["self", "what", "limit"] ["self", "what", "limit"] (defScope s_TooMany___init__) := ⟨rfl, rfl, rfl, by decide +kernel, rfl, by decide +kernel, by decide +kernel⟩
theorem ini_TooMany {C f : Addr} {fd : FuncData} (F : Fun K "__init__" "TooMany.__init__" s_TooMany___init__ f fd) (T : OexC K C) (N0 : PySem.W.findIn K (.ref C) "what" = some none) (N1 : PySem.W.findIn K (.ref C) "limit" = some none) : FnOk P w K mg base CX0 1 f fd ["self", "what", "limit"] (spX C ["what", "limit"]) :=
  FnG.ok (fnG_of (g := false) F sc_TooMany___init__ (fun vs H Q E h => by
    obtain ⟨a, us, rfl, hl, _⟩ := h
    rw [List.length_cons, hl]
    rfl) fun cdv A outer s H vs Q E hr _ h => ⟨_, PSs.nox (pss_cons (ps_ost (pv 0) (pv 1)) (pss_one (ps_ost (pv 0) (pv 2)))), init2 T N0 N1 h⟩)
abbrev s_NotKept___init__ : Stmt := inClass (topS 13) 0
theorem sc_NotKept___init__ : FnScope ["self", "promise", "witness"] ["self", "promise", "witness"] (defScope s_NotKept___init__) := ⟨rfl, rfl, rfl, by decide +kernel, rfl, by decide +kernel, by decide +kernel⟩
theorem ini_NotKept {C f : Addr} {fd : FuncData} (F : Fun K "__init__" "NotKept.__init__" s_NotKept___init__ f fd) (T : OexC K C) (N0 : PySem.W.findIn K (.ref C) "promise" = some none) (N1 : PySem.W.findIn K (.ref C) "witness" = some none) : FnOk P w K mg base CX0 1 f fd ["self", "promise", "witness"] (spX C ["promise", "witness"]) :=
  FnG.ok (fnG_of (g := false) F sc_NotKept___init__ (fun vs H Q E h => by
    obtain ⟨a, us, rfl, hl, _⟩ := h
    rw [List.length_cons, hl]
    rfl) fun cdv A outer s H vs Q E hr _ h => ⟨_, PSs.nox (pss_cons (ps_ost (pv 0) (pv 1)) (pss_one (ps_ost (pv 0) (pv 2)))), init2 T N0 N1 h⟩)
abbrev s_BadPromise___init__ : Stmt := inClass (topS 14) 0
theorem sc_BadPromise___init__ : FnScope ["self", "column"] ["self", "column"] (defScope s_BadPromise___init__) := ⟨rfl, rfl, rfl, by decide +kernel, rfl, by decide +kernel, by decide +kernel⟩
theorem ini_BadPromise {C f : Addr} {fd : FuncData} (F : Fun K "__init__" "BadPromise.__init__" s_BadPromise___init__ f fd) (T : OexC K C) (N0 : PySem.W.findIn K (.ref C) "column" = some none) : FnOk P w K mg base CX0 1 f fd ["self", "column"] (spX C ["column"]) :=
  FnG.ok (fnG_of (g := false) F sc_BadPromise___init__ (fun vs H Q E h => by
    obtain ⟨a, us, rfl, hl, _⟩ := h
    rw [List.length_cons, hl]
    rfl) fun cdv A outer s H vs Q E hr _ h => ⟨_, PSs.nox (pss_one (ps_ost (pv 0) (pv 1))), init1 T N0 h⟩)
def inis : List Str := ["BadNumber", "BadBook", "BadPlace", "BadRow", "BadText", "BadName", "NoName", "TakenName", "NoMove", "Unlike", "TooMany", "NotKept", "BadPromise"]
def cls16 : List Str := "LeadError" :: xs15
def defs9 : List Str := ["_law_pen", "_law_draw", "_law_pick", "_law_far", "_law_kinds", "_law_made", "_law_fields", "_law_value", "law"]
def blts : List Str := ["int", "len", "list", "range", "enumerate", "repr", "str", "abs", "isinstance", "ValueError"]
def flds : List (Str × Str) := [("BadNumber", "what"), ("BadNumber", "value"), ("BadBook", "what"), ("BadBook", "index"), ("BadPlace", "value"), ("BadRow", "value"), ("BadText", "line"), ("BadText", "column"), ("BadName", "name"), ("NoName", "name"), ("TakenName", "name"), ("NoMove", "value"), ("Unlike", "what"), ("TooMany", "what"), ("TooMany", "limit"), ("NotKept", "promise"), ("NotKept", "witness"), ("BadPromise", "column")]
def chk (K : PySem.W.Frag) : Bool :=
  (nsB K (cls16 ++ defs9) blts && fnB K defs9 && xs15.all (fun x => xcB K (adr K x)) && inis.all (fun x => oexB K (adr K x) && mtB K (adr K x) "__init__" (x ++ ".__init__"))) &&
  ((xs15.all fun x => xs15.all fun y => decide (PySem.W.kitOne K (.ref (adr K x)) (.ref (adr K y)) = some (decide (x = y)))) && (xs15.all fun x => decide (PySem.W.kitOne K (.ref (adr K x)) (.ref (adr K "LeadError")) = some true)) && (xs15.all fun x => decide (PySem.W.kitOne K (.ref (adr K x)) (.type "ValueError") = some true)) &&
  (flds.all fun p => decide (PySem.W.findIn K (.ref (adr K p.1)) p.2 = some none)) && (["NothingToUndo", "NothingToRedo"] : List Str).all fun x => PySem.W.excIn K (adr K x) [.type "ValueError", .type "Exception", .type "BaseException", .type "object"] "ValueError.__new__" && PySem.W.keepIn K (.ref (adr K x)))
theorem all_k00 {h : Heap} {fa : Addr} (X : K.In h) (G : h.Ns mainGlobals mg) (hfa : mg "law" = some (.ref fa)) (hc : chk K = true)
    (a__law_pen : FnAt K "_law_pen" "_law_pen" s_pen (adr K "_law_pen"))
    (a__law_draw : FnAt K "_law_draw" "_law_draw" s_draw (adr K "_law_draw"))
    (a__law_pick : FnAt K "_law_pick" "_law_pick" s__law_pick (adr K "_law_pick"))
    (a__law_far : FnAt K "_law_far" "_law_far" s__law_far (adr K "_law_far"))
    (a__law_kinds : FnAt K "_law_kinds" "_law_kinds" s__law_kinds (adr K "_law_kinds"))
    (a__law_made : FnAt K "_law_made" "_law_made" s__law_made (adr K "_law_made"))
    (a__law_fields : FnAt K "_law_fields" "_law_fields" s__law_fields (adr K "_law_fields"))
    (a__law_value : FnAt K "_law_value" "_law_value" s__law_value (adr K "_law_value"))
    (a_law : FnAt K "law" "law" s_law (adr K "law"))
    (c_BadNumber : ClsAt K (adr K "BadNumber"))
    (i_BadNumber : FnAt K "__init__" "BadNumber.__init__" s_BadNumber___init__ (iniA K (adr K "BadNumber") "__init__"))
    (c_BadBook : ClsAt K (adr K "BadBook"))
    (i_BadBook : FnAt K "__init__" "BadBook.__init__" s_BadBook___init__ (iniA K (adr K "BadBook") "__init__"))
    (c_BadPlace : ClsAt K (adr K "BadPlace"))
    (i_BadPlace : FnAt K "__init__" "BadPlace.__init__" s_BadPlace___init__ (iniA K (adr K "BadPlace") "__init__"))
    (c_BadRow : ClsAt K (adr K "BadRow"))
    (i_BadRow : FnAt K "__init__" "BadRow.__init__" s_BadRow___init__ (iniA K (adr K "BadRow") "__init__"))
    (c_BadText : ClsAt K (adr K "BadText"))
    (i_BadText : FnAt K "__init__" "BadText.__init__" s_BadText___init__ (iniA K (adr K "BadText") "__init__"))
    (c_BadName : ClsAt K (adr K "BadName"))
    (i_BadName : FnAt K "__init__" "BadName.__init__" s_BadName___init__ (iniA K (adr K "BadName") "__init__"))
    (c_NoName : ClsAt K (adr K "NoName"))
    (i_NoName : FnAt K "__init__" "NoName.__init__" s_NoName___init__ (iniA K (adr K "NoName") "__init__"))
    (c_TakenName : ClsAt K (adr K "TakenName"))
    (i_TakenName : FnAt K "__init__" "TakenName.__init__" s_TakenName___init__ (iniA K (adr K "TakenName") "__init__"))
    (c_NoMove : ClsAt K (adr K "NoMove"))
    (i_NoMove : FnAt K "__init__" "NoMove.__init__" s_NoMove___init__ (iniA K (adr K "NoMove") "__init__"))
    (c_Unlike : ClsAt K (adr K "Unlike"))
    (i_Unlike : FnAt K "__init__" "Unlike.__init__" s_Unlike___init__ (iniA K (adr K "Unlike") "__init__"))
    (c_TooMany : ClsAt K (adr K "TooMany"))
    (i_TooMany : FnAt K "__init__" "TooMany.__init__" s_TooMany___init__ (iniA K (adr K "TooMany") "__init__"))
    (c_NotKept : ClsAt K (adr K "NotKept"))
    (i_NotKept : FnAt K "__init__" "NotKept.__init__" s_NotKept___init__ (iniA K (adr K "NotKept") "__init__"))
    (c_BadPromise : ClsAt K (adr K "BadPromise"))
    (i_BadPromise : FnAt K "__init__" "BadPromise.__init__" s_BadPromise___init__ (iniA K (adr K "BadPromise") "__init__"))
    : ∃ fd : FuncData, (∀ (s : Shared) (u : Value), BindsTo s fd ⟨[u], []⟩ [("_law_script", u)]) ∧ ∀ base : Heap, K.In base → base.Ns mainGlobals mg → FnG true P w K mg base CX0 6 fa fd ["_law_script"] (spLaw K) := by
  unfold chk at hc
  simp only [Bool.and_eq_true] at hc
  obtain ⟨⟨⟨⟨hn, hf⟩, hx⟩, hi⟩, ⟨⟨⟨hA, hL⟩, hV⟩, hd⟩, he⟩ := hc
  obtain ⟨bound, free⟩ := nsK hn X G
  have fb : ∀ x ∈ defs9, _ := fun x hx => fnB_at hf hx
  have xc : ∀ x ∈ xs15, XC K (adr K x) := fun x h => xcK (List.all_eq_true.mp hx x h)
  have isA : ∀ x ∈ xs15, ∀ y ∈ xs15, PySem.W.kitOne K (.ref (adr K x)) (.ref (adr K y)) = some (decide (x = y)) := fun x h y h' => of_decide_eq_true (List.all_eq_true.mp (List.all_eq_true.mp hA x h) y h')
  have isL : ∀ x ∈ xs15, PySem.W.kitOne K (.ref (adr K x)) (.ref (adr K "LeadError")) = some true := fun x h => of_decide_eq_true (List.all_eq_true.mp hL x h)
  have isV : ∀ x ∈ xs15, PySem.W.kitOne K (.ref (adr K x)) (.type "ValueError") = some true := fun x h => of_decide_eq_true (List.all_eq_true.mp hV x h)
  have nf : ∀ p ∈ flds, PySem.W.findIn K (.ref (adr K p.1)) p.2 = some none := fun p h => of_decide_eq_true (List.all_eq_true.mp hd p h)
  have ini : ∀ x ∈ inis, oexB K (adr K x) = true ∧ mtB K (adr K x) "__init__" (x ++ ".__init__") = true := fun x h => by
    have := List.all_eq_true.mp hi x h
    rwa [Bool.and_eq_true] at this
  have ei : ∀ x ∈ (["NothingToUndo", "NothingToRedo"] : List Str), PySem.W.excIn K (adr K x) [.type "ValueError", .type "Exception", .type "BaseException", .type "object"] "ValueError.__new__" = true ∧ PySem.W.keepIn K (.ref (adr K x)) = true := fun x h => by
    have := List.all_eq_true.mp he x h
    rwa [Bool.and_eq_true] at this
  have F__law_pen := funK a__law_pen (fb "_law_pen" (by decide +kernel)).1 (fb "_law_pen" (by decide +kernel)).2
  have g__law_pen := bound "_law_pen" (by decide +kernel)
  have B__law_pen : Binds K _ ["_law_script"] [] := F__law_pen.binds (ps := ["_law_script"]) fun _ _ _ _ _ _ us hl => match us, hl with | [_], _ => rfl
  have F__law_draw := funK a__law_draw (fb "_law_draw" (by decide +kernel)).1 (fb "_law_draw" (by decide +kernel)).2
  have g__law_draw := bound "_law_draw" (by decide +kernel)
  have B__law_draw : Binds K _ ["_law_pen_here", "_law_many"] [] := F__law_draw.binds (ps := ["_law_pen_here", "_law_many"]) fun _ _ _ _ _ _ us hl => match us, hl with | [_, _], _ => rfl
  have F__law_pick := funK a__law_pick (fb "_law_pick" (by decide +kernel)).1 (fb "_law_pick" (by decide +kernel)).2
  have g__law_pick := bound "_law_pick" (by decide +kernel)
  have B__law_pick : Binds K _ ["_law_pen_here", "_law_some"] [] := F__law_pick.binds (ps := ["_law_pen_here", "_law_some"]) fun _ _ _ _ _ _ us hl => match us, hl with | [_, _], _ => rfl
  have F__law_far := funK a__law_far (fb "_law_far" (by decide +kernel)).1 (fb "_law_far" (by decide +kernel)).2
  have g__law_far := bound "_law_far" (by decide +kernel)
  have B__law_far : Binds K _ ["_law_pen_here"] [] := F__law_far.binds (ps := ["_law_pen_here"]) fun _ _ _ _ _ _ us hl => match us, hl with | [_], _ => rfl
  have F__law_kinds := funK a__law_kinds (fb "_law_kinds" (by decide +kernel)).1 (fb "_law_kinds" (by decide +kernel)).2
  have g__law_kinds := bound "_law_kinds" (by decide +kernel)
  have B__law_kinds : Binds K _ ["_law_e"] [] := F__law_kinds.binds (ps := ["_law_e"]) fun _ _ _ _ _ _ us hl => match us, hl with | [_], _ => rfl
  have F__law_made := funK a__law_made (fb "_law_made" (by decide +kernel)).1 (fb "_law_made" (by decide +kernel)).2
  have g__law_made := bound "_law_made" (by decide +kernel)
  have B__law_made : Binds K _ ["_law_a", "_law_b"] [] := F__law_made.binds (ps := ["_law_a", "_law_b"]) fun _ _ _ _ _ _ us hl => match us, hl with | [_, _], _ => rfl
  have F__law_fields := funK a__law_fields (fb "_law_fields" (by decide +kernel)).1 (fb "_law_fields" (by decide +kernel)).2
  have g__law_fields := bound "_law_fields" (by decide +kernel)
  have B__law_fields : Binds K _ ["_law_row"] [] := F__law_fields.binds (ps := ["_law_row"]) fun _ _ _ _ _ _ us hl => match us, hl with | [_], _ => rfl
  have F__law_value := funK a__law_value (fb "_law_value" (by decide +kernel)).1 (fb "_law_value" (by decide +kernel)).2
  have g__law_value := bound "_law_value" (by decide +kernel)
  have B__law_value : Binds K _ ["_law_pen_here"] [] := F__law_value.binds (ps := ["_law_pen_here"]) fun _ _ _ _ _ _ us hl => match us, hl with | [_], _ => rfl
  have F_law := funK a_law (fb "law" (by decide +kernel)).1 (fb "law" (by decide +kernel)).2
  have g_law := bound "law" (by decide +kernel)
  have B_law : Binds K _ ["_law_script"] [] := F_law.binds (ps := ["_law_script"]) fun _ _ _ _ _ _ us hl => match us, hl with | [_], _ => rfl
  have m_BadNumber := mtK (ini "BadNumber" (by decide +kernel)).2
  have o_BadNumber := oexK c_BadNumber (ini "BadNumber" (by decide +kernel)).1
  have Fi_BadNumber := funK i_BadNumber (by first | exact m_BadNumber.2.2.1 | (have := m_BadNumber.2.2.1; exact this)) m_BadNumber.2.2.2
  have Bi_BadNumber : Binds K _ ["self", "what", "value"] [] := Fi_BadNumber.binds (ps := ["self", "what", "value"]) fun _ _ _ _ _ _ us hl => match us, hl with | [_, _, _], _ => rfl
  have m_BadBook := mtK (ini "BadBook" (by decide +kernel)).2
  have o_BadBook := oexK c_BadBook (ini "BadBook" (by decide +kernel)).1
  have Fi_BadBook := funK i_BadBook (by first | exact m_BadBook.2.2.1 | (have := m_BadBook.2.2.1; exact this)) m_BadBook.2.2.2
  have Bi_BadBook : Binds K _ ["self", "what", "index"] [] := Fi_BadBook.binds (ps := ["self", "what", "index"]) fun _ _ _ _ _ _ us hl => match us, hl with | [_, _, _], _ => rfl
  have m_BadPlace := mtK (ini "BadPlace" (by decide +kernel)).2
  have o_BadPlace := oexK c_BadPlace (ini "BadPlace" (by decide +kernel)).1
  have Fi_BadPlace := funK i_BadPlace (by first | exact m_BadPlace.2.2.1 | (have := m_BadPlace.2.2.1; exact this)) m_BadPlace.2.2.2
  have Bi_BadPlace : Binds K _ ["self", "value"] [] := Fi_BadPlace.binds (ps := ["self", "value"]) fun _ _ _ _ _ _ us hl => match us, hl with | [_, _], _ => rfl
  have m_BadRow := mtK (ini "BadRow" (by decide +kernel)).2
  have o_BadRow := oexK c_BadRow (ini "BadRow" (by decide +kernel)).1
  have Fi_BadRow := funK i_BadRow (by first | exact m_BadRow.2.2.1 | (have := m_BadRow.2.2.1; exact this)) m_BadRow.2.2.2
  have Bi_BadRow : Binds K _ ["self", "value"] [] := Fi_BadRow.binds (ps := ["self", "value"]) fun _ _ _ _ _ _ us hl => match us, hl with | [_, _], _ => rfl
  have m_BadText := mtK (ini "BadText" (by decide +kernel)).2
  have o_BadText := oexK c_BadText (ini "BadText" (by decide +kernel)).1
  have Fi_BadText := funK i_BadText (by first | exact m_BadText.2.2.1 | (have := m_BadText.2.2.1; exact this)) m_BadText.2.2.2
  have Bi_BadText : Binds K _ ["self", "line", "column"] [] := Fi_BadText.binds (ps := ["self", "line", "column"]) fun _ _ _ _ _ _ us hl => match us, hl with | [_, _, _], _ => rfl
  have m_BadName := mtK (ini "BadName" (by decide +kernel)).2
  have o_BadName := oexK c_BadName (ini "BadName" (by decide +kernel)).1
  have Fi_BadName := funK i_BadName (by first | exact m_BadName.2.2.1 | (have := m_BadName.2.2.1; exact this)) m_BadName.2.2.2
  have Bi_BadName : Binds K _ ["self", "name"] [] := Fi_BadName.binds (ps := ["self", "name"]) fun _ _ _ _ _ _ us hl => match us, hl with | [_, _], _ => rfl
  have m_NoName := mtK (ini "NoName" (by decide +kernel)).2
  have o_NoName := oexK c_NoName (ini "NoName" (by decide +kernel)).1
  have Fi_NoName := funK i_NoName (by first | exact m_NoName.2.2.1 | (have := m_NoName.2.2.1; exact this)) m_NoName.2.2.2
  have Bi_NoName : Binds K _ ["self", "name"] [] := Fi_NoName.binds (ps := ["self", "name"]) fun _ _ _ _ _ _ us hl => match us, hl with | [_, _], _ => rfl
  have m_TakenName := mtK (ini "TakenName" (by decide +kernel)).2
  have o_TakenName := oexK c_TakenName (ini "TakenName" (by decide +kernel)).1
  have Fi_TakenName := funK i_TakenName (by first | exact m_TakenName.2.2.1 | (have := m_TakenName.2.2.1; exact this)) m_TakenName.2.2.2
  have Bi_TakenName : Binds K _ ["self", "name"] [] := Fi_TakenName.binds (ps := ["self", "name"]) fun _ _ _ _ _ _ us hl => match us, hl with | [_, _], _ => rfl
  have m_NoMove := mtK (ini "NoMove" (by decide +kernel)).2
  have o_NoMove := oexK c_NoMove (ini "NoMove" (by decide +kernel)).1
  have Fi_NoMove := funK i_NoMove (by first | exact m_NoMove.2.2.1 | (have := m_NoMove.2.2.1; exact this)) m_NoMove.2.2.2
  have Bi_NoMove : Binds K _ ["self", "value"] [] := Fi_NoMove.binds (ps := ["self", "value"]) fun _ _ _ _ _ _ us hl => match us, hl with | [_, _], _ => rfl
  have m_Unlike := mtK (ini "Unlike" (by decide +kernel)).2
  have o_Unlike := oexK c_Unlike (ini "Unlike" (by decide +kernel)).1
  have Fi_Unlike := funK i_Unlike (by first | exact m_Unlike.2.2.1 | (have := m_Unlike.2.2.1; exact this)) m_Unlike.2.2.2
  have Bi_Unlike : Binds K _ ["self", "what"] [] := Fi_Unlike.binds (ps := ["self", "what"]) fun _ _ _ _ _ _ us hl => match us, hl with | [_, _], _ => rfl
  have m_TooMany := mtK (ini "TooMany" (by decide +kernel)).2
  have o_TooMany := oexK c_TooMany (ini "TooMany" (by decide +kernel)).1
  have Fi_TooMany := funK i_TooMany (by first | exact m_TooMany.2.2.1 | (have := m_TooMany.2.2.1; exact this)) m_TooMany.2.2.2
  have Bi_TooMany : Binds K _ ["self", "what", "limit"] [] := Fi_TooMany.binds (ps := ["self", "what", "limit"]) fun _ _ _ _ _ _ us hl => match us, hl with | [_, _, _], _ => rfl
  have m_NotKept := mtK (ini "NotKept" (by decide +kernel)).2
  have o_NotKept := oexK c_NotKept (ini "NotKept" (by decide +kernel)).1
  have Fi_NotKept := funK i_NotKept (by first | exact m_NotKept.2.2.1 | (have := m_NotKept.2.2.1; exact this)) m_NotKept.2.2.2
  have Bi_NotKept : Binds K _ ["self", "promise", "witness"] [] := Fi_NotKept.binds (ps := ["self", "promise", "witness"]) fun _ _ _ _ _ _ us hl => match us, hl with | [_, _, _], _ => rfl
  have m_BadPromise := mtK (ini "BadPromise" (by decide +kernel)).2
  have o_BadPromise := oexK c_BadPromise (ini "BadPromise" (by decide +kernel)).1
  have Fi_BadPromise := funK i_BadPromise (by first | exact m_BadPromise.2.2.1 | (have := m_BadPromise.2.2.1; exact this)) m_BadPromise.2.2.2
  have Bi_BadPromise : Binds K _ ["self", "column"] [] := Fi_BadPromise.binds (ps := ["self", "column"]) fun _ _ _ _ _ _ us hl => match us, hl with | [_, _], _ => rfl
  have e := hfa.symm.trans g_law
  cases e
  refine ⟨fdK K "law" "law" s_law (adr K "law"), fun s u => .of_eq rfl, fun base _ _ => ?_⟩
  have TP : TPen mg := ⟨free "int" (by decide +kernel), free "len" (by decide +kernel), free "list" (by decide +kernel)⟩
  have dDraw : DFn false P w K mg base 1 "_law_draw" fwDraw := dfn_mk (ok_draw F__law_draw TP) g__law_draw F__law_draw.kp B__law_draw
  have TPk : TPick P w K mg base := ⟨dDraw, free "len" (by decide +kernel), free "range" (by decide +kernel)⟩
  have dPick : DFn false P w K mg base 2 "_law_pick" fwPick := dfn_mk (ok_pick F__law_pick TPk) g__law_pick F__law_pick.kp B__law_pick
  have TFr : TFar P w K mg base := { TPk with f__law_pick := dPick }
  have dFar : DFn false P w K mg base 3 "_law_far" fwFar := dfn_mk (ok_far F__law_far TFr) g__law_far F__law_far.kp B__law_far
  have TVl : TVal P w K mg base := { TFr with f__law_far := dFar, b_str := free "str" (by decide +kernel), b_abs := free "abs" (by decide +kernel) }
  have dVal : DFn false P w K mg base 4 "_law_value" fwVal := dfn_mk (ok_value F__law_value TVl) g__law_value F__law_value.kp B__law_value
  have TXs : TX P w K mg base (adr K) := { b_isinstance := free "isinstance" (by decide +kernel), b_ValueError := free "ValueError" (by decide +kernel), mg_LeadError := bound "LeadError" (by decide +kernel), xc := xc, isA := isA, isL := isL, isV := isV, mg_BadNumber := bound "BadNumber" (by decide +kernel), mk_BadNumber := ⟨o_BadNumber, ⟨_, _, _, m_BadNumber.1, m_BadNumber.2.1, ini_BadNumber Fi_BadNumber o_BadNumber (nf ("BadNumber", "what") (by decide +kernel)) (nf ("BadNumber", "value") (by decide +kernel)), Bi_BadNumber⟩, bound "BadNumber" (by decide +kernel), by decide⟩, nf_BadNumber_what := nf ("BadNumber", "what") (by decide +kernel), nf_BadNumber_value := nf ("BadNumber", "value") (by decide +kernel), mg_BadBook := bound "BadBook" (by decide +kernel), mk_BadBook := ⟨o_BadBook, ⟨_, _, _, m_BadBook.1, m_BadBook.2.1, ini_BadBook Fi_BadBook o_BadBook (nf ("BadBook", "what") (by decide +kernel)) (nf ("BadBook", "index") (by decide +kernel)), Bi_BadBook⟩, bound "BadBook" (by decide +kernel), by decide⟩, nf_BadBook_what := nf ("BadBook", "what") (by decide +kernel), nf_BadBook_index := nf ("BadBook", "index") (by decide +kernel), mg_BadPlace := bound "BadPlace" (by decide +kernel), mk_BadPlace := ⟨o_BadPlace, ⟨_, _, _, m_BadPlace.1, m_BadPlace.2.1, ini_BadPlace Fi_BadPlace o_BadPlace (nf ("BadPlace", "value") (by decide +kernel)), Bi_BadPlace⟩, bound "BadPlace" (by decide +kernel), by decide⟩, nf_BadPlace_value := nf ("BadPlace", "value") (by decide +kernel), mg_BadRow := bound "BadRow" (by decide +kernel), mk_BadRow := ⟨o_BadRow, ⟨_, _, _, m_BadRow.1, m_BadRow.2.1, ini_BadRow Fi_BadRow o_BadRow (nf ("BadRow", "value") (by decide +kernel)), Bi_BadRow⟩, bound "BadRow" (by decide +kernel), by decide⟩, nf_BadRow_value := nf ("BadRow", "value") (by decide +kernel), mg_BadText := bound "BadText" (by decide +kernel), mk_BadText := ⟨o_BadText, ⟨_, _, _, m_BadText.1, m_BadText.2.1, ini_BadText Fi_BadText o_BadText (nf ("BadText", "line") (by decide +kernel)) (nf ("BadText", "column") (by decide +kernel)), Bi_BadText⟩, bound "BadText" (by decide +kernel), by decide⟩, nf_BadText_line := nf ("BadText", "line") (by decide +kernel), nf_BadText_column := nf ("BadText", "column") (by decide +kernel), mg_BadName := bound "BadName" (by decide +kernel), mk_BadName := ⟨o_BadName, ⟨_, _, _, m_BadName.1, m_BadName.2.1, ini_BadName Fi_BadName o_BadName (nf ("BadName", "name") (by decide +kernel)), Bi_BadName⟩, bound "BadName" (by decide +kernel), by decide⟩, nf_BadName_name := nf ("BadName", "name") (by decide +kernel), mg_NoName := bound "NoName" (by decide +kernel), mk_NoName := ⟨o_NoName, ⟨_, _, _, m_NoName.1, m_NoName.2.1, ini_NoName Fi_NoName o_NoName (nf ("NoName", "name") (by decide +kernel)), Bi_NoName⟩, bound "NoName" (by decide +kernel), by decide⟩, nf_NoName_name := nf ("NoName", "name") (by decide +kernel), mg_TakenName := bound "TakenName" (by decide +kernel), mk_TakenName := ⟨o_TakenName, ⟨_, _, _, m_TakenName.1, m_TakenName.2.1, ini_TakenName Fi_TakenName o_TakenName (nf ("TakenName", "name") (by decide +kernel)), Bi_TakenName⟩, bound "TakenName" (by decide +kernel), by decide⟩, nf_TakenName_name := nf ("TakenName", "name") (by decide +kernel), mg_NoMove := bound "NoMove" (by decide +kernel), mk_NoMove := ⟨o_NoMove, ⟨_, _, _, m_NoMove.1, m_NoMove.2.1, ini_NoMove Fi_NoMove o_NoMove (nf ("NoMove", "value") (by decide +kernel)), Bi_NoMove⟩, bound "NoMove" (by decide +kernel), by decide⟩, nf_NoMove_value := nf ("NoMove", "value") (by decide +kernel), mg_Unlike := bound "Unlike" (by decide +kernel), mk_Unlike := ⟨o_Unlike, ⟨_, _, _, m_Unlike.1, m_Unlike.2.1, ini_Unlike Fi_Unlike o_Unlike (nf ("Unlike", "what") (by decide +kernel)), Bi_Unlike⟩, bound "Unlike" (by decide +kernel), by decide⟩, nf_Unlike_what := nf ("Unlike", "what") (by decide +kernel), mg_TooMany := bound "TooMany" (by decide +kernel), mk_TooMany := ⟨o_TooMany, ⟨_, _, _, m_TooMany.1, m_TooMany.2.1, ini_TooMany Fi_TooMany o_TooMany (nf ("TooMany", "what") (by decide +kernel)) (nf ("TooMany", "limit") (by decide +kernel)), Bi_TooMany⟩, bound "TooMany" (by decide +kernel), by decide⟩, nf_TooMany_what := nf ("TooMany", "what") (by decide +kernel), nf_TooMany_limit := nf ("TooMany", "limit") (by decide +kernel), mg_NotKept := bound "NotKept" (by decide +kernel), mk_NotKept := ⟨o_NotKept, ⟨_, _, _, m_NotKept.1, m_NotKept.2.1, ini_NotKept Fi_NotKept o_NotKept (nf ("NotKept", "promise") (by decide +kernel)) (nf ("NotKept", "witness") (by decide +kernel)), Bi_NotKept⟩, bound "NotKept" (by decide +kernel), by decide⟩, nf_NotKept_promise := nf ("NotKept", "promise") (by decide +kernel), nf_NotKept_witness := nf ("NotKept", "witness") (by decide +kernel), mg_BadPromise := bound "BadPromise" (by decide +kernel), mk_BadPromise := ⟨o_BadPromise, ⟨_, _, _, m_BadPromise.1, m_BadPromise.2.1, ini_BadPromise Fi_BadPromise o_BadPromise (nf ("BadPromise", "column") (by decide +kernel)), Bi_BadPromise⟩, bound "BadPromise" (by decide +kernel), by decide⟩, nf_BadPromise_column := nf ("BadPromise", "column") (by decide +kernel), mg_NothingToUndo := bound "NothingToUndo" (by decide +kernel), ei_NothingToUndo := (ei "NothingToUndo" (by decide +kernel)).1, kp_NothingToUndo := (ei "NothingToUndo" (by decide +kernel)).2, mg_NothingToRedo := bound "NothingToRedo" (by decide +kernel), ei_NothingToRedo := (ei "NothingToRedo" (by decide +kernel)).1, kp_NothingToRedo := (ei "NothingToRedo" (by decide +kernel)).2 }
  have TL : TLaw P w K mg base (adr K) := { TXs with
    f__law_value := dVal,
    f__law_made := dfn_mk (ok_made F__law_made TXs) g__law_made F__law_made.kp B__law_made,
    f__law_kinds := dfn_mk (ok_kinds F__law_kinds TXs) g__law_kinds F__law_kinds.kp B__law_kinds,
    f__law_fields := dfn_mk (ok_fields F__law_fields TXs) g__law_fields F__law_fields.kp B__law_fields,
    b_range := free "range" (by decide +kernel), b_len := free "len" (by decide +kernel), b_enumerate := free "enumerate" (by decide +kernel), b_repr := free "repr" (by decide +kernel) }
  exact ok_law F_law TL (ok_pen F__law_pen TP) g__law_pen F__law_pen.kp B__law_pen
end
end DW

open PySem PySem.W PyProof.Rows
set_option maxRecDepth 100000 in
set_option maxHeartbeats 0 in
theorem PySem.Challenge.cw_anylead_k00_errors_made_by_hand_holds : PySem.Challenge.rw_anylead_k00_errors_made_by_hand.Holds := by
  w_on; o_law; k_head; (case hw => w_witness2)
  k_fill
  refine DW.walk_law (n := 63) (k := 6) (x := "_law_script") (sp := fun w => DW.spLaw _) rfl (by decide) rfl ⟨rfl, by decide, by decide⟩ (fun w h Y => PySem.W.kIn_of Y) ?F (fun w H a ns hl hS => ⟨a, ns, rfl, hS, hl, fun _ => rfl⟩)
  case F =>
    intro w mg fa h KX G hmg
    exact DW.all_k00 KX G hmg (by kernel_rfl) (by kernel_rfl) (by kernel_rfl) (by kernel_rfl) (by kernel_rfl) (by kernel_rfl) (by kernel_rfl) (by kernel_rfl) (by kernel_rfl) (by kernel_rfl) (by kernel_rfl) (by kernel_rfl) (by kernel_rfl) (by kernel_rfl) (by kernel_rfl) (by kernel_rfl) (by kernel_rfl) (by kernel_rfl) (by kernel_rfl) (by kernel_rfl) (by kernel_rfl) (by kernel_rfl) (by kernel_rfl) (by kernel_rfl) (by kernel_rfl) (by kernel_rfl) (by kernel_rfl) (by kernel_rfl) (by kernel_rfl) (by kernel_rfl) (by kernel_rfl) (by kernel_rfl) (by kernel_rfl) (by kernel_rfl) (by kernel_rfl) (by kernel_rfl)

