import PyProof.Rows.All
import Wide.All
import OpenK.AllK
import Wide.FinOn
import HandS.ForMost
import HandS.Wide
import HandS.IsInst
import HandS.TupAny
import HandS.TupMul
import HandS.Style
import HandS.StrMore
import HandS.Small
import HandS.More
import HandS.Text
import PyProof.ListMulRoad
import PyProof.FactsAll.tuple_2
import HandS.Defaults
import PySem.Challenge.RW_classmarks_k20_points_that_are_late
set_option Elab.async false
set_option linter.all false
set_option maxRecDepth 100000
set_option maxHeartbeats 4000000
/-! ## 1. Promises of defs that run where no guard is up -/
namespace Cm
open PySem PySem.Spec PyProof.Rows L2
/-- a promise, asked only where no repr is under way -/
structure Fg (P : Program) (w : World) (K : PySem.W.Frag) (mg : Str → Option Value)
    (base : Heap) (CX : CXT) (k : Nat) (f : Addr) (fd : FuncData) (ps : List Str) (sp : Sp) : Prop where
  len : ∀ vs H Q E, sp vs H Q E → vs.length = ps.length
  go : ∀ (A : Around) (outer : List Env) (s : Shared) (H : Hp) (args : Args)
    (us : List Value) (vs : List V) (Q : VK) (E : XK),
    Room k A → A.guards = some [] → Env0 P w K mg base A outer s H →
    BindsTo s fd args (ps.zip us) → Vals vs us → sp vs H Q E →
    codeAny (model P w) A (.call (.ref f) args) (CR CX outer P w H s Q E) s
section
variable {P : Program} {w : World} {K : PySem.W.Frag} {mg : Str → Option Value}
  {base : Heap} {CX : CXT} {k : Nat} {f : Addr} {fd : FuncData} {ps : List Str} {sp : Sp}
theorem Fg.of (F : FnOk P w K mg base CX k f fd ps sp) : Fg P w K mg base CX k f fd ps sp :=
  ⟨F.len, fun A outer s H args us vs Q E hr _ => F.run A outer s H args us vs Q E hr⟩
theorem Fg.mono {j : Nat} (F : Fg P w K mg base CX j f fd ps sp) (h : j ≤ k) :
    Fg P w K mg base CX k f fd ps sp :=
  ⟨F.len, fun A outer s H args us vs Q E hr => F.go A outer s H args us vs Q E (hr.mono h)⟩
theorem deeper_guards (A : Around) (env : Env) (h : A.guards = some []) :
    (A.deeper env).guards = some [] := h
end
section
variable {X : Cx} {CX : CXT} {k : Nat} {f C : Addr} {fd : FuncData} {ps : List Str}
  {sp : Sp} {dvs : List V} {ds : List Value} {E : XK} {x m : Str} {p pos apos : Pos}
  {e o : Expr} {es : List Expr} {ta : TE} {t : TA}
theorem go_fn {pins : List (Addr × Obj)} {σ : L2.St} {H : Hp} {s : Shared} {Q : VK}
    {us : List Value} {vs : List V}
    (F : Fg X.prog X.w X.K X.mg X.base CX k f fd ps sp) (hr : Room k X.A)
    (hg : X.A.guards = some []) (hb : Binds X.K fd ps ds) (hd : Vals dvs ds)
    (hx : Passes CX X E) (I : Inv X pins σ H s) (r : Vals vs us)
    (h : sp (vs ++ dvs) H Q E) :
    wpAny (model X.prog X.w) X.A (call (.ref f) us) (EP X pins σ Q) X.xe s := by
  have both := r.append hd
  have hlen : (us ++ ds).length = ps.length := both.length.symm.trans (F.len _ _ _ _ h)
  have body := F.go X.A X.stack s H ⟨us, []⟩ (us ++ ds) (vs ++ dvs) Q E hr hg I.env0
    (hb s us I.kIn hlen) both h
  refine wpAny_call (codeAny_mono body ?_)
  intro r s' hq
  match r, hq with
  | .error e, hq => exact hx pins σ H s e s' I hq
  | .ok (.ret u), hq => exact I.after hq
theorem pg_call (F : Fg X.prog X.w X.K X.mg X.base CX k f fd ps sp) (hr : Room k X.A)
    (hgd : X.A.guards = some []) (hg : Gl X x) (hm : X.mg x = some (.ref f))
    (hk : PySem.W.keepIn X.K (.ref f) = true) (hb : Binds X.K fd ps ds)
    (hd : Vals dvs ds) (hx : Passes CX X E) (ha : PA X (e :: es) t)
    (hdb : (x == ("__debug__" : Str)) = false := by decide)
    (he : starEach (e :: es) X.env = (false, eval e X.env) :: starEach es X.env := by rfl)
    (hpl : (backTo pos (starEach es X.env)).any (·.1) = false := by rfl) :
    PE X (.Call (.Name x p) (e :: es) [] pos) (tCall sp dvs E t) := by
  constructor
  intro pins s σ H Q I h
  have args := ha.run pos pins s σ H _ I h
  refine wpAny_Call_Name_kw (ld_glob I hg hm ?_ hdb)
  refine PySem.W.callWith_K (h₀ := X.base) I.ok.mod.kin hk (thn args ?_) he hpl
  rintro us s1 ⟨vs, H1, I1, r, q⟩
  exact ⟨I1.kIn, go_fn F hr hgd hb hd hx I1 r q⟩
end
section
variable {P : Program} {w : World} {K : PySem.W.Frag} {mg : Str → Option Value} {base : Heap}
/-- a def of the text keeps its promise, by its body -/
theorem fg_of {CX : CXT} {x qual : Str} {st : Stmt} {f : Addr} {fd : FuncData}
    {N ps : List Str} {k : Nat} {sp : Sp} (F : Fun K x qual st f fd)
    (S : FnScope N ps (defScope st)) (len : ∀ vs H Q E, sp vs H Q E → vs.length = ps.length)
    (hbody : ∀ (cdv : Value) (A : Around) (outer : List Env) (s : Shared) (H : Hp)
      (vs : List V) (Q : VK) (E : XK),
      Room k (A.deeper (envOfC qual (defScope st) s.heap.objs.size f cdv)) →
      A.guards = some [] → sp vs H Q E →
      ∃ t, PSs (cxOf CX P w K mg base N qual (defScope st) f cdv A outer s H E) (defBody st) t ∧
        t { nx := fun _ H' => Q .non H', rt := Q } (start N vs) H) :
    Fg P w K mg base CX (k + 1) f fd ps sp := by
  obtain ⟨oc, od, kV, doc, pm, an, cdv, ct, osl, rfl, lk, hcd⟩ := F.ex
  refine ⟨len, ?_⟩
  intro A outer s H args us vs Q E hr hgd env hb r hsp
  have nvs : vs.length = ps.length := len _ _ _ _ hsp
  have old : ∀ b o, base.get? b = some o → s.heap.get? b = some o :=
    fun b o e => (env.bs b o e).1
  have KX : K.In s.heap := env.mod.kin.keeps old
  have lim : s.heap.NoLimit := env.mod.nolimit.keeps old
  have kinds : ∀ y ∈ ps.zip us, (defScope st).names.lookup y.1 = some .local ∨
      ((defScope st).names.lookup y.1 = some .cell ∧
        ((cellsFrom (s.heap.objs.size + 1) (defScope st).names []).lookup y.1).isSome = true) := by
    rintro ⟨n, v⟩ hy
    cases S.par n (List.of_mem_zip hy).1 with
    | inl q => exact .inl q
    | inr q => exact .inr ⟨q, PySem.W.cellsFrom_some _ _ _ (.inl q)⟩
  refine codeAny_call_function hr.depth (KX _ _ lk) rfl S.co S.gen rfl
    (PySem.W.codeRec_of KX hcd) (hb _ _ _ _ ?_)
  refine wpAny_newFunctionEnv_cells S.kind kinds ?_
  intro env' he s1 x
  subst he
  refine ⟨lim.keeps x.toInCall.keep, codeAny_func ?_⟩
  obtain ⟨t, ht, hq⟩ := hbody cdv A outer s H vs Q E (hr.deeper _) hgd hsp
  have I := inv_start (CX := CX) (P := P) (mg := mg) (E := E) S hr.hd env nvs r x
  have leave : ∀ {σ' : L2.St} {H' : Hp} {v : V} {u : Value} {s' : Shared},
      Inv (cxOf CX P w K mg base N qual (defScope st) f cdv A outer s H E) [] σ' H' s' →
      RelV v u → Q v H' → CE outer P w H s Q u s' := by
    intro σ' H' v u s' J rv q
    exact ⟨v, H', J.os, J.bare, J.base, J.hok, rv, q⟩
  refine wpAny_mono (ht.run [] s1 (start N vs) H _ I hq) ?_ (fun e s' hs => hs)
  intro fl s' hs
  match fl, hs with
  | .ret u, hs =>
    obtain ⟨v, σ', H', J, rv, q⟩ := hs
    exact leave J rv q
  | .next, hs =>
    obtain ⟨σ', H', J, q⟩ := hs
    exact leave (v := V.non) (u := Value.none) J rfl q
  | .brk, hs =>
    obtain ⟨_, _, _, q⟩ := hs
    exact False.elim q
  | .cont, hs =>
    obtain ⟨_, _, _, q⟩ := hs
    exact False.elim q
/-- the same for a def that lets no exception out -/
theorem fg_of0 {x qual : Str} {st : Stmt} {f : Addr} {fd : FuncData}
    {N ps : List Str} {k : Nat} {sp : Sp} (F : Fun K x qual st f fd)
    (S : FnScope N ps (defScope st)) (len : ∀ vs H Q E, sp vs H Q E → vs.length = ps.length)
    (hbody : ∀ (cdv : Value) (A : Around) (outer : List Env) (s : Shared) (H : Hp)
      (vs : List V) (Q : VK) (E : XK),
      Room k (A.deeper (envOfC qual (defScope st) s.heap.objs.size f cdv)) →
      A.guards = some [] → sp vs H Q E →
      ∃ t, PSs (cxOf CX0 P w K mg base N qual (defScope st) f cdv A outer s H E).nox (defBody st) t ∧
        t { nx := fun _ H' => Q .non H', rt := Q } (start N vs) H) :
    Fg P w K mg base CX0 (k + 1) f fd ps sp := by
  refine fg_of F S len ?_
  intro cdv A outer s H vs Q E hr hg hsp
  obtain ⟨t, h, q⟩ := hbody cdv A outer s H vs Q E hr hg hsp
  exact ⟨t, h.nox, q⟩
end

/-! ### the law's own call -/
theorem law_go {P : Program} {w : World} {K : PySem.W.Frag} {mg mb : Str → Option Value}
    {CX : CXT} {k : Nat} {fa a : Addr} {fd : FuncData} {x : Str} {sp : Sp} {s₁ : Shared}
    {vs : List Value} {ns : List Int}
    (KX : K.In s₁.heap) (hns : s₁.heap.Ns mainGlobals mg) (hb : s₁.heap.Ns builtinsNs mb)
    (hbb : ∀ x : Str, x ≠ "__name__" → mb x = bootBuiltins x)
    (hlim : s₁.heap.NoLimit) (hg : s₁.gens = #[])
    (ha : s₁.heap.get? a = some { cls := .type "list", data := .seq vs.toArray })
    (hi : IntsAre vs ns) (hl : ns.length ≤ sizeLine) (hr : Room k callerA)
    (F : ∀ base : Heap, K.In base → base.Ns mainGlobals mg → Fg P w K mg base CX k fa fd [x] sp)
    (hbind : ∀ (s : Shared) (u : Value), BindsTo s fd ⟨[u], []⟩ [(x, u)])
    (hsp : ∀ H : Hp, Only H → SqL K H a (ns.map V.int) →
      sp [.ref a] H (fun v _ => v = .bl true) fun _ _ _ => False)
    (hCX : ∀ H e s', CX [] H s₁ (fun _ _ _ => False) e s' → False) :
    codeAny (model P w) callerA (.call (.ref fa) ⟨[.ref a], []⟩)
      (fun r s' => r = .ok (.ret (.bool true)) ∧ OldK s₁.heap s'.heap ∧ s'.os = s₁.os ∧ AllBare s'.gens) s₁ := by
  have nums : Vals (ns.map V.int) vs := vals_ints hi
  have many := hi.length
  -- from any abstract heap that tracks the script at most
  have core : ∀ H : Hp, Only H → SqL K H a (ns.map V.int) → HOk P w H s₁.heap →
      (∀ b, H b ≠ none → b = a) → (H a ≠ none → K.lookup a = none) →
      codeAny (model P w) callerA (.call (.ref fa) ⟨[.ref a], []⟩)
        (fun r s' => r = .ok (.ret (.bool true)) ∧ OldK s₁.heap s'.heap ∧ s'.os = s₁.os ∧ AllBare s'.gens) s₁ := by
    intro H hO hS hok hA hK
    have plain : ∀ {b : Addr} {o : Obj} {es : Array DictEntry} {ep : Nat},
        s₁.heap.get? b = some o → o.data = .dict es ep → H b = none := by
      intro b o es ep e d
      cases q : H b with
      | none => rfl
      | some u =>
        have same : b = a := hA b (by rw [q]; simp)
        rw [same, ha] at e
        cases e
        exact absurd d (by intro z; cases z)
    have nsB : ∀ {b : Addr} {m : Str → Option Value}, s₁.heap.Ns b m → (hidT s₁.heap H).Ns b m := by
      rintro b m ⟨o, es, ep, e, d, r⟩
      exact ⟨o, es, ep, hidT_get e (plain e d), d, r⟩
    have kb : K.In (hidT s₁.heap H) := by
      intro b o e
      refine hidT_get (KX b o e) ?_
      cases q : H b with
      | none => rfl
      | some u =>
        have same : b = a := hA b (by rw [q]; simp)
        subst same
        have none_ := hK (by rw [q]; simp)
        rw [none_] at e
        cases e
    have limit : (hidT s₁.heap H).NoLimit := by
      obtain ⟨mc, h1, h2⟩ := hlim
      exact ⟨mc, nsB h1, h2⟩
    have module_ : Mod K mg (hidT s₁.heap H) := ⟨kb, nsB hns, ⟨mb, nsB hb, hbb⟩, limit⟩
    have e0 : Env0 P w K mg (hidT s₁.heap H) callerA [] s₁ H :=
      ⟨rfl, module_, fun b o e => of_hidT e, Nat.le_of_eq (hidT_size _ _), trivial,
        fun b hb => absurd (show b ∈ ([] : List Addr) from hb) List.not_mem_nil, hok, .of_eq hg⟩
    have run := (F _ kb (nsB hns)).go callerA [] s₁ H ⟨[.ref a], []⟩ [.ref a] [.ref a] _ _ hr rfl e0
      (hbind s₁ (.ref a)) (.cons rfl .nil) (hsp H hO hS)
    refine codeAny_mono run ?_
    intro r s' h
    match r, h with
    | .error e, h => exact (hCX H e s' h).elim
    | .ok (.ret u), h =>
      obtain ⟨v, H', os, bare, un, hok', r', q⟩ := h
      have isT : v = .bl true := q
      subst isT
      obtain rfl : u = Value.bool true := r'
      refine ⟨rfl, OldK.of_keep ?_, os, bare⟩
      intro b o e
      cases q : H b with
      | none => exact un.keep b o e q (fun z => absurd (show b ∈ ([] : List Addr) from z) List.not_mem_nil) List.not_mem_nil
      | some u =>
        rcases hO b with z | ⟨ob, xs, z⟩
        · rw [q] at z
          cases z
        · have later := un.frzs b ob _ z
          obtain ⟨e1, _⟩ := hok b _ z
          obtain ⟨e2, _⟩ := hok' b _ later
          rw [e] at e1
          cases e1
          exact e2
  cases hk : K.lookup a with
  | some o =>
    have e := KX a o hk
    rw [ha] at e
    cases e
    have bare_ : HOk P w (fun _ => none) s₁.heap := fun b u z => by cases z
    exact core (fun _ => none) (fun _ => .inl rfl)
      (.inr ⟨_, vs.toArray, _, hk, rfl, rfl, rfl, by rw [List.size_toArray, many]; exact hl, by simpa using nums⟩)
      bare_ (fun b z => absurd rfl z) (fun z => absurd rfl z)
  | none =>
    let S : Obj := { cls := .type "list", data := .seq vs.toArray }
    let H1 : Hp := fun b => if b = a then some (.frz S (.lst (ns.map V.int))) else none
    have at_a : H1 a = some (.frz S (.lst (ns.map V.int))) := if_pos rfl
    have off : ∀ b, b ≠ a → H1 b = none := fun b hb => if_neg hb
    refine core H1 ?_ (.inl (.inr ⟨S, at_a⟩)) ?_ ?_ (fun _ => hk)
    · intro b
      by_cases hb : b = a
      · exact .inr ⟨_, _, if_pos hb⟩
      · exact .inl (off b hb)
    · intro b u z
      by_cases hb : b = a
      · subst hb
        rw [at_a] at z
        cases z
        exact ⟨ha, by rw [List.length_map]; exact hl, vs, _, nums, ha⟩
      · rw [off b hb] at z
        cases z
    · intro b z
      by_cases hb : b = a
      · exact hb
      · exact absurd (off b hb) z
/-- the goal that the head leaves -/
theorem walk_go {l : PySem.W.OpenLaw} {n k : Nat} {q : Program} {loose : List Str}
    {XP : (Str → Option Value) → Heap → Prop} {YP : World → Heap → Prop} {d : DefRec}
    {K : Params → PySem.W.Frag} {CX : World → CXT} {sp : World → Sp} {x : Str}
    (hn : l.most = some n) (hn2 : n ≤ sizeLine) (hdf : d.params.defaults = [])
    (hr : Room k callerA) (hY : ∀ (w : World) (h : Heap), YP w h → (K w.params).In h)
    (F : ∀ (w : World) (mg : Str → Option Value) (fa : Addr) (h : Heap),
      (K w.params).In h → h.Ns mainGlobals mg → mg d.name = some (.ref fa) →
      ∃ fd : FuncData, (∀ (s : Shared) (u : Value), BindsTo s fd ⟨[u], []⟩ [(x, u)]) ∧
        ∀ base : Heap, (K w.params).In base → base.Ns mainGlobals mg →
          Fg l.prog w (K w.params) mg base (CX w) k fa fd [x] (sp w))
    (hsp : ∀ (w : World) (H : Hp) (a : Addr) (ns : List Int), ns.length ≤ n → Only H →
      SqL (K w.params) H a (ns.map V.int) →
      sp w [.ref a] H (fun v _ => v = .bl true) fun _ _ _ => False)
    (hCX : ∀ (w : World) (H : Hp) (s : Shared) (e : Value) (s' : Shared),
      CX w [] H s (fun _ _ _ => False) e s' → False) :
    PySem.W.WalkO q loose XP YP l.row.toRowW d [] (fun f vs => PySem.call f vs) := by
  refine Att.attach_call hn hdf ?_
  intro w s₀ s₁ mg mb fa o pm cd doc a vs ns G Y ho hd hcd hmg hobj hints hlen hg
  have KX := hY w _ Y
  obtain ⟨fd, hb, hF⟩ := F w mg fa _ KX G.T.g hmg
  exact law_go KX G.T.g G.T.b G.T.builtins G.T.nolimit hg hobj hints (Nat.le_trans hlen hn2) hr hF hb
    (fun H hO hS => hsp w H a ns hlen hO hS) (fun H e s' => hCX w H s₁ e s')
end Cm
set_option Elab.async false
set_option linter.all false
set_option maxRecDepth 100000
set_option maxHeartbeats 4000000
/-! ## 2. Data in the heap, apart from one address -/
namespace Cm
open PySem PySem.Spec PyProof.Rows L2
/-- all but what stands at p is as it was -/
def Keep (p : Addr) (H H' : Hp) : Prop := ∀ b o, b ≠ p → H b = some o → H' b = some o
theorem Keep.refl (p : Addr) (H : Hp) : Keep p H H := fun _ _ _ h => h
theorem Keep.trans {p : Addr} {H H1 H2 : Hp} (a : Keep p H H1) (b : Keep p H1 H2) : Keep p H H2 :=
  fun c o n h => b c o n (a c o n h)
theorem Keep.of {p : Addr} {H H' : Hp} (s : Same H H') : Keep p H H' := fun b o _ h => s b o h
theorem Keep.set {p : Addr} {H : Hp} {o : HO} : Keep p H (upd H p o) := fun b u n h => by
  rw [upd_ne n]; exact h
theorem Keep.new {p q : Addr} {H H' : Hp} {o : HO} (k : Keep p H H') (n : H' q = none) :
    Keep p H (upd H' q o) := fun b u hb h => by
  have := k b u hb h
  rw [upd_ne (ne_of_none this n)]; exact this
theorem Keep.put {p : Addr} {H H' : Hp} {o : HO} (k : Keep p H H') : Keep p H (upd H' p o) :=
  fun b u hb h => by rw [upd_ne hb]; exact k b u hb h
theorem Same.new {q : Addr} {H H' : Hp} {o : HO} (k : Same H H') (n : H' q = none) :
    Same H (upd H' q o) := fun b u h => by
  have := k b u h
  rw [upd_ne (ne_of_none this n)]; exact this
/-- an object that came behind H is changed -/
theorem Same.over {q : Addr} {H H' : Hp} {o : HO} (k : Same H H') (n : H q = none) :
    Same H (upd H' q o) := fun b u h => by
  rw [upd_ne (ne_of_none h n)]; exact k b u h
theorem Keep.over {p q : Addr} {H H' : Hp} {o : HO} (k : Keep p H H') (n : H q = none) :
    Keep p H (upd H' q o) := fun b u hb h => by
  rw [upd_ne (ne_of_none h n)]; exact k b u hb h
theorem Keep.rd {p a : Addr} {H H' : Hp} {u : HO} (k : Keep p H H') (n : a ≠ p) (h : Rd H a u) : Rd H' a u := by
  rcases h with h | ⟨o, h⟩
  · exact .inl (k _ _ n h)
  · exact .inr ⟨o, k _ _ n h⟩
def keyD : Key → PyData
  | .inl i => .int i
  | .inr x => .str x
def valD : V → PyData
  | .int i => .int i
  | _ => .none
def pairD (x : Key × V) : PyData × PyData := (keyD x.1, valD x.2)
mutual
/-- at v stands the data d, and none of it at p -/
inductive Dt (H : Hp) (p : Addr) : V → PyData → Prop
  | non : Dt H p .non .none
  | bl (b : Bool) : Dt H p (.bl b) (.bool b)
  | int (i : Int) : Dt H p (.int i) (.int i)
  | str (x : Str) : Dt H p (.str x) (.str x)
  | lst {a : Addr} {xs : List V} {ds : List PyData} : a ≠ p → H a = some (.lst xs) → DtAll H p xs ds →
      Dt H p (.ref a) (.list ds)
  | tup {a : Addr} {xs : List V} {ds : List PyData} : a ≠ p → H a = some (.tup xs) → DtAll H p xs ds →
      Dt H p (.ref a) (.tuple ds)
  | dct {a : Addr} {kvs : List (Key × V)} : a ≠ p → H a = some (.dK kvs) →
      (∀ x ∈ kvs, ∃ i, x.2 = V.int i) → Dt H p (.ref a) (.dict (kvs.map pairD))
inductive DtAll (H : Hp) (p : Addr) : List V → List PyData → Prop
  | nil : DtAll H p [] []
  | cons {v : V} {vs : List V} {d : PyData} {ds : List PyData} : Dt H p v d → DtAll H p vs ds →
      DtAll H p (v :: vs) (d :: ds)
end
mutual
theorem Dt.keep {p : Addr} {H H' : Hp} (k : Keep p H H') : ∀ {d : PyData} {v : V}, Dt H p v d → Dt H' p v d
  | _, _, .non => .non
  | _, _, .bl b => .bl b
  | _, _, .int i => .int i
  | _, _, .str x => .str x
  | _, _, .lst n r h => .lst n (k _ _ n r) (DtAll.keep k h)
  | _, _, .tup n r h => .tup n (k _ _ n r) (DtAll.keep k h)
  | _, _, .dct n r h => .dct n (k _ _ n r) h
theorem DtAll.keep {p : Addr} {H H' : Hp} (k : Keep p H H') : ∀ {ds : List PyData} {vs : List V},
    DtAll H p vs ds → DtAll H' p vs ds
  | _, _, .nil => .nil
  | _, _, .cons a b => .cons (Dt.keep k a) (DtAll.keep k b)
end
theorem DtAll.length {p : Addr} {H : Hp} : ∀ {ds : List PyData} {vs : List V}, DtAll H p vs ds → vs.length = ds.length
  | _, _, .nil => rfl
  | _, _, .cons _ b => congrArg Nat.succ (DtAll.length b)
theorem DtAll.get {p : Addr} {H : Hp} : ∀ {ds : List PyData} {vs : List V} {i : Nat} {v : V}, DtAll H p vs ds →
    vs[i]? = some v → ∃ d, ds[i]? = some d ∧ Dt H p v d
  | _, _, 0, _, .cons a _, e => by
    have e' := Option.some.inj e
    subst e'
    exact ⟨_, rfl, a⟩
  | _, _, i + 1, _, .cons _ b, e => DtAll.get (i := i) b e
  | _, _, i, _, .nil, e => by simp at e
theorem DtAll.append {p : Addr} {H : Hp} : ∀ {ds es : List PyData} {vs ws : List V}, DtAll H p vs ds → DtAll H p ws es →
    DtAll H p (vs ++ ws) (ds ++ es)
  | _, _, _, _, .nil, b => b
  | _, _, _, _, .cons a r, b => .cons a (DtAll.append r b)
theorem DtAll.take {p : Addr} {H : Hp} : ∀ (n : Nat) {ds : List PyData} {vs : List V}, DtAll H p vs ds →
    DtAll H p (vs.take n) (ds.take n)
  | 0, _, _, _ => .nil
  | _ + 1, _, _, .nil => .nil
  | n + 1, _, _, .cons a b => .cons a (DtAll.take n b)
theorem DtAll.drop {p : Addr} {H : Hp} : ∀ (n : Nat) {ds : List PyData} {vs : List V}, DtAll H p vs ds →
    DtAll H p (vs.drop n) (ds.drop n)
  | 0, _, _, h => h
  | _ + 1, _, _, .nil => .nil
  | n + 1, _, _, .cons _ b => DtAll.drop n b
theorem DtAll.set {p : Addr} {H : Hp} {v : V} {d : PyData} (h : Dt H p v d) : ∀ (n : Nat) {ds : List PyData} {vs : List V},
    DtAll H p vs ds → DtAll H p (vs.set n v) (ds.set n d)
  | _, _, _, .nil => .nil
  | 0, _, _, .cons _ b => .cons h b
  | n + 1, _, _, .cons a b => .cons a (DtAll.set h n b)
theorem DtAll.reverse {p : Addr} {H : Hp} : ∀ {ds : List PyData} {vs : List V}, DtAll H p vs ds →
    DtAll H p vs.reverse ds.reverse
  | _, _, .nil => .nil
  | _, _, .cons a b => by
    rw [List.reverse_cons, List.reverse_cons]
    exact DtAll.append (DtAll.reverse b) (.cons a .nil)

/-! ### what repr tells of it -/
section
variable {X : Cx} {pins : List (Addr × Obj)} {σ : L2.St} {H : Hp} {s : Shared} {p : Addr}
/-- what is known of the pieces behind v -/
def Shows (X : Cx) (s : Shared) (u : Value) (d : PyData) : Prop :=
  (∃ as, Reads s.heap u d as) ∧
  ∃ bs, ReadAtMost s.heap d.depth bs ∧ ReprK X.prog X.w bs s.heap d.depth u d.shown
def ShowsAll (X : Cx) (s : Shared) (us : List Value) (ds : List PyData) : Prop :=
  (∃ as, ReadsAll s.heap us ds as) ∧
  ∃ bs, ReadAtMost s.heap (PyData.depthAll ds) bs ∧
    ReprAllK X.prog X.w bs s.heap (PyData.depthAll ds) us (PyData.shownAll ds)
theorem Shows.leaf {u : Value} {d : PyData} (r : ∃ as, Reads s.heap u d as) (h : ReprIs X.prog X.w u d.shown) : Shows X s u d :=
  ⟨r, [], (fun _ z => by cases z), .of_is h _ _ _⟩
theorem ShowsAll.cons {u : Value} {us : List Value} {d : PyData} {ds : List PyData}
    (a : Shows X s u d) (b : ShowsAll X s us ds) : ShowsAll X s (u :: us) (d :: ds) := by
  obtain ⟨⟨as, r⟩, b1, m1, k1⟩ := a
  obtain ⟨⟨as', r'⟩, b2, m2, k2⟩ := b
  refine ⟨⟨_, .cons r r'⟩, b1 ++ b2, ?_, ?_⟩
  · have l1 : d.depth ≤ PyData.depthAll (d :: ds) := by simp only [PyData.depthAll]; exact Nat.le_max_left _ _
    have l2 : PyData.depthAll ds ≤ PyData.depthAll (d :: ds) := by simp only [PyData.depthAll]; exact Nat.le_max_right _ _
    exact (m1.mono l1).append (m2.mono l2)
  · simp only [PyData.depthAll, PyData.shownAll]
    have x1 := (k1.more (as' := b1 ++ b2) fun c h => List.mem_append_left _ h).level_le (Nat.le_max_left d.depth (PyData.depthAll ds))
    have x2 := k2.more_le (as' := b1 ++ b2) (fun c h => List.mem_append_right _ h) (Nat.le_max_right d.depth (PyData.depthAll ds))
    exact .cons x1 x2
/-- the entries of a dict of numbers -/
theorem dict_pieces {P : Program} {w : World} (h : Heap) : ∀ {kvs : List (Key × V)} {vs : List (Key × Value)} {es : List DictEntry},
    (∀ x ∈ kvs, ∃ i, x.2 = V.int i) → KV kvs vs → Pairs (mixKind P w) es vs →
    PyData.showableKv (kvs.map pairD) = true → (∀ t ∈ PyData.shownKv (kvs.map pairD), t.length ≤ sizeLine) →
    (∃ as, ReadsAll h (es.map (·.key)) ((kvs.map pairD).map (·.1)) as) ∧
    (∃ as, ReadsAll h (es.map (·.val)) ((kvs.map pairD).map (·.2)) as) ∧
    ReprEntriesK P w [] h (PyData.depthKv (kvs.map pairD)) es (PyData.shownKv (kvs.map pairD))
  | [], _, _, _, .nil, .nil, _, _ => ⟨⟨_, .nil⟩, ⟨_, .nil⟩, by simp only [List.map_nil, PyData.shownKv]; exact .nil⟩
  | (k, x) :: kvs, _, _, hi, .cons r t, .cons e1 e2 rest, hs, hz => by
    rename_i kv vs e es
    obtain ⟨i, hx⟩ := hi (k, x) List.mem_cons_self
    simp only at hx
    subst hx
    have hs' : ((keyD k).showable = true ∧ (valD (V.int i)).showable = true) ∧ PyData.showableKv (kvs.map pairD) = true := by
      simpa only [List.map_cons, pairD, PyData.showableKv, Bool.and_eq_true] using hs
    obtain ⟨q1, q2, q3⟩ := dict_pieces (P := P) (w := w) h (fun y hy => hi y (List.mem_cons_of_mem _ hy)) t rest hs'.2
      (fun t ht => hz t (by simp only [List.map_cons, pairD, PyData.shownKv]; exact List.mem_cons_of_mem _ ht))
    obtain ⟨kk, rv⟩ := r
    simp only at kk rv
    obtain ⟨t0, ev⟩ := rv
    obtain ⟨as1, q1⟩ := q1
    obtain ⟨as2, q2⟩ := q2
    have eval : e.val = Value.int i t0 := e2.trans ev
    have len1 := hz ((keyD k).shown ++ ": " ++ (valD (V.int i)).shown) (by simp only [List.map_cons, pairD, PyData.shownKv]; exact List.mem_cons_self)
    rw [strLen_append, strLen_append] at len1
    have hkey : (∃ as, Reads h e.key (keyD k) as) ∧ ReprIs P w e.key (keyD k).shown := by
      rw [← kk] at e1
      rcases keyIs_shape (show keyIs k e.key = true from e1) with ⟨j, u, rfl, ek⟩ | ⟨z, u, rfl, ek⟩
      · rw [ek]
        refine ⟨⟨_, .int j u⟩, ?_⟩
        simp only [keyD, PyData.shown]
        exact ReprIs.int u (by simpa only [keyD, PyData.showable, decide_eq_true_eq] using hs'.1.1)
      · rw [ek]
        refine ⟨⟨_, .str z u⟩, ?_⟩
        simp only [keyD, PyData.shown] at len1 ⊢
        exact ReprIs.str z u (by omega)
    have hval : (∃ as, Reads h e.val (valD (V.int i)) as) ∧ ReprIs P w e.val (valD (V.int i)).shown := by
      rw [eval]
      refine ⟨⟨_, .int i t0⟩, ?_⟩
      simp only [valD, PyData.shown]
      exact ReprIs.int t0 (by simpa only [valD, PyData.showable, decide_eq_true_eq] using hs'.1.2)
    obtain ⟨⟨as3, r3⟩, k3⟩ := hkey
    obtain ⟨⟨as4, r4⟩, k4⟩ := hval
    refine ⟨⟨_, .cons r3 q1⟩, ⟨_, .cons r4 q2⟩, ?_⟩
    simp only [List.map_cons, pairD, PyData.shownKv]
    have up : ∀ {es : List DictEntry} {ps : List Str} {a b : Nat}, a ≤ b → ReprEntriesK P w [] h a es ps → ReprEntriesK P w [] h b es ps := by
      intro es ps a b hab z
      induction z with
      | nil => exact .nil
      | cons z1 z2 _ ih => exact .cons (z1.level_le hab) (z2.level_le hab) ih
    refine .cons (.of_is k3 _ _ _) (.of_is k4 _ _ _) (up ?_ q3)
    simp only [PyData.depthKv]
    omega
mutual
theorem Dt.shows (I : Inv X pins σ H s) : ∀ {d : PyData} {v : V} {u : Value}, Dt H p v d → RelV v u →
    d.showable = true → d.shown.length ≤ sizeLine → Shows X s u d
  | _, _, _, .non, r, _, _ => by
    cases r
    exact .leaf ⟨_, .none⟩ (by simp only [PyData.shown]; exact ReprIs.none)
  | _, _, _, .bl b, r, _, _ => by
    cases r
    exact .leaf ⟨_, .bool b⟩ (by simp only [PyData.shown]; exact ReprIs.bool b)
  | _, _, _, .int i, r, hs, _ => by
    obtain ⟨t, rfl⟩ := r
    exact .leaf ⟨_, .int i t⟩ (by simp only [PyData.shown]; exact ReprIs.int t (by simpa only [PyData.showable, decide_eq_true_eq] using hs))
  | _, _, _, .str x, r, _, hz => by
    obtain ⟨t, rfl⟩ := r
    simp only [PyData.shown] at hz
    exact .leaf ⟨_, .str x t⟩ (by simp only [PyData.shown]; exact ReprIs.str x t hz)
  | .list ds, _, _, .lst (a := a) (xs := xs) n rd ha, r, hs, hz => by
    cases r
    obtain ⟨its, rv, ⟨o, k, ho, hc, _, hd⟩, _⟩ := I.list (SqL.of rd)
    have hz' : (listText (PyData.shownAll ds)).length ≤ sizeLine := by simpa only [PyData.shown] using hz
    obtain ⟨⟨as, rr⟩, bs, m, kk⟩ := DtAll.shows I ha rv (by simpa only [PyData.showable] using hs) (fun t ht => Nat.le_trans (listText_mem_le ht) hz')
    have whole : Reads s.heap (.ref a) (.list ds) _ := .list ho hc hd (by simpa using rr)
    have lt : PyData.depthAll ds < (PyData.list ds).depth := by simp only [PyData.depth]; omega
    have out := not_mem_of_deeper whole lt m
    refine ⟨⟨_, whole⟩, a :: bs, ReadAtMost.cons whole (Nat.le_of_lt lt) m, ?_⟩
    simp only [PyData.depth, PyData.shown]
    cases its with
    | nil =>
      cases rr
      simp only [PyData.shownAll, listText_nil]
      exact ReprK.listEmpty ho hc (by simpa using hd)
    | cons y l => exact ReprK.list ho hc (by simpa using hd) out (by simpa using kk.length_eq) (fun i z e => kk.item i z (by simpa using e))
  | .tuple ds, _, _, .tup (a := a) n rd ha, r, hs, hz => by
    cases r
    obtain ⟨its, rv, ⟨o, ho, hc, k, hd⟩, _⟩ := I.tuple (SqT.of rd)
    have hz' : (tupleText (PyData.shownAll ds)).length ≤ sizeLine := by simpa only [PyData.shown] using hz
    obtain ⟨⟨as, rr⟩, bs, m, kk⟩ := DtAll.shows I ha rv (by simpa only [PyData.showable] using hs) (fun t ht => Nat.le_trans (tupleText_mem_le ht) hz')
    have whole : Reads s.heap (.ref a) (.tuple ds) _ := .tuple ho hc hd (by simpa using rr)
    have lt : PyData.depthAll ds < (PyData.tuple ds).depth := by simp only [PyData.depth]; omega
    have out := not_mem_of_deeper whole lt m
    refine ⟨⟨_, whole⟩, a :: bs, ReadAtMost.cons whole (Nat.le_of_lt lt) m, ?_⟩
    simp only [PyData.depth, PyData.shown]
    exact ReprK.tuple ho hc hd out (by simpa using kk)
  | _, _, _, .dct (a := a) (kvs := kvs) n rd hi, r, hs, hz => by
    cases r
    obtain ⟨_, no1, vs, rel, o, es, ep, ho, hx, hd, _, hp, _⟩ := dk_of I.hok rd
    have hz' : (dictText (PyData.shownKv (kvs.map pairD))).length ≤ sizeLine := by simpa only [PyData.shown] using hz
    obtain ⟨⟨as1, r1⟩, ⟨as2, r2⟩, ents⟩ := dict_pieces s.heap hi rel hp (by simpa only [PyData.showable] using hs) (fun t ht => Nat.le_trans (dictText_mem_le ht) hz')
    have whole : Reads s.heap (.ref a) (.dict (kvs.map pairD)) _ := .dict ho hx.1 hd r1 r2
    have m : ReadAtMost s.heap (PyData.depthKv (kvs.map pairD)) [] := fun _ z => by cases z
    have lt : PyData.depthKv (kvs.map pairD) < (PyData.dict (kvs.map pairD)).depth := by simp only [PyData.depth]; omega
    refine ⟨⟨_, whole⟩, [a], ReadAtMost.cons whole (Nat.le_of_lt lt) m, ?_⟩
    simp only [PyData.depth, PyData.shown]
    exact ReprK.dict ho hx.1 hd no1 List.not_mem_nil ents
theorem DtAll.shows (I : Inv X pins σ H s) : ∀ {ds : List PyData} {vs : List V} {us : List Value}, DtAll H p vs ds → Vals vs us →
    PyData.showableAll ds = true → (∀ t ∈ PyData.shownAll ds, t.length ≤ sizeLine) → ShowsAll X s us ds
  | _, _, _, .nil, r, _, _ => by
    cases r
    exact ⟨⟨_, .nil⟩, [], (fun _ z => by cases z), by simp only [PyData.shownAll]; exact .nil⟩
  | _, _, _, .cons a b, r, hs, hz => by
    cases r with
    | cons r1 r2 =>
      have hs' := hs
      simp only [PyData.showableAll, Bool.and_eq_true] at hs'
      exact .cons (Dt.shows I a r1 hs'.1 (hz _ (by simp only [PyData.shownAll]; exact List.mem_cons_self)))
        (DtAll.shows I b r2 hs'.2 fun t ht => hz t (by simp only [PyData.shownAll]; exact List.mem_cons_of_mem _ ht))
end
end
end Cm
namespace Cm
open PySem PySem.Spec PyProof.Rows L2
section
variable {X : Cx} {pins : List (Addr × Obj)} {σ : L2.St} {H : Hp} {s : Shared} {p : Addr}
theorem old_keeps {s : Shared} : ∀ b o, s.heap.get? b = some o → s.heap.get? b = some o := fun _ _ e => e
/-- repr(x) of data, no repr being under way -/
theorem repr_run (I : Inv X pins σ H s) (hg : X.A.guards = some []) (hu : X.A.units + 64 < cLine) {Q : Value → Shared → Prop} {E : Value → Shared → Prop} :
    ∀ {d : PyData} {v : V} {u : Value}, Dt H p v d → RelV v u → d.showable = true → d.depth ≤ 60 → d.shown.length ≤ sizeLine →
    (∀ h' t tk, (∀ b o, s.heap.get? b = some o → h'.get? b = some o) → Q (.str d.shown t) { s with heap := h', toks := tk }) →
    wpAny (model X.prog X.w) X.A (call (.builtin "repr") [u]) Q E s
  | _, _, _, .non, r, _, _, _, q => by
    cases r
    simp only [PyData.shown] at q
    exact PySem.P.repr_of_none (q s.heap _ _ old_keeps)
  | _, _, _, .bl b, r, _, _, _, q => by
    cases r
    simp only [PyData.shown] at q
    exact PySem.P.repr_of_bool (q s.heap _ _ old_keeps)
  | _, _, _, .int i, r, hs, _, _, q => by
    obtain ⟨t, rfl⟩ := r
    simp only [PyData.shown] at q
    exact PySem.P.repr_of_int (by simpa only [PyData.showable, decide_eq_true_eq] using hs) (q s.heap _ _ old_keeps)
  | _, _, _, .str x, r, _, _, hz, q => by
    obtain ⟨t, rfl⟩ := r
    simp only [PyData.shown] at q hz
    exact PySem.P.repr_of_str (q s.heap _ _ old_keeps) hz
  | .list ds, _, _, .lst (a := a) (xs := xs) n rd ha, r, hs, hd, hz, q => by
    cases r
    obtain ⟨its, rv, ⟨o, k, ho, hc, _, hdat⟩, _⟩ := I.list (SqL.of rd)
    have hz' : (listText (PyData.shownAll ds)).length ≤ sizeLine := by simpa only [PyData.shown] using hz
    obtain ⟨⟨as, rr⟩, bs, m, kk⟩ := DtAll.shows I ha rv (by simpa only [PyData.showable] using hs) (fun t ht => Nat.le_trans (listText_mem_le ht) hz')
    have whole : Reads s.heap (.ref a) (.list ds) _ := .list ho hc hdat (by simpa using rr)
    have lt : PyData.depthAll ds < (PyData.list ds).depth := by simp only [PyData.depth]; omega
    have out := not_mem_of_deeper whole lt m
    refine call_repr_slot (by omega) ⟨o, ho, hc⟩ F.slot_list_repr.toG ?_
    simp only [PyData.shown] at q
    cases its with
    | nil =>
      cases rr
      simp only [PyData.shownAll, listText_nil] at q
      exact call_list_repr_empty ⟨o, ho, hc⟩ ho (by simpa using hdat) ⟨_, _, rfl, q s.heap _ _ old_keeps⟩
    | cons y l =>
      exact call_list_reprK ho hc (by simpa using hdat) out (by simpa using kk.length_eq) (fun i z e => kk.item i z (by simpa using e))
        (A := X.A.in1) hg (fun b _ => Clear.nil b) (by show X.A.units + 1 + _ < cLine; omega) old_keeps (fun h' t tk hk => ⟨_, _, rfl, q h' t tk hk⟩) hz'
  | .tuple ds, _, _, .tup (a := a) n rd ha, r, hs, hd, hz, q => by
    cases r
    obtain ⟨its, rv, ⟨o, ho, hc, k, hdat⟩, _⟩ := I.tuple (SqT.of rd)
    have hz' : (tupleText (PyData.shownAll ds)).length ≤ sizeLine := by simpa only [PyData.shown] using hz
    obtain ⟨⟨as, rr⟩, bs, m, kk⟩ := DtAll.shows I ha rv (by simpa only [PyData.showable] using hs) (fun t ht => Nat.le_trans (tupleText_mem_le ht) hz')
    have whole : Reads s.heap (.ref a) (.tuple ds) _ := .tuple ho hc hdat (by simpa using rr)
    have lt : PyData.depthAll ds < (PyData.tuple ds).depth := by simp only [PyData.depth]; omega
    have out := not_mem_of_deeper whole lt m
    refine call_repr_slot (by omega) ⟨o, ho, hc⟩ F.slot_tuple_repr ?_
    simp only [PyData.shown] at q
    exact call_tuple_reprK ho hc hdat out (by simpa using kk) (A := X.A.in1) hg (fun b _ => Clear.nil b)
      (by show X.A.units + 1 + _ < cLine; omega) old_keeps (fun h' t tk hk => ⟨_, _, rfl, q h' t tk hk⟩) hz'
  | _, _, _, .dct (a := a) (kvs := kvs) n rd hi, r, hs, hd, hz, q => by
    cases r
    obtain ⟨_, no1, vs, rel, o, es, ep, ho, hx, hdat, _, hp, _⟩ := dk_of I.hok rd
    have hz' : (dictText (PyData.shownKv (kvs.map pairD))).length ≤ sizeLine := by simpa only [PyData.shown] using hz
    obtain ⟨⟨as1, r1⟩, ⟨as2, r2⟩, ents⟩ := dict_pieces s.heap hi rel hp (by simpa only [PyData.showable] using hs) (fun t ht => Nat.le_trans (dictText_mem_le ht) hz')
    simp only [PyData.depth] at hd
    simp only [PyData.shown] at q
    refine call_repr_slot (by omega) ⟨o, ho, hx.1⟩ F.slot_dict_repr ?_
    exact call_dict_reprK ho hx.1 hdat no1 List.not_mem_nil ents (A := X.A.in1) hg (fun b _ => Clear.nil b)
      (by show X.A.units + 1 + _ < cLine; omega) old_keeps (fun h' t tk hk => ⟨_, _, rfl, q h' t tk hk⟩) hz'
/-- data that is told within the lines -/
structure Fit (m n : Nat) (d : PyData) : Prop where
  leaves : d.leavesShort 250 = true
  sh : d.showable = true
  dp : d.depth ≤ m
  bk : d.bulk ≤ n
theorem Fit.shown {m n : Nat} {d : PyData} (f : Fit m n d) (h : n ≤ 60000) : d.shown.length ≤ sizeLine := by
  have h1 := PyData.shown_le_bulk 250 (by decide) d f.leaves
  have h2 := f.bk
  have h3 : (250 + 2) * d.bulk ≤ 252 * 60000 := Nat.mul_le_mul (Nat.le_refl _) (Nat.le_trans h2 h)
  have h4 : 252 * 60000 + 250 ≤ sizeLine := by decide
  omega
/-- repr(x) -/
def rRepr (p : Addr) : List V → Hp → VK → Prop := fun xs H Q => ∃ (x : V) (d : PyData), xs = [x] ∧ Dt H p x d ∧ Fit 60 60000 d ∧ Q (.str d.shown) H
theorem call_repr (hg : X.A.guards = some []) (hu : X.A.units + 64 < cLine) (p : Addr) : CallR X (.builtin "repr") (rRepr p) := by
  intro pins s σ H xs us Q I r h
  obtain ⟨x, d, rfl, hd, f, q⟩ := h
  cases r with
  | cons rx rt =>
    cases rt
    exact repr_run I hg hu hd rx f.sh f.dp (f.shown (Nat.le_refl _)) fun h' t tk hk => ⟨.str d.shown, H, I.kept hk, ⟨_, rfl⟩, q⟩
end
end Cm
set_option Elab.async false
set_option linter.all false
set_option maxRecDepth 100000
set_option maxHeartbeats 4000000
/-! ## 3. Steps of a reading -/
namespace Cm
open PySem PySem.Spec PyProof.Rows L2
section
variable {K : PySem.W.Frag} {H : Hp} {Q : VK} {σ : L2.St} {D : Ends}
theorem r_var {i : Nat} {v : V} (h : σ[i]? = some (some v)) (q : Q v H) : tVar i σ H Q := ⟨v, h, q⟩
theorem r_c {v : V} (q : Q v H) : tC v σ H Q := q
theorem r_op {r : R2} {ta tb : TE} (q : ta σ H fun x H1 => tb σ H1 fun y H2 => r x y H2 Q) : tOp r ta tb σ H Q := q
theorem r_un {r : V → Hp → VK → Prop} {ta : TE} (q : ta σ H fun x H1 => r x H1 Q) : tUn r ta σ H Q := q
theorem r_rI0 {g : Int → Int → V} {i j : Int} (q : Q (g i j) H) : rI0 g (.int i) (.int j) H Q := ⟨i, j, rfl, rfl, q⟩
theorem r_rI {C : Int → Int → Prop} {g : Int → Int → V} {i j : Int} (c : C i j) (q : Q (g i j) H) :
    rI C g (.int i) (.int j) H Q := ⟨i, j, rfl, rfl, c, q⟩
theorem r_rU {g : Int → V} {i : Int} (q : Q (g i) H) : rU g (.int i) H Q := ⟨i, rfl, q⟩
theorem r_eqI {i j : Int} (q : Q (.bl (decide (i = j))) H) : rEq (.int i) (.int j) H Q := by
  refine ⟨rfl, ?_⟩
  rw [show decide (V.int i = V.int j) = decide (i = j) from by
    by_cases h : i = j
    · rw [h, decide_eq_true rfl, decide_eq_true rfl]
    · rw [decide_eq_false h, decide_eq_false (fun z => h (V.int.inj z))]]
  exact q
theorem r_neI {i j : Int} (q : Q (.bl (!decide (i = j))) H) : rNe (.int i) (.int j) H Q := by
  refine ⟨rfl, ?_⟩
  rw [show decide (V.int i = V.int j) = decide (i = j) from by
    by_cases h : i = j
    · rw [h, decide_eq_true rfl, decide_eq_true rfl]
    · rw [decide_eq_false h, decide_eq_false (fun z => h (V.int.inj z))]]
  exact q
theorem r_eqS {i j : Str} (q : Q (.bl (decide (i = j))) H) : rEq (.str i) (.str j) H Q := by
  refine ⟨rfl, ?_⟩
  rw [show decide (V.str i = V.str j) = decide (i = j) from by
    by_cases h : i = j
    · rw [h, decide_eq_true rfl, decide_eq_true rfl]
    · rw [decide_eq_false h, decide_eq_false (fun z => h (V.str.inj z))]]
  exact q
theorem r_neS {i j : Str} (q : Q (.bl (!decide (i = j))) H) : rNe (.str i) (.str j) H Q := by
  refine ⟨rfl, ?_⟩
  rw [show decide (V.str i = V.str j) = decide (i = j) from by
    by_cases h : i = j
    · rw [h, decide_eq_true rfl, decide_eq_true rfl]
    · rw [decide_eq_false h, decide_eq_false (fun z => h (V.str.inj z))]]
  exact q
theorem r_nil {Q : List V → Hp → Prop} (q : Q [] H) : tNil σ H Q := q
theorem r_cons {ta : TE} {tr : TA} {Q : List V → Hp → Prop} (q : ta σ H fun x H1 => tr σ H1 fun xs H2 => Q (x :: xs) H2) :
    tCons ta tr σ H Q := q
theorem r_tup {t : TA} (q : t σ H fun xs H1 => xs.length ≤ sizeLine ∧ ∀ p, H1 p = none → Q (.ref p) (upd H1 p (.tup xs))) : tTup t σ H Q := q
theorem r_lst {t : TA} (q : t σ H fun xs H1 => xs.length ≤ sizeLine ∧ ∀ p, H1 p = none → Q (.ref p) (upd H1 p (.lst xs))) : tLst t σ H Q := q
theorem r_small {n : Nat} {P : Prop} (h : n ≤ 1000) (q : P) : n ≤ sizeLine ∧ P := ⟨Nat.le_trans h (by decide), q⟩
theorem r_cb {r : List V → Hp → VK → Prop} {t : TA} (q : t σ H fun vs H1 => r vs H1 Q) : tCB r t σ H Q := q
theorem r_call {sp : Sp} {dvs : List V} {E : XK} {t : TA} (q : t σ H fun vs H1 => sp (vs ++ dvs) H1 Q E) : tCall sp dvs E t σ H Q := q
theorem r_if {t : TT} {ta tb : TE} (q : t σ H fun c H1 => if c = true then ta σ H1 Q else tb σ H1 Q) : tIf t ta tb σ H Q := q
theorem r_test {t : TE} {Q : Bool → Hp → Prop} (q : t σ H fun x H' => ∃ k, x = .bl k ∧ Q k H') : tTest t σ H Q := q
theorem r_B {t : TE} {Q : Bool → Hp → Prop} (q : t σ H fun x H1 => ∃ c, x = .bl c ∧ Q c H1) : tB t σ H Q := q
theorem r_isbl {b : Bool} {Q : Bool → Prop} (q : Q b) : ∃ c, V.bl b = V.bl c ∧ Q c := ⟨b, rfl, q⟩
theorem r_and {t u : TT} {Q : Bool → Hp → Prop} (q : t σ H fun c H1 => if c = true then u σ H1 Q else Q false H1) : tAnd t u σ H Q := q
theorem r_or {t u : TT} {Q : Bool → Hp → Prop} (q : t σ H fun c H1 => if c = true then Q true H1 else u σ H1 Q) : tOr t u σ H Q := q
theorem r_not {t : TT} {Q : Bool → Hp → Prop} (q : t σ H fun c H1 => Q (!c) H1) : tNot t σ H Q := q
theorem r_andV {ta tb : TE} (q : ta σ H fun x H1 => ∃ c, x = .bl c ∧ if c = true then tb σ H1 Q else Q (.bl false) H1) : tAndV ta tb σ H Q := q
theorem r_orV {ta tb : TE} (q : ta σ H fun x H1 => ∃ c, x = .bl c ∧ if c = true then Q (.bl true) H1 else tb σ H1 Q) : tOrV ta tb σ H Q := q
theorem r_notV {ta : TE} (q : ta σ H fun x H1 => ∃ c, x = .bl c ∧ Q (.bl (!c)) H1) : tNotV ta σ H Q := q
theorem r_chain {r r' : R2} {ta tb tc : TE} (q : ta σ H fun x H1 => tb σ H1 fun y H2 => r x y H2 fun z H3 => ∃ k, z = .bl k ∧
    if k = true then tc σ H3 fun u H4 => r' y u H4 Q else Q (.bl false) H3) : tChain r r' ta tb tc σ H Q := q
theorem r_ite {c : Bool} {A B : Prop} (h1 : c = true → A) (h2 : c = false → B) : if c = true then A else B := by
  cases c with
  | true => exact iteT (h1 rfl)
  | false => exact iteF (h2 rfl)
-- statements
theorem r_next (q : D.nx σ H) : tNext D σ H := q
theorem r_seq {t u : TS} (q : t { nx := u D, rt := D.rt, bk := D.bk, ct := D.ct } σ H) : tSeq t u D σ H := q
theorem r_ret {te : TE} (q : te σ H D.rt) : tRet te D σ H := q
theorem r_retN (q : D.rt .non H) : tRetN D σ H := q
theorem r_drop {te : TE} (q : te σ H fun _ H1 => D.nx σ H1) : tDrop te D σ H := q
theorem r_ifS {c : TT} {t u : TS} (q : c σ H fun b H1 => if b = true then t D σ H1 else u D σ H1) : tIfS c t u D σ H := q
theorem r_asg {te : TE} {g : TG} (q : te σ H fun x H1 => g x σ H1 D.nx) : tAsg te g D σ H := q
theorem r_break (q : D.bk σ H) : tBreak D σ H := q
theorem r_cont (q : D.ct σ H) : tCont D σ H := q
theorem r_gname {i : Nat} {v : V} {Q : L2.St → Hp → Prop} {σ' : L2.St} (e : σ.set i (some v) = σ') (q : Q σ' H) : gName i v σ H Q := by
  subst e; exact q
theorem r_gsub {to ti : TE} {t : TSet} {v : V} {Q : L2.St → Hp → Prop} (q : to σ H fun o H1 => ti σ H1 fun i H2 => t o i v H2 fun H3 => Q σ H3) :
    gSub to ti t v σ H Q := q
theorem r_gnil {Q : L2.St → Hp → Prop} (q : Q σ H) : gNil [] σ H Q := ⟨rfl, q⟩
theorem r_gcons {t : TG} {u : TGs} {v : V} {r : List V} {Q : L2.St → Hp → Prop} (q : t v σ H fun σ' H' => u r σ' H' Q) : gCons t u (v :: r) σ H Q := ⟨v, r, rfl, q⟩
theorem r_gtup {n : Nat} {t : TGs} {a : Addr} {xs : List V} {Q : L2.St → Hp → Prop} (h : H a = some (.tup xs)) (e : xs.length = n) (q : t xs σ H Q) :
    gTup K n t (.ref a) σ H Q := ⟨a, xs, rfl, SqT.of h, e, q⟩
theorem r_par {i j : Nat} {ta : TA} (q : ta σ H fun vs H1 => ∃ v w, vs = [v, w] ∧ D.nx ((σ.set i (some v)).set j (some w)) H1) : tPar i j ta D σ H := q
theorem r_par3 {i j l : Nat} {ta : TA} (q : ta σ H fun vs H1 => ∃ u v w, vs = [u, v, w] ∧ D.nx (((σ.set i (some u)).set j (some v)).set l (some w)) H1) : tPar3 i j l ta D σ H := q
theorem r_two {v w : V} {Q : V → V → Prop} (q : Q v w) : ∃ x y, [v, w] = [x, y] ∧ Q x y := ⟨v, w, rfl, q⟩
theorem r_three {u v w : V} {Q : V → V → V → Prop} (q : Q u v w) : ∃ x y z, [u, v, w] = [x, y, z] ∧ Q x y z := ⟨u, v, w, rfl, q⟩
-- items
theorem r_ixL {p : Addr} {xs : List V} {i : Int} {v : V} (h : H p = some (.lst xs)) (e : atI xs i = some v) (q : Q v H) : rIx K (.ref p) (.int i) H Q :=
  .inl ⟨p, xs, i, v, rfl, rfl, SqL.of h, e, q⟩
theorem r_ixT {p : Addr} {xs : List V} {i : Int} {v : V} (h : H p = some (.tup xs)) (e : atI xs i = some v) (q : Q v H) : rIx K (.ref p) (.int i) H Q :=
  .inr (.inl ⟨p, xs, i, v, rfl, rfl, SqT.of h, e, q⟩)
theorem r_ixS {z : Str} {i : Int} {c : Nat} (h : z.length ≤ sizeLine) (e : atI z.cps.toList i = some c) (q : Q (.str ⟨#[c]⟩) H) : rIx K (.str z) (.int i) H Q :=
  .inr (.inr ⟨z, i, c, rfl, rfl, h, e, q⟩)
theorem atI_in {α : Type} {xs : List α} {i : Int} (h0 : 0 ≤ i) (h : i < xs.length) : ∃ v, v ∈ xs ∧ atI xs i = some v := by
  obtain ⟨k, rfl⟩ := Int.eq_ofNat_of_zero_le h0
  have hk : k < xs.length := by omega
  exact ⟨xs[k], List.getElem_mem hk, atI_nat (List.getElem?_eq_getElem hk)⟩
/-- an item of a list at a drawn place -/
theorem r_pickL {p : Addr} {xs : List V} {i : Int} (h : H p = some (.lst xs)) (h0 : 0 ≤ i) (h1 : i < xs.length) (q : ∀ v, v ∈ xs → Q v H) : rIx K (.ref p) (.int i) H Q := by
  obtain ⟨v, m, e⟩ := atI_in h0 h1
  exact r_ixL h e (q v m)
theorem r_setL {p : Addr} {xs ys : List V} {k : Int} {j : Nat} {v : V} {Q : Hp → Prop} (h : H p = some (.lst xs)) (e : ixN xs.length k = some j) (e2 : xs.set j v = ys) (q : Q (upd H p (.lst ys))) :
    rSetL (.ref p) (.int k) v H Q := ⟨p, xs, k, j, rfl, rfl, h, e, e2 ▸ q⟩
theorem r_setAt {p : Addr} {xs : List V} {k : Int} {v : V} {Q : Hp → Prop} (h : H p = some (.lst xs)) (h0 : 0 ≤ k) (h1 : k < xs.length) (q : Q (upd H p (.lst (xs.set k.toNat v)))) :
    rSetL (.ref p) (.int k) v H Q := ⟨p, xs, k, k.toNat, rfl, rfl, h, by unfold ixN; rw [if_pos h0, if_pos h1], q⟩
theorem iteT_of {c : Bool} {A B : Prop} (e : c = true) (h : A) : if c = true then A else B := by rw [e]; exact iteT h
theorem iteF_of {c : Bool} {A B : Prop} (e : c = false) (h : B) : if c = true then A else B := by rw [e]; exact iteF h
theorem r_conv {a b : Bool} (e : a = b) (q : Q (.bl a) H) : Q (.bl b) H := e ▸ q
theorem r_itup {te : TE} {R : It → Hp → Prop} (q : te σ H fun x H1 => ∃ a, x = .ref a ∧ (∃ xs, SqT K H1 a xs) ∧ R (Itt K a) H1) : iTup K te σ H R := q
theorem r_ilst {te : TE} {R : It → Hp → Prop} (q : te σ H fun x H1 => ∃ a, x = .ref a ∧ (∃ xs, SqL K H1 a xs) ∧ R (Itl K a) H1) : iList K te σ H R := q
theorem r_atT {a : Addr} {xs : List V} {R : Addr → Prop} (h : H a = some (.tup xs)) (q : R a) : ∃ b, V.ref a = .ref b ∧ (∃ xs, SqT K H b xs) ∧ R b := ⟨a, rfl, ⟨xs, SqT.of h⟩, q⟩
theorem r_atL {a : Addr} {xs : List V} {R : Addr → Prop} (h : H a = some (.lst xs)) (q : R a) : ∃ b, V.ref a = .ref b ∧ (∃ xs, SqL K H b xs) ∧ R b := ⟨a, rfl, ⟨xs, SqL.of h⟩, q⟩
theorem r_irng1 {ta : TA} {R : It → Hp → Prop} (q : ta σ H fun vs H1 => ∃ j : Int, vs = [.int j] ∧ -(2 ^ 62) ≤ j ∧ j < 2 ^ 62 ∧ R (Itr 0 j.toNat) H1) : iRng1 ta σ H R := q
theorem r_rng {i : Int} {R : Int → Prop} (h : -(2 ^ 62) ≤ i) (h' : i < 2 ^ 62) (q : R i) : ∃ j : Int, [V.int i] = [.int j] ∧ -(2 ^ 62) ≤ j ∧ j < 2 ^ 62 ∧ R j := ⟨i, rfl, h, h', q⟩
theorem r_append {l : Addr} {xs : List V} {y : V} (h : H l = some (.lst xs)) (e : xs.length < 1000) (q : Q .non (upd H l (.lst (xs ++ [y])))) :
    rAppend (.ref l) [y] H Q := ⟨l, xs, y, rfl, rfl, h, Nat.lt_of_lt_of_le e (by decide), q⟩
theorem r_bm {T : String} {r : V → List V → Hp → VK → Prop} {to : TE} {t : TA}
    (q : to σ H fun x H1 => tyV K T x H1 ∧ t σ H1 fun xs H2 => r x xs H2 Q) : tBM K T r to t σ H Q := q
theorem r_bm0 {T : String} {r : V → List V → Hp → VK → Prop} {to : TE}
    (q : to σ H fun x H1 => tyV K T x H1 ∧ r x [] H1 Q) : tBM0 K T r to σ H Q := q
theorem r_tyL {l : Addr} {xs : List V} {P : Prop} (h : H l = some (.lst xs)) (q : P) : tyV K "list" (.ref l) H ∧ P :=
  ⟨Or.inl ⟨rfl, _, SqL.of h⟩, q⟩
theorem r_tyS {z : Str} {P : Prop} (q : P) : tyV K "str" (.str z) H ∧ P := ⟨rfl, q⟩
end
/-! ### operators of several kinds of things -/
theorem opOr {X : Cx} {f : Value → Value → Sem Value} {r r' : R2} (h : OpR X f r) (h' : OpR X f r') :
    OpR X f (fun x y H Q => r x y H Q ∨ r' x y H Q) := by
  intro pins s σ H x y v u Q I rx ry q
  rcases q with q | q
  · exact h pins s σ H x y v u Q I rx ry q
  · exact h' pins s σ H x y v u Q I rx ry q
theorem callOr {X : Cx} {f : Value} {r r' : List V → Hp → VK → Prop} (h : CallR X f r) (h' : CallR X f r') :
    CallR X f (fun xs H Q => r xs H Q ∨ r' xs H Q) := by
  intro pins s σ H xs us Q I rx q
  rcases q with q | q
  · exact h pins s σ H xs us Q I rx q
  · exact h' pins s σ H xs us Q I rx q
def rAddS : R2 := fun x y H Q => ∃ i j, x = .str i ∧ y = .str j ∧ i.length + j.length ≤ sizeLine ∧ Q (.str (i ++ j)) H
/-- + -/
def rPlus (K : PySem.W.Frag) : R2 := fun x y H Q => rI0 (fun i j => .int (i + j)) x y H Q ∨ (rAddS x y H Q ∨ (rCat x y H Q ∨ rCatA K x y H Q))
theorem op_plus {X : Cx} : OpR X (binaryOp .Add) (rPlus X.K) := opOr op_add (opOr op_add_str (opOr op_cat op_catA))
/-- * -/
def rTimes (K : PySem.W.Frag) : R2 := fun x y H Q => rI CMulW (fun i j => .int (i * j)) x y H Q ∨ (rRep x y H Q ∨ rRepT K x y H Q)
theorem op_times {X : Cx} : OpR X (binaryOp .Mult) (rTimes X.K) := opOr op_mulW (opOr op_rep op_repT)
/-- == and != -/
def rSame (K : PySem.W.Frag) : R2 := fun x y H Q => rEq x y H Q ∨ rEqD K x y H Q
def rUnlike (K : PySem.W.Frag) : R2 := fun x y H Q => rNe x y H Q ∨ rNeD K x y H Q
theorem op_same {X : Cx} (hu : X.A.units + 64 < cLine) : OpR X (compareOp .Eq) (rSame X.K) := opOr op_eq (op_eqD hu)
theorem op_unlike {X : Cx} (hu : X.A.units + 64 < cLine) : OpR X (compareOp .NotEq) (rUnlike X.K) := opOr op_ne (op_neD hu)
/-- // -/
def rDiv : R2 := rI CDivW fun i j => .int (i / j)
def rMod : R2 := rI (fun _ j => 0 < j) fun i j => .int (i % j)
theorem op_div {X : Cx} : OpR X (binaryOp .FloorDiv) rDiv := op_fdivW
theorem op_rest {X : Cx} : OpR X (binaryOp .Mod) rMod := op_mod
def rPow : R2 := rI CPow fun i j => .int (i ^ j.toNat)
theorem op_power {X : Cx} : OpR X (binaryOp .Pow) rPow := op_pow
def rLen (K : PySem.W.Frag) : List V → Hp → VK → Prop := fun xs H Q => ∃ x n, xs = [x] ∧ LenV K x H n ∧ Q (.int n) H
theorem call_size {X : Cx} : CallR X (.builtin "len") (rLen X.K) := call_len
def rMin2 : List V → Hp → VK → Prop := fun xs H Q => ∃ i j, xs = [.int i, .int j] ∧ Q (.int (if j < i then j else i)) H
def rMax2 : List V → Hp → VK → Prop := fun xs H Q => ∃ i j, xs = [.int i, .int j] ∧ Q (.int (if j > i then j else i)) H
theorem call_least {X : Cx} (hc : X.calm = true) : CallR X (.builtin "min") rMin2 := call_min2 hc
theorem call_most {X : Cx} (hc : X.calm = true) : CallR X (.builtin "max") rMax2 := call_max2 hc
def rListOf (K : PySem.W.Frag) : List V → Hp → VK → Prop := fun xs H Q => ∃ p ys, xs = [.ref p] ∧ (SqL K H p ys ∨ SqT K H p ys) ∧ ∀ l, H l = none → Q (.ref l) (upd H l (.lst ys))
theorem call_listed {X : Cx} : CallR X (.type "list") (rListOf X.K) := call_list_of
def rTupOf (K : PySem.W.Frag) : List V → Hp → VK → Prop := fun xs H Q => ∃ p ys, xs = [.ref p] ∧ ((SqL K H p ys ∧ ∀ l, H l = none → Q (.ref l) (upd H l (.tup ys))) ∨ (SqT K H p ys ∧ Q (.ref p) H))
theorem call_tupled {X : Cx} : CallR X (.type "tuple") (rTupOf X.K) := call_tuple_of
def rSlS : V → Option Int → Option Int → Hp → VK → Prop := fun x lo hi H Q => ∃ z : Str, x = .str z ∧ z.length ≤ sizeLine ∧ Q (.str (cutS z lo hi)) H
def rCut (K : PySem.W.Frag) : V → Option Int → Option Int → Hp → VK → Prop := fun x lo hi H Q => rSlL K x lo hi H Q ∨ (rSlA K x lo hi H Q ∨ rSlS x lo hi H Q)
theorem sl_cut {X : Cx} : SlR X (rCut X.K) := sl_list.or (sl_tupA.or sl_str)
def rInsert : V → List V → Hp → VK → Prop := fun x vs H Q => ∃ (l : Addr) (xs : List V) (i : Int) (y : V), x = .ref l ∧ vs = [.int i, y] ∧ H l = some (.lst xs) ∧ xs.length < sizeLine ∧ 0 ≤ i ∧ i < 2 ^ 63 ∧
    Q .non (upd H l (.lst (xs.take i.toNat ++ [y] ++ xs.drop i.toNat)))
theorem mt_ins {X : Cx} : MtR X "list.insert" rInsert := mt_insert
def rUpper : V → List V → Hp → VK → Prop := fun x xs H Q => ∃ a, x = .str a ∧ xs = [] ∧ a.length ≤ 5592405 ∧ Q (.str (Txt.upper a)) H
theorem mt_up {X : Cx} : MtR X "str.upper" rUpper := mt_upper
def rJoin (K : PySem.W.Frag) : V → List V → Hp → VK → Prop := fun x xs H Q => ∃ a p, ∃ ys : List Str, x = .str a ∧ xs = [.ref p] ∧ (SqL K H p (ys.map V.str) ∨ SqT K H p (ys.map V.str)) ∧
    (ys.map (·.length)).sum + ys.length * a.length ≤ 16777216 ∧ Q (.str (Txt.join a ys)) H
theorem mt_joined {X : Cx} : MtR X "str.join" (rJoin X.K) := mt_join
/-- the name of a kind -/
def kindD : PyData → String
  | .none => "NoneType" | .bool _ => "bool" | .int _ => "int" | .str _ => "str"
  | .list _ => "list" | .tuple _ => "tuple" | .dict _ => "dict"
theorem Dt.kind {K : PySem.W.Frag} {H : Hp} {p : Addr} {v : V} {d : PyData} (h : Dt H p v d) : TyX K H v (.type (kindD d)) := by
  cases h with
  | non => exact .base .non
  | bl b => exact .base (.bl b)
  | int i => exact .base (.int i)
  | str x => exact .base (.str x)
  | lst _ e _ => exact .base (.lst e)
  | tup _ e _ => exact .base (.tup e)
  | dct _ e _ => exact .base (.dK e)
/-- isinstance(x, T) of data -/
def isD (T : String) : PyData → Bool
  | .none => T == "NoneType" | .bool _ => T == "bool" || T == "int" | .int _ => T == "int" | .str _ => T == "str"
  | .list _ => T == "list" | .tuple _ => T == "tuple" | .dict _ => T == "dict"
theorem kit_isD {K : PySem.W.Frag} (d : PyData) {T : String} (hT : T = "int" ∨ T = "bool" ∨ T = "str" ∨ T = "tuple" ∨ T = "list" ∨ T = "dict") :
    PySem.W.kitOne K (.type (kindD d)) (.type T) = some (isD T d) := by
  refine kit_ty ?_
  rcases hT with h | h | h | h | h | h <;> subst h <;> cases d <;> simp only [kindD, isD] <;> decide +kernel
section
variable {K : PySem.W.Frag} {H : Hp} {Q : VK} {σ : L2.St}
theorem r_isi {p : Addr} {x : V} {d : PyData} {T : String} {b : Bool} (hd : Dt H p x d) (hT : T = "int" ∨ T = "bool" ∨ T = "str" ∨ T = "tuple" ∨ T = "list" ∨ T = "dict")
    (e : isD T d = b) (q : Q (.bl b) H) : rIsi K [x, .ty T] H Q := ⟨x, .ty T, _, .type T, _, rfl, .ty T, hd.kind, e ▸ kit_isD d hT, q⟩
theorem r_plusI {i j : Int} (q : Q (.int (i + j)) H) : rPlus K (.int i) (.int j) H Q := .inl ⟨i, j, rfl, rfl, q⟩
theorem r_plusS {i j : Str} (h : i.length + j.length ≤ sizeLine) (q : Q (.str (i ++ j)) H) : rPlus K (.str i) (.str j) H Q := .inr (.inl ⟨i, j, rfl, rfl, h, q⟩)
theorem r_plusL {l b : Addr} {xs zs : List V} (h : H l = some (.lst xs)) (h' : H b = some (.lst zs)) (e : xs.length + zs.length ≤ 1000)
    (q : ∀ p, H p = none → Q (.ref p) (upd H p (.lst (xs ++ zs)))) : rPlus K (.ref l) (.ref b) H Q := .inr (.inr (.inl ⟨l, b, xs, zs, rfl, rfl, h, h', Nat.le_trans e (by decide), q⟩))
theorem r_plusT {l b : Addr} {xs zs : List V} (h : H l = some (.tup xs)) (h' : H b = some (.tup zs)) (e : xs.length + zs.length ≤ sizeLine)
    (q0 : xs = [] → Q (.ref b) H) (q1 : xs ≠ [] → zs = [] → Q (.ref l) H) (q2 : xs ≠ [] → zs ≠ [] → ∀ p, H p = none → Q (.ref p) (upd H p (.tup (xs ++ zs)))) :
    rPlus K (.ref l) (.ref b) H Q := .inr (.inr (.inr ⟨l, b, xs, zs, rfl, rfl, SqT.of h, SqT.of h', e, q0, q1, q2⟩))
theorem r_timesI {i j : Int} (h : i.natAbs < 2 ^ 200) (h' : j.natAbs < 2 ^ 200) (q : Q (.int (i * j)) H) : rTimes K (.int i) (.int j) H Q :=
  .inl ⟨i, j, rfl, rfl, wide_mul h h' (by decide) (by decide) (by decide), q⟩
theorem big_of {i : Int} {b : Nat} (h : i.natAbs ≤ 2 ^ b) (hb : b < 200) : i.natAbs < 2 ^ 200 :=
  Nat.lt_of_le_of_lt h (Nat.pow_lt_pow_right (by decide) hb)
theorem r_timesL {l : Addr} {k : Int} {xs : List V} (h : H l = some (.lst xs)) (h0 : 0 ≤ k) (h1 : k ≤ 1000) (h2 : xs.length ≤ 1000)
    (q : ∀ p, H p = none → Q (.ref p) (upd H p (.lst (List.replicate k.toNat xs).flatten))) : rTimes K (.ref l) (.int k) H Q := by
  refine .inr (.inl ⟨l, k, xs, rfl, rfl, h, by omega, by omega, ?_, q⟩)
  have : xs.length * k.toNat ≤ 1000 * 1000 := Nat.mul_le_mul h2 (by omega)
  exact Nat.le_trans this (by decide)
theorem r_sameI {i j : Int} (q : Q (.bl (decide (i = j))) H) : rSame K (.int i) (.int j) H Q := .inl (r_eqI q)
theorem r_sameS {i j : Str} (q : Q (.bl (decide (i = j))) H) : rSame K (.str i) (.str j) H Q := .inl (r_eqS q)
theorem r_unlikeI {i j : Int} (q : Q (.bl (!decide (i = j))) H) : rUnlike K (.int i) (.int j) H Q := .inl (r_neI q)
theorem r_unlikeS {i j : Str} (q : Q (.bl (!decide (i = j))) H) : rUnlike K (.str i) (.str j) H Q := .inl (r_neS q)
theorem r_div {i j : Int} (h : 0 < j) (h' : j < 2 ^ 200) (q : Q (.int (i / j)) H) : rDiv (.int i) (.int j) H Q :=
  ⟨i, j, rfl, rfl, wide_div h (b := 200) (by have e : (j.natAbs : Int) = j := Int.natAbs_of_nonneg (Int.le_of_lt h); exact Int.ofNat_lt.mp (by rw [e]; exact_mod_cast h')) (by decide) (by decide), q⟩
theorem r_mod {i j : Int} (h : 0 < j) (q : Q (.int (i % j)) H) : rMod (.int i) (.int j) H Q := ⟨i, j, rfl, rfl, h, q⟩
theorem r_pow {i j : Int} (h : 0 ≤ j) (h' : j ≤ 1000000) (h2 : i.natAbs < 2 ^ 64) (q : Q (.int (i ^ j.toNat)) H) : rPow (.int i) (.int j) H Q := ⟨i, j, rfl, rfl, ⟨h, h', h2⟩, q⟩
theorem r_lenL {p : Addr} {xs : List V} (h : H p = some (.lst xs)) (q : Q (.int xs.length) H) : rLen K [.ref p] H Q := ⟨_, _, rfl, .inl ⟨xs, SqL.of h, rfl⟩, q⟩
theorem r_lenT {p : Addr} {xs : List V} (h : H p = some (.tup xs)) (q : Q (.int xs.length) H) : rLen K [.ref p] H Q := ⟨_, _, rfl, .inr ⟨xs, SqT.of h, rfl⟩, q⟩
theorem r_lenK {p : Addr} {xs : List V} (h : SqL K H p xs) (q : Q (.int xs.length) H) : rLen K [.ref p] H Q := ⟨_, _, rfl, .inl ⟨xs, h, rfl⟩, q⟩
theorem r_lenS {z : Str} (h : z.length ≤ sizeLine) (q : Q (.int z.length) H) : rLen K [.str z] H Q := ⟨_, _, rfl, ⟨h, rfl⟩, q⟩
theorem r_min2 {i j : Int} (q : Q (.int (if j < i then j else i)) H) : rMin2 [.int i, .int j] H Q := ⟨i, j, rfl, q⟩
theorem r_max2 {i j : Int} (q : Q (.int (if j > i then j else i)) H) : rMax2 [.int i, .int j] H Q := ⟨i, j, rfl, q⟩
theorem r_listL {p : Addr} {xs : List V} (h : H p = some (.lst xs)) (q : ∀ l, H l = none → Q (.ref l) (upd H l (.lst xs))) : rListOf K [.ref p] H Q := ⟨p, xs, rfl, .inl (SqL.of h), q⟩
theorem r_listT {p : Addr} {xs : List V} (h : H p = some (.tup xs)) (q : ∀ l, H l = none → Q (.ref l) (upd H l (.lst xs))) : rListOf K [.ref p] H Q := ⟨p, xs, rfl, .inr (SqT.of h), q⟩
theorem r_tupL {p : Addr} {xs : List V} (h : H p = some (.lst xs)) (q : ∀ l, H l = none → Q (.ref l) (upd H l (.tup xs))) : rTupOf K [.ref p] H Q := ⟨p, xs, rfl, .inl ⟨SqL.of h, q⟩⟩
theorem r_tupT {p : Addr} {xs : List V} (h : H p = some (.tup xs)) (q : Q (.ref p) H) : rTupOf K [.ref p] H Q := ⟨p, xs, rfl, .inr ⟨SqT.of h, q⟩⟩
theorem r_ins {l : Addr} {xs : List V} {i : Int} {y : V} (h : H l = some (.lst xs)) (e : xs.length < 100000) (h0 : 0 ≤ i) (h1 : i < 2 ^ 63)
    (q : Q .non (upd H l (.lst (xs.take i.toNat ++ [y] ++ xs.drop i.toNat)))) : rInsert (.ref l) [.int i, y] H Q := ⟨l, xs, i, y, rfl, rfl, h, Nat.lt_of_lt_of_le e (by decide), h0, h1, q⟩
theorem seq_ix {i : Int} {n : Nat} (h0 : 0 ≤ i) (h1 : i < n) : seqIndex? i n = some i.toNat := by
  have : ixN n i = some i.toNat := by
    unfold ixN
    rw [if_pos h0, if_pos h1]
  exact (ixN_seq this).1
theorem r_popAt {l : Addr} {xs : List V} {i : Int} (h : H l = some (.lst xs)) (h0 : 0 ≤ i) (h1 : i < xs.length) (hs : i < 2 ^ 63)
    (q : ∀ y, xs[i.toNat]? = some y → Q y (upd H l (.lst (xs.eraseIdx i.toNat)))) : rPopAt (.ref l) [.int i] H Q := by
  have hk : i.toNat < xs.length := by omega
  exact ⟨l, xs, i, i.toNat, xs[i.toNat], rfl, rfl, h, by omega, hs, seq_ix h0 h1, List.getElem?_eq_getElem hk, q _ (List.getElem?_eq_getElem hk)⟩
theorem r_upper {z : Str} (h : z.length ≤ 5592405) (q : Q (.str (Txt.upper z)) H) : rUpper (.str z) [] H Q := ⟨z, rfl, rfl, h, q⟩
theorem r_sl {r : V → Option Int → Option Int → Hp → VK → Prop} {te : TE} {tl th : TO} (q : te σ H fun x H1 => tl σ H1 fun l H2 => th σ H2 fun u H3 => r x l u H3 Q) : tSl r te tl th σ H Q := q
theorem r_nopart {Q : Option Int → Hp → Prop} (q : Q none H) : tNoPart σ H Q := q
theorem r_part {t : TE} {Q : Option Int → Hp → Prop} (q : t σ H fun x H1 => ∃ i, x = .int i ∧ Q (some i) H1) : tPart t σ H Q := q
theorem r_isint {i : Int} {Q : Int → Prop} (q : Q i) : ∃ k, V.int i = .int k ∧ Q k := ⟨i, rfl, q⟩
theorem r_cutS {z : Str} {lo hi : Option Int} (h : z.length ≤ sizeLine) (q : Q (.str (cutS z lo hi)) H) : rCut K (.str z) lo hi H Q := .inr (.inr ⟨z, rfl, h, q⟩)
theorem r_cutL {a : Addr} {xs : List V} {lo hi : Option Int} (h : H a = some (.lst xs)) (q : ∀ p, H p = none → Q (.ref p) (upd H p (.lst (cutV xs lo hi)))) : rCut K (.ref a) lo hi H Q :=
  .inl ⟨a, xs, rfl, SqL.of h, q⟩
theorem r_cutT {a : Addr} {xs : List V} {lo hi : Option Int} (h : H a = some (.tup xs))
    (q1 : HT.sIx xs.length 0 lo = 0 ∧ HT.sIx xs.length xs.length hi = xs.length → Q (.ref a) H)
    (q2 : ¬ (HT.sIx xs.length 0 lo = 0 ∧ HT.sIx xs.length xs.length hi = xs.length) → ∀ p, H p = none → Q (.ref p) (upd H p (.tup (cutV xs lo hi)))) : rCut K (.ref a) lo hi H Q :=
  .inr (.inl ⟨a, xs, rfl, SqT.of h, q1, q2⟩)
theorem r_repr {p : Addr} {x : V} {d : PyData} (hd : Dt H p x d) (f : Fit 60 60000 d) (q : Q (.str d.shown) H) : rRepr p [x] H Q := ⟨x, d, rfl, hd, f, q⟩
theorem r_all {a : Addr} {bs : List Bool} (h : H a = some (.lst (bs.map V.bl))) (q : Q (.bl (bs.all id)) H) : rAll K [.ref a] H Q := ⟨a, bs, rfl, SqL.of h, q⟩
theorem r_sorted {a : Addr} {ns : List Int} (h : H a = some (.lst (ns.map V.int))) (e : ns.length < 64)
    (q : ∀ (ns' : List Int) (p : Addr), ns'.Perm ns → ns'.Pairwise (· ≤ ·) → H p = none → Q (.ref p) (upd H p (.lst (ns'.map V.int)))) : rSorted K [.ref a] H Q :=
  ⟨a, ns, rfl, SqL.of h, e, q⟩
end
/-! ### looking things up -/
section
variable {H H' H0 : Hp} {p q : Addr} {o u : HO}
theorem g_new (hq : H q = some u) (n : H p = none) : upd H p o q = some u := by
  rw [upd_ne (ne_of_none hq n)]; exact hq
theorem g_other (ne : q ≠ p) (hq : H q = some u) : upd H p o q = some u := by rw [upd_ne ne]; exact hq
theorem g_same (s : Same H0 H) (hq : H0 q = some u) : H q = some u := s _ _ hq
theorem g_keep (k : Keep p H0 H) (ne : q ≠ p) (hq : H0 q = some u) : H q = some u := k _ _ ne hq
theorem n_new (h : H q = some u) (n : H p = none) : q ≠ p := ne_of_none h n
theorem n_new' (n : H p = none) (h : H q = some u) : p ≠ q := (ne_of_none h n).symm
theorem Keep.free (k : Keep p H0 H) (ne : q ≠ p) (n : H q = none) : H0 q = none := by
  cases e : H0 q with
  | none => rfl
  | some v => rw [k _ _ ne e] at n; cases n
theorem upd_free (n : upd H p o q = none) : q ≠ p ∧ H q = none := by
  by_cases e : q = p
  · rw [e, upd_same] at n; cases n
  · rw [upd_ne e] at n; exact ⟨e, n⟩
end
end Cm
namespace Cm
open PySem PySem.Spec PyProof.Rows L2
theorem at_start {N : List Str} {vs : List V} {σ : L2.St} {t : TS} {D : Ends} {H : Hp} (e : L2.start N vs = σ) (q : t D σ H) : t D (L2.start N vs) H := by
  rw [e]; exact q
theorem pe_gint {X : Cx} {x : Str} {i : Int} {pos : Pos} (hg : Gl X x) (hm : ∃ t, X.mg x = some (.int i t)) (hd : (x == ("__debug__" : Str)) = false := by decide) :
    PE X (.Name x pos) (tC (.int i)) := by
  obtain ⟨t, e⟩ := hm
  exact pe_glob hg e ⟨t, rfl⟩ hd
end Cm
set_option Elab.async false
set_option linter.all false
set_option maxRecDepth 100000
set_option maxHeartbeats 4000000
/-! ## 4. Data within bounds -/
namespace Cm
open PySem PySem.Spec PyProof.Rows L2
mutual
/-- no number above N, all signs plain -/
def okD (N : Nat) : PyData → Bool
  | .int i => decide (i.natAbs ≤ N)
  | .str x => x.cps.toList.all fun c => decide (c < 128)
  | .list xs | .tuple xs => okAll N xs
  | .dict kvs => okKv N kvs
  | .none | .bool _ => true
def okAll (N : Nat) : List PyData → Bool
  | [] => true
  | x :: xs => okD N x && okAll N xs
def okKv (N : Nat) : List (PyData × PyData) → Bool
  | [] => true
  | (a, b) :: r => okD N a && okD N b && okKv N r
end
theorem okAll_iff {N : Nat} : ∀ {ds : List PyData}, okAll N ds = true ↔ ∀ d ∈ ds, okD N d = true
  | [] => by simp [okAll]
  | d :: ds => by simp [okAll, okAll_iff (ds := ds)]
theorem depthAll_iff {m : Nat} : ∀ {ds : List PyData}, PyData.depthAll ds ≤ m ↔ ∀ d ∈ ds, d.depth ≤ m
  | [] => by simp [PyData.depthAll]
  | d :: ds => by
    have := depthAll_iff (m := m) (ds := ds)
    simp only [PyData.depthAll, List.mem_cons, forall_eq_or_imp, ← this]
    omega
theorem bulkAll_append : ∀ (a b : List PyData), PyData.bulkAll (a ++ b) = PyData.bulkAll a + PyData.bulkAll b
  | [], b => by simp [PyData.bulkAll]
  | x :: a, b => by
    have := bulkAll_append a b
    simp only [List.cons_append, PyData.bulkAll, this]
    omega
theorem bulkAll_mem : ∀ {ds : List PyData} {d : PyData}, d ∈ ds → d.bulk + 1 ≤ PyData.bulkAll ds
  | x :: ds, d, h => by
    simp only [PyData.bulkAll]
    rcases List.mem_cons.mp h with e | h
    · rw [e]; omega
    · have := bulkAll_mem h; omega
theorem bulkAll_set : ∀ {ds : List PyData} {i : Nat} {d e : PyData}, ds[i]? = some d → PyData.bulkAll (ds.set i e) + d.bulk = PyData.bulkAll ds + e.bulk
  | [], i, d, e, h => by simp at h
  | x :: ds, 0, d, e, h => by
    have h' : x = d := Option.some.inj h
    subst h'
    simp only [List.set_cons_zero, PyData.bulkAll]; omega
  | x :: ds, i + 1, d, e, h => by
    have := bulkAll_set (ds := ds) (i := i) (d := d) (e := e) h
    simp only [List.set_cons_succ, PyData.bulkAll]; omega
theorem bulkAll_erase : ∀ (ds : List PyData) (i : Nat), PyData.bulkAll (ds.eraseIdx i) ≤ PyData.bulkAll ds
  | [], i => by simp [PyData.bulkAll]
  | x :: ds, 0 => by simp only [List.eraseIdx_cons_zero, PyData.bulkAll]; omega
  | x :: ds, i + 1 => by
    have := bulkAll_erase ds i
    simp only [List.eraseIdx_cons_succ, PyData.bulkAll]; omega
theorem bulkAll_take_drop (ds : List PyData) (i : Nat) : PyData.bulkAll (ds.take i) + PyData.bulkAll (ds.drop i) = PyData.bulkAll ds := by
  rw [← bulkAll_append, List.take_append_drop]
theorem bulkAll_reverse : ∀ (ds : List PyData), PyData.bulkAll ds.reverse = PyData.bulkAll ds
  | [] => rfl
  | x :: ds => by
    rw [List.reverse_cons, bulkAll_append, bulkAll_reverse ds]
    simp only [PyData.bulkAll]; omega
theorem bulk_length : ∀ (ds : List PyData), ds.length ≤ PyData.bulkAll ds
  | [] => Nat.le_refl _
  | x :: ds => by
    have := bulk_length ds
    simp only [List.length_cons, PyData.bulkAll]; omega
/-- within bounds: numbers, depth, size -/
structure Ft (N m b : Nat) (d : PyData) : Prop where
  ok : okD N d = true
  dp : d.depth ≤ m
  bk : d.bulk ≤ b
structure FtAll (N m b : Nat) (ds : List PyData) : Prop where
  ok : ∀ d ∈ ds, okD N d = true
  dp : ∀ d ∈ ds, d.depth ≤ m
  bk : PyData.bulkAll ds ≤ b
theorem okD_mono {N M : Nat} (h : N ≤ M) : ∀ d : PyData, okD N d = true → okD M d = true := by
  intro d
  refine PyData.rec (motive_1 := fun d => okD N d = true → okD M d = true) (motive_2 := fun ds => okAll N ds = true → okAll M ds = true)
    (motive_3 := fun kvs => okKv N kvs = true → okKv M kvs = true) (motive_4 := fun p => okD N p.1 = true ∧ okD N p.2 = true → okD M p.1 = true ∧ okD M p.2 = true)
    ?_ ?_ ?_ ?_ ?_ ?_ ?_ ?_ ?_ ?_ ?_ ?_ d
  · intro _; rfl
  · intro _ _; rfl
  · intro i h'
    simp only [okD, decide_eq_true_eq] at *; omega
  · intro x h'
    simp only [okD] at *; exact h'
  · intro xs ih h'
    simp only [okD] at *; exact ih h'
  · intro xs ih h'
    simp only [okD] at *; exact ih h'
  · intro xs ih h'
    simp only [okD] at *; exact ih h'
  · intro _; rfl
  · intro x xs i1 i2 h'
    simp only [okAll, Bool.and_eq_true] at *; exact ⟨i1 h'.1, i2 h'.2⟩
  · intro _; rfl
  · intro x xs i1 i2 h'
    obtain ⟨a, b⟩ := x
    simp only [okKv, Bool.and_eq_true] at *
    exact ⟨i1 h'.1, i2 h'.2⟩
  · intro a b i1 i2 h'
    exact ⟨i1 h'.1, i2 h'.2⟩
theorem Ft.mono {N M m n b c : Nat} {d : PyData} (f : Ft N m b d) (h1 : N ≤ M) (h2 : m ≤ n) (h3 : b ≤ c) : Ft M n c d :=
  ⟨okD_mono h1 _ f.ok, Nat.le_trans f.dp h2, Nat.le_trans f.bk h3⟩
theorem FtAll.mono {N M m n b c : Nat} {ds : List PyData} (f : FtAll N m b ds) (h1 : N ≤ M) (h2 : m ≤ n) (h3 : b ≤ c) : FtAll M n c ds :=
  ⟨fun d h => okD_mono h1 _ (f.ok d h), fun d h => Nat.le_trans (f.dp d h) h2, Nat.le_trans f.bk h3⟩
theorem Ft.all {N m b : Nat} {ds : List PyData} (f : Ft N (m + 1) b (.tuple ds)) : FtAll N m b ds := by
  obtain ⟨h1, h2, h3⟩ := f
  simp only [okD, PyData.depth, PyData.bulk] at *
  exact ⟨okAll_iff.mp h1, depthAll_iff.mp (by omega), h3⟩
theorem Ft.allL {N m b : Nat} {ds : List PyData} (f : Ft N (m + 1) b (.list ds)) : FtAll N m b ds := by
  obtain ⟨h1, h2, h3⟩ := f
  simp only [okD, PyData.depth, PyData.bulk] at *
  exact ⟨okAll_iff.mp h1, depthAll_iff.mp (by omega), h3⟩
theorem Ft.tup_pos {N m b : Nat} {ds : List PyData} (f : Ft N m b (.tuple ds)) : 0 < m := by
  have := f.dp
  simp only [PyData.depth] at this; omega
theorem FtAll.tup {N m b : Nat} {ds : List PyData} (f : FtAll N m b ds) : Ft N (m + 1) b (.tuple ds) := by
  refine ⟨?_, ?_, ?_⟩
  · simp only [okD]; exact okAll_iff.mpr f.ok
  · simp only [PyData.depth]; have := depthAll_iff.mpr f.dp; omega
  · simp only [PyData.bulk]; exact f.bk
theorem FtAll.lst {N m b : Nat} {ds : List PyData} (f : FtAll N m b ds) : Ft N (m + 1) b (.list ds) := by
  refine ⟨?_, ?_, ?_⟩
  · simp only [okD]; exact okAll_iff.mpr f.ok
  · simp only [PyData.depth]; have := depthAll_iff.mpr f.dp; omega
  · simp only [PyData.bulk]; exact f.bk
theorem FtAll.mem {N m b : Nat} {ds : List PyData} {d : PyData} (f : FtAll N m b ds) (h : d ∈ ds) : Ft N m (b - 1) d :=
  ⟨f.ok d h, f.dp d h, by have := bulkAll_mem h; have := f.bk; omega⟩
theorem FtAll.nil {N m b : Nat} : FtAll N m b [] := ⟨(fun _ h => nomatch h), (fun _ h => nomatch h), Nat.zero_le _⟩
theorem FtAll.cons {N m b c : Nat} {d : PyData} {ds : List PyData} (f : Ft N m b d) (g : FtAll N m c ds) : FtAll N m (b + 1 + c) (d :: ds) := by
  refine ⟨fun e h => ?_, fun e h => ?_, ?_⟩
  · rcases List.mem_cons.mp h with h | h
    · rw [h]; exact f.ok
    · exact g.ok e h
  · rcases List.mem_cons.mp h with h | h
    · rw [h]; exact f.dp
    · exact g.dp e h
  · have := f.bk; have := g.bk
    simp only [PyData.bulkAll]; omega
theorem FtAll.append {N m b c : Nat} {ds es : List PyData} (f : FtAll N m b ds) (g : FtAll N m c es) : FtAll N m (b + c) (ds ++ es) := by
  refine ⟨fun e h => ?_, fun e h => ?_, ?_⟩
  · rcases List.mem_append.mp h with h | h
    · exact f.ok e h
    · exact g.ok e h
  · rcases List.mem_append.mp h with h | h
    · exact f.dp e h
    · exact g.dp e h
  · rw [bulkAll_append]; have := f.bk; have := g.bk; omega
theorem FtAll.sub {N m b : Nat} {ds es : List PyData} (f : FtAll N m b ds) (h : ∀ d ∈ es, d ∈ ds) (hb : PyData.bulkAll es ≤ PyData.bulkAll ds) : FtAll N m b es :=
  ⟨fun e he => f.ok e (h e he), fun e he => f.dp e (h e he), Nat.le_trans hb f.bk⟩
theorem FtAll.take {N m b : Nat} {ds : List PyData} (f : FtAll N m b ds) (i : Nat) : FtAll N m b (ds.take i) :=
  f.sub (fun d h => List.mem_of_mem_take h) (by have := bulkAll_take_drop ds i; omega)
theorem FtAll.drop {N m b : Nat} {ds : List PyData} (f : FtAll N m b ds) (i : Nat) : FtAll N m b (ds.drop i) :=
  f.sub (fun d h => List.mem_of_mem_drop h) (by have := bulkAll_take_drop ds i; omega)
theorem FtAll.erase {N m b : Nat} {ds : List PyData} (f : FtAll N m b ds) (i : Nat) : FtAll N m b (ds.eraseIdx i) :=
  f.sub (fun d h => List.mem_of_mem_eraseIdx h) (bulkAll_erase ds i)
theorem FtAll.reverse {N m b : Nat} {ds : List PyData} (f : FtAll N m b ds) : FtAll N m b ds.reverse :=
  f.sub (fun d h => List.mem_reverse.mp h) (by rw [bulkAll_reverse]; exact Nat.le_refl _)
theorem FtAll.insert {N m b c : Nat} {ds : List PyData} {d : PyData} (f : FtAll N m b ds) (g : Ft N m c d) (i : Nat) : FtAll N m (b + c + 1) (ds.take i ++ [d] ++ ds.drop i) := by
  refine ⟨fun e h => ?_, fun e h => ?_, ?_⟩
  · simp only [List.mem_append, List.mem_singleton] at h
    rcases h with (h | h) | h
    · exact f.ok e (List.mem_of_mem_take h)
    · rw [h]; exact g.ok
    · exact f.ok e (List.mem_of_mem_drop h)
  · simp only [List.mem_append, List.mem_singleton] at h
    rcases h with (h | h) | h
    · exact f.dp e (List.mem_of_mem_take h)
    · rw [h]; exact g.dp
    · exact f.dp e (List.mem_of_mem_drop h)
  · rw [bulkAll_append, bulkAll_append]
    have h1 := bulkAll_take_drop ds i
    have h2 := f.bk
    have h3 := g.bk
    simp only [PyData.bulkAll]; omega
theorem FtAll.set {N m b c : Nat} {ds : List PyData} {d e : PyData} {i : Nat} (f : FtAll N m b ds) (h : ds[i]? = some d) (g : Ft N m c e) (hc : c ≤ d.bulk + b + 20) : FtAll N m (2 * b + 20) (ds.set i e) := by
  refine ⟨fun x hx => ?_, fun x hx => ?_, ?_⟩
  · rcases List.mem_or_eq_of_mem_set hx with q | q
    · exact f.ok x q
    · rw [q]; exact g.ok
  · rcases List.mem_or_eq_of_mem_set hx with q | q
    · exact f.dp x q
    · rw [q]; exact g.dp
  · have h1 := bulkAll_set (e := e) h
    have h2 := f.bk
    have h3 := g.bk
    omega
theorem Ft.int {N m b : Nat} {i : Int} (h : i.natAbs ≤ N) : Ft N m b (.int i) := ⟨by simp [okD, h], Nat.zero_le _, Nat.zero_le _⟩
theorem Ft.bl {N m b : Nat} {i : Bool} : Ft N m b (.bool i) := ⟨rfl, Nat.zero_le _, Nat.zero_le _⟩
theorem Ft.non {N m b : Nat} : Ft N m b .none := ⟨rfl, Nat.zero_le _, Nat.zero_le _⟩
theorem Ft.str {N m b : Nat} {x : Str} (h : ∀ c ∈ x.cps.toList, c < 128) (hb : x.length ≤ b) : Ft N m b (.str x) :=
  ⟨by simpa only [okD, List.all_eq_true, decide_eq_true_eq] using h, Nat.zero_le _, hb⟩
theorem leaf_int {i : Int} {N : Nat} (h : i.natAbs ≤ N) (hN : N < 2 ^ 200) : (PyData.shown (.int i)).length ≤ 250 ∧ i.natAbs.log2 < 1920 := by
  have h1 : i.natAbs < 2 ^ 200 := Nat.lt_of_le_of_lt h hN
  have h2 : i.natAbs.log2 < 200 := PySem.Flt.log2_lt_of (by decide) h1
  have h3 := int_text_length_le (a := i) (k := 200) (by decide) h2
  refine ⟨?_, by omega⟩
  simp only [PyData.shown]
  rw [show ((toString i : String) : Str).length = (toString i).length from PySem.ofString_length _]
  omega
theorem ok_leaves {N : Nat} (hN : N < 2 ^ 200) (d : PyData) : okD N d = true → d.leavesShort 250 = true ∧ d.showable = true := by
  refine PyData.rec (motive_1 := fun d => okD N d = true → d.leavesShort 250 = true ∧ d.showable = true) (motive_2 := fun ds => okAll N ds = true → PyData.leavesShortAll 250 ds = true ∧ PyData.showableAll ds = true)
    (motive_3 := fun kvs => okKv N kvs = true → PyData.leavesShortKv 250 kvs = true ∧ PyData.showableKv kvs = true)
    (motive_4 := fun p => okD N p.1 = true ∧ okD N p.2 = true → (p.1.leavesShort 250 = true ∧ p.1.showable = true) ∧ (p.2.leavesShort 250 = true ∧ p.2.showable = true))
    ?_ ?_ ?_ ?_ ?_ ?_ ?_ ?_ ?_ ?_ ?_ ?_ d
  · intro _; exact ⟨rfl, rfl⟩
  · intro _ _; exact ⟨rfl, rfl⟩
  · intro i h'
    simp only [okD, decide_eq_true_eq] at h'
    have := leaf_int h' hN
    simp only [PyData.leavesShort, PyData.showable, decide_eq_true_eq]
    exact this
  · intro x h'
    simp only [okD, List.all_eq_true, decide_eq_true_eq] at h'
    refine ⟨?_, rfl⟩
    simp only [PyData.leavesShort, List.all_eq_true, decide_eq_true_eq]
    intro c hc
    exact Nat.lt_trans (h' c hc) (by decide)
  · intro xs ih h'
    simp only [okD] at h'
    simp only [PyData.leavesShort, PyData.showable]; exact ih h'
  · intro xs ih h'
    simp only [okD] at h'
    simp only [PyData.leavesShort, PyData.showable]; exact ih h'
  · intro xs ih h'
    simp only [okD] at h'
    simp only [PyData.leavesShort, PyData.showable]; exact ih h'
  · intro _; exact ⟨rfl, rfl⟩
  · intro x xs i1 i2 h'
    simp only [okAll, Bool.and_eq_true] at h'
    simp only [PyData.leavesShortAll, PyData.showableAll, Bool.and_eq_true]
    exact ⟨⟨(i1 h'.1).1, (i2 h'.2).1⟩, (i1 h'.1).2, (i2 h'.2).2⟩
  · intro _; exact ⟨rfl, rfl⟩
  · intro x xs i1 i2 h'
    obtain ⟨a, b⟩ := x
    simp only [okKv, Bool.and_eq_true] at h'
    simp only [PyData.leavesShortKv, PyData.showableKv, Bool.and_eq_true]
    have q1 := i1 h'.1
    have q2 := i2 h'.2
    exact ⟨⟨⟨q1.1.1, q1.2.1⟩, q2.1⟩, ⟨q1.1.2, q1.2.2⟩, q2.2⟩
  · intro a b i1 i2 h'
    exact ⟨i1 h'.1, i2 h'.2⟩
theorem Ft.fit {N m b : Nat} {d : PyData} (f : Ft N m b d) (hN : N < 2 ^ 200) (hm : m ≤ 60) (hb : b ≤ 60000) : Fit 60 60000 d :=
  have h := ok_leaves hN d f.ok
  ⟨h.1, h.2, Nat.le_trans f.dp hm, Nat.le_trans f.bk hb⟩
end Cm
set_option Elab.async false
set_option linter.all false
set_option maxRecDepth 100000
set_option maxHeartbeats 4000000
/-! ## 5. Tuples: == with the empty one, times 0 and 1, turned about -/
namespace Cm
open PySem PySem.Spec PyProof.Rows L2
section
variable {X : Cx}
/-- t == () -/
def rEqNo : R2 := fun x y H Q => ∃ a b xs, x = .ref a ∧ y = .ref b ∧ H a = some (.tup xs) ∧ H b = some (.tup []) ∧ Q (.bl (decide (xs = []))) H
theorem IsTup.isTuple' {h : Heap} {a : Addr} {its : Array Value} (t : IsTup h a its) : h.IsTuple a its := t
theorem op_eqNo (hu : X.A.units + 64 < cLine) : OpR X (compareOp .Eq) rEqNo := by
  intro pins s σ H x y v u Q I rx ry h
  obtain ⟨a, b, xs, rfl, rfl, ha, hb, q⟩ := h
  cases rx
  cases ry
  obtain ⟨its, r1, p1, _⟩ := I.tuple (SqT.of ha)
  obtain ⟨its2, r2, p2, _⟩ := I.tuple (SqT.of hb)
  cases r2
  refine SeqAt.eq_tupleAt (e := fun _ => true) (IsTup.isTuple' p1) (IsTup.isTuple' p2) (by omega) (fun j _ h2 => absurd h2 (Nat.not_lt_zero _)) ?_
  refine ⟨.bl (decide (xs = [])), H, I, ?_, q⟩
  show Value.bool _ = Value.bool _
  have e : its.length = xs.length := r1.length.symm
  cases xs with
  | nil =>
    have : its = [] := List.eq_nil_of_length_eq_zero e
    subst this
    rfl
  | cons y ys =>
    cases its with
    | nil => cases e
    | cons z zs => simp
/-- t * 0, t * 1 -/
def rRepT01 : R2 := fun x y H Q => ∃ l k xs, x = .ref l ∧ y = .int k ∧ H l = some (.tup xs) ∧ xs ≠ [] ∧
  ((k = 0 ∧ ∀ p, H p = none → Q (.ref p) (upd H p (.tup []))) ∨ (k = 1 ∧ Q (.ref l) H))
theorem tuple_mul0 (l : Addr) (items : Array Value) (n : Nat) (dd : Option Addr) (sl : Array (Option Value)) (u : Tok) (c1 : items.isEmpty = false) :
    Meets (Builtin.«tuple.__mul__» ⟨[.ref l, .int 0 u], []⟩) (fun _ R s => s.heap.get? l = some { cls := .type "tuple", dict := dd, data := .seq items n, slots := sl } ∧
      R (.ok (.ret (Value.ref s.heap.objs.size))) { s with heap := s.heap.push { cls := Value.type "tuple", data := Data.seq #[] }, toks := s.toks }) :=
  .of_wp fun prog w A R s h => by
    obtain ⟨hp, g, d, tk, os⟩ := s
    obtain ⟨hl, h⟩ := h
    have f1 := AutoSeq1.idx_int
    wp_walk using wpAny_loadPart' hl
    repeat (first
      | (refine wpAny_ite_false (decide_eq_false (by first | decide | simp [c1])) ?_; wp_walk using wpAny_loadPart' hl)
      | (refine wpAny_ite_true (decide_eq_true (by first | decide | simp [c1])) ?_; wp_walk using wpAny_loadPart' hl))
    exact ⟨_, rfl, h⟩
theorem tuple_mul1 (l : Addr) (items : Array Value) (n : Nat) (dd : Option Addr) (sl : Array (Option Value)) (u : Tok) :
    Meets (Builtin.«tuple.__mul__» ⟨[.ref l, .int 1 u], []⟩) (fun _ R s => s.heap.get? l = some { cls := .type "tuple", dict := dd, data := .seq items n, slots := sl } ∧
      R (.ok (.ret (Value.ref l))) { s with toks := s.toks }) :=
  .of_wp fun prog w A R s h => by
    obtain ⟨hp, g, d, tk, os⟩ := s
    obtain ⟨hl, h⟩ := h
    have f1 := AutoSeq1.idx_int
    wp_walk using wpAny_loadPart' hl
    repeat (first
      | (refine wpAny_ite_false (decide_eq_false (by first | decide | simp)) ?_; wp_walk using wpAny_loadPart' hl)
      | (refine wpAny_ite_true (decide_eq_true (by first | decide | simp)) ?_; wp_walk using wpAny_loadPart' hl))
    exact ⟨_, rfl, h⟩
theorem op_repT01 : OpR X (binaryOp .Mult) rRepT01 := by
  intro pins s σ H x y v u Q I rx ry h
  obtain ⟨l, k, xs, rfl, rfl, hT, hne, hk⟩ := h
  cases rx
  obtain ⟨t, rfl⟩ := ry
  obtain ⟨its, r, ⟨⟨cls, dd, data, sl⟩, ho, hc, n, hd⟩, hs⟩ := I.tuple (SqT.of hT)
  simp only at hc hd
  subst hc hd
  have hi : its.toArray.isEmpty = false := by
    cases its with
    | nil =>
      cases r
      exact absurd rfl hne
    | cons a b => rfl
  rcases hk with ⟨rfl, q⟩ | ⟨rfl, q⟩
  · refine wpAny_binaryOp_repeat_ref (T := "tuple") (U := "int") (by decide) ⟨_, ho, rfl⟩ (fun s' => typeIs_int s' 0 t) noFill_tuple_mul F.fills_int_mul F.slot_int_rmul repeat_tuple F.slot_int_index.lookup
      (call_meets F.slot_int_rmul (typeIs_int s 0 t) F.entry_int_rmul (F.args_int_rmul_2 _ _) (int_rmul_tuple 0 t l its.toArray n dd sl)
        ⟨ho, rfl, ⟨_, ho, rfl⟩, call_meets F.slot_tuple_mul ⟨_, ho, rfl⟩ F.entry_tuple_mul (F.args_tuple_mul_2 _ _) (tuple_mul0 l its.toArray n dd sl t hi) ⟨ho, ?_⟩⟩)
    refine ⟨.ref s.heap.objs.size, _, I.laid (t' := s.toks) (o := .tup []) (fun b ob q => Heap.get?_push_of_some _ q) (Nat.le_refl _) ?_, rfl, q _ (I.hok.fresh (Nat.le_refl _))⟩
    exact ⟨Nat.zero_le _, [], .nil, IsTup.new _ _⟩
  · refine wpAny_binaryOp_repeat_ref (T := "tuple") (U := "int") (by decide) ⟨_, ho, rfl⟩ (fun s' => typeIs_int s' 1 t) noFill_tuple_mul F.fills_int_mul F.slot_int_rmul repeat_tuple F.slot_int_index.lookup
      (call_meets F.slot_int_rmul (typeIs_int s 1 t) F.entry_int_rmul (F.args_int_rmul_2 _ _) (int_rmul_tuple 1 t l its.toArray n dd sl)
        ⟨ho, rfl, ⟨_, ho, rfl⟩, call_meets F.slot_tuple_mul ⟨_, ho, rfl⟩ F.entry_tuple_mul (F.args_tuple_mul_2 _ _) (tuple_mul1 l its.toArray n dd sl t) ⟨ho, ?_⟩⟩)
    exact ⟨.ref l, H, I.tok _, rfl, q⟩
/-! ### t[::-1] -/
theorem turned_applied {A : Around} {E : Value → Shared → Prop} {s : Shared} {sl : Addr} {vs : Value} {n : Nat} {Q : Int × Int × Nat → Shared → Prop} (hs : s.heap.IsSliceOf sl .none .none vs) (ps : IsPart vs (some (-1)))
    (h : Q ((n : Int) - 1, -1, n) s) : wpAny (model X.prog X.w) A (Builtin.Slice.sliceApplied (.ref sl) (pure (n : Int))) Q E s := by
  obtain ⟨os, hos, hcs, hds⟩ := id hs
  unfold Builtin.Slice.sliceApplied Builtin.Slice.sliceFields
  refine wpAny_bind (wpAny_bind (wpAny_field hos hds (x := .none) rfl (wpAny_bind (wpAny_field hos hds (x := .none) rfl (wpAny_bind (wpAny_field hos hds (x := vs) rfl (wpAny_pure ?_)))))))
  refine wpAny_bind (HT.slicePart_ ps ?_)
  show wpAny _ _ (if ((-1 : Int) == 0) = true then _ else _) _ _ s
  rw [if_neg (by decide)]
  refine wpAny_bind (HT.slicePart_ .none (wpAny_bind (HT.slicePart_ .none (wpAny_bind (wpAny_pure ?_)))))
  have e : Builtin.Slice.slicePlaces ((n : Int) - 1) (-1) (-1) = n := by
    unfold Builtin.Slice.slicePlaces
    rw [if_neg (by decide)]
    by_cases h0 : n = 0
    · subst h0; decide
    · rw [if_pos (by omega)]
      have : ((n : Int) - 1 - (-1) - 1) / (-(-1)) + 1 = (n : Int) := by
        rw [show (-(-1) : Int) = 1 from rfl, Int.ediv_one]; omega
      rw [this]; simp
  show wpAny _ _ (pure ((n : Int) - 1, (-1 : Int), Builtin.Slice.slicePlaces ((n : Int) - 1) (-1) (-1))) _ _ s
  rw [e]
  exact wpAny_pure h
theorem turned_pick (xs : List Value) : ((List.range xs.toArray.size).filterMap fun (k : Nat) => xs.toArray[(((xs.toArray.size : Nat) : Int) - 1 + (k : Int) * (-1)).toNat]?).toArray = xs.reverse.toArray := by
  congr 1
  rw [List.size_toArray]
  have g : ∀ (ys : List Value), (List.range ys.length).filterMap (fun k => ys[k]?) = ys := by
    intro ys
    induction ys with
    | nil => rfl
    | cons y ys ih =>
      rw [List.length_cons, List.range_succ_eq_map, List.filterMap_cons]
      simp only [List.getElem?_cons_zero, List.filterMap_map]
      congr 1
  have h := g xs.reverse
  rw [List.length_reverse] at h
  rw [← h]
  have cong : ∀ (l : List Nat) (f g : Nat → Option Value), (∀ k ∈ l, f k = g k) → l.filterMap f = l.filterMap g := by
    intro l f g e
    induction l with
    | nil => rfl
    | cons a l ih =>
      have e1 := e a List.mem_cons_self
      have e2 := ih fun k hk => e k (List.mem_cons_of_mem _ hk)
      simp only [List.filterMap_cons, e1, e2]
  refine cong _ _ _ fun k hk => ?_
  have hk' : k < xs.length := List.mem_range.mp hk
  rw [List.getElem?_reverse hk']
  have : (((xs.length : Nat) : Int) - 1 + (k : Int) * (-1)).toNat = xs.length - 1 - k := by omega
  rw [this]
  simp
theorem getItem_turned {A : Around} {E : Value → Shared → Prop} {s : Shared} {t sl : Addr} {items : List Value} {vs : Value} {Q : Value → Shared → Prop} (ht : IsTup s.heap t items.toArray) (hs : s.heap.IsSliceOf sl .none .none vs) (ps : IsPart vs (some (-1)))
    (h : Q (.ref s.heap.objs.size) { s with heap := s.heap.push { cls := .type "tuple", data := .seq items.reverse.toArray } })
    (hsz : items.length ≤ sizeLine) : wpAny (model X.prog X.w) A (getItem (.ref t) (.ref sl)) Q E s := by
  have room : sizeOk (.seq items.reverse.toArray) := by
    show items.reverse.toArray.size ≤ sizeLine
    rw [List.size_toArray, List.length_reverse]; exact hsz
  obtain ⟨os, hos, hcs, hds⟩ := id hs
  have hTs : s.TypeIs (.ref sl) "slice" := ⟨os, hos, hcs⟩
  unfold getItem
  try with_reducible refine wpAny_holding ?_
  first | refine wpAny_bind (wpAny_pure ?_) | skip
  refine wpAny_bind (wpAny_sequenceKey ht.typeIs (by decide) ?_)
  refine wpAny_bind (wpAny_callSpecial?_slot (name := Str.ofString "__getitem__") ht.typeIs PyProof.Rows.slot_tuple_getitem
    (wpAny_call_entry PyProof.Rows.slot_tuple_getitem ht.typeIs entry_tuple_getitem ?_ (args_tuple_getitem _ _)))
  show wpAny _ _ (Builtin.Tuple.tupleItemsOf (.ref t) >>= _) _ _ s
  refine wpAny_bind (tupleItemsOf_ ht ?_)
  refine wpAny_bind (wpAny_typeOf hTs ?_)
  rw [if_pos (by decide)]
  refine wpAny_bind (turned_applied (X := X) hs ps ?_)
  show wpAny _ _ (if ((((items.toArray.size : Nat) : Int) - 1 == 0) && ((-1 : Int) == 1) && (items.toArray.size == items.toArray.size)) = true then _ else _) _ _ s
  rw [if_neg (by simp), turned_pick]
  first
    | exact wpAny_bind (m := Builtin.Tuple.tupleExact _) (wpAny_newObj_type (wpAny_pure ⟨_, rfl, wpAny_pure h⟩) room)
    | exact wpAny_bind (m := Builtin.Tuple.tupleExact _) (wpAny_newObj_type (wpAny_bind (wpAny_pure (wpAny_pure ⟨_, rfl, wpAny_pure h⟩))) room)
    | exact wpAny_bind (wpAny_bind (m := Builtin.Tuple.tupleExact _) (wpAny_newObj_type (wpAny_pure (wpAny_pure ⟨_, rfl, wpAny_pure h⟩)) room))
    | exact wpAny_bind (wpAny_bind (m := Builtin.Tuple.tupleExact _) (wpAny_newObj_type (wpAny_pure ⟨_, rfl, wpAny_pure h⟩) room))
def tRevT (te : TE) : TE := fun σ H Q => te σ H fun x H1 => ∃ a xs, x = .ref a ∧ H1 a = some (.tup xs) ∧ ∀ p, H1 p = none → Q (.ref p) (upd H1 p (.tup xs.reverse))
theorem pe_rev {e : Expr} {te : TE} {k : Nat} {p1 p2 p3 pos : Pos} (he : PE X e te) : PE X (.Subscript e (.Slice none none (some (.UnaryOp .USub (.Constant (.int 1) k p1) p2)) p3) pos) (tRevT te) := by
  constructor
  intro pins s σ H Q I h
  refine Subscript_ (thn (he.run pins s σ H _ I h) ?_)
  rintro v s1 ⟨x, H1, I1, r1, a, xs, ex, hx, q⟩
  subst ex
  cases r1
  have hst : PO X (some (.UnaryOp .USub (.Constant (.int 1) k p1) p2)) (tPart (tUn (rU fun i => .int (-i)) (tC (.int 1)))) := po_some (pe_un un_neg pe_int)
  refine wpAny_Slice (thn (po_none.run pins s1 σ H1 (fun o H2 => o = none ∧ H2 = H1) I1 ⟨rfl, rfl⟩) ?_)
  rintro vl s2 ⟨l, H2, I2, pl, el, e2⟩
  subst el e2
  refine thn (po_none.run pins s2 σ H2 (fun o H3 => o = none ∧ H3 = H2) I2 ⟨rfl, rfl⟩) ?_
  rintro vu s3 ⟨u, H3, I3, pu, eu, e3⟩
  subst eu e3
  refine thn (hst.run pins s3 σ H3 (fun o H4 => o = some (-1) ∧ H4 = H3) I3 ⟨1, rfl, -1, rfl, rfl, rfl⟩) ?_
  rintro vs s4 ⟨o, H4, I4, ps, eo, e4⟩
  subst eo e4
  cases pl
  cases pu
  have I5 : Inv X pins σ H4 { s4 with heap := s4.heap.push { cls := .type "slice", data := .fields #[.none, .none, vs] } } :=
    I4.kept (t' := s4.toks) fun b ob q => Heap.get?_push_of_some _ q
  obtain ⟨its, r, ht, hz⟩ := I5.tuple (SqT.of hx)
  have hlen := r.length
  show wpAny (model X.prog X.w) X.A (subscriptTail e (.Slice none none (some (.UnaryOp .USub (.Constant (.int 1) k p1) p2)) p3) (.ref a) (.ref s4.heap.objs.size)) (EP X pins σ Q) X.xe _
  refine tail_any (ops := [.ref a, .ref s4.heap.objs.size]) ht.typeIs (PyProof.Rows.slot_tuple_getitem.lookup) ?_ (by with_unfolding_all rfl)
  refine getItem_turned ht (Heap.IsSliceOf.new _ _ _ vs) ps ?_ (by omega)
  refine ⟨.ref _, _, I5.laid (t' := s4.toks) (o := .tup xs.reverse) (fun b ob q => Heap.get?_push_of_some _ q) (Nat.le_refl _) ?_, rfl, q _ (I5.hok.fresh (Nat.le_refl _))⟩
  exact ⟨by rw [List.length_reverse]; exact hz, _, r.reverse, IsTup.new _ _⟩
end
section
variable {K : PySem.W.Frag} {H : Hp} {Q : VK} {σ : L2.St}
theorem r_rev {te : TE} (q : te σ H fun x H1 => ∃ a xs, x = .ref a ∧ H1 a = some (.tup xs) ∧ ∀ p, H1 p = none → Q (.ref p) (upd H1 p (.tup xs.reverse))) : tRevT te σ H Q := q
theorem r_isT {a : Addr} {xs : List V} {P : Addr → List V → Prop} (h : H a = some (.tup xs)) (q : P a xs) : ∃ b ys, V.ref a = .ref b ∧ H b = some (.tup ys) ∧ P b ys := ⟨a, xs, rfl, h, q⟩
theorem r_eqNo {a b : Addr} {xs : List V} (h : H a = some (.tup xs)) (h' : H b = some (.tup [])) (q : Q (.bl (decide (xs = []))) H) : rEqNo (.ref a) (.ref b) H Q := ⟨a, b, xs, rfl, rfl, h, h', q⟩
end
end Cm
namespace Cm
open PySem PySem.Spec PyProof.Rows L2
section
variable {K : PySem.W.Frag} {H : Hp} {Q : VK} {σ : L2.St}
theorem r_dnew (q : ∀ p, H p = none → Q (.ref p) (upd H p (.dK []))) : tDNewK σ H Q := q
theorem r_disp1 {i j : Int} (q : ∀ p, H p = none → Q (.ref p) (upd H p (.dK [(Sum.inl i, .int j)]))) : tDisp [(tC (.int i), tC (.int j))] σ H Q := by
  intro p hp
  refine ⟨upd_same, [(Sum.inl i, .int j)], rfl, (by show 1 ≤ 15; decide), ?_⟩
  rw [upd_upd]
  exact q p hp
end
end Cm
namespace Cm
open PySem PySem.Spec PyProof.Rows L2
section
variable {K : PySem.W.Frag} {H : Hp} {Q : VK} {p : Addr} {x y z v : V} {xs : List V} {R : Hp → Prop}
theorem r_ixL0 (h : H p = some (.lst (x :: xs))) (q : Q x H) : rIx K (.ref p) (.int 0) H Q := r_ixL h (atI_nat (j := 0) rfl) q
theorem r_ixL1 (h : H p = some (.lst (x :: y :: xs))) (q : Q y H) : rIx K (.ref p) (.int 1) H Q := r_ixL h (atI_nat (j := 1) rfl) q
theorem r_ixL2 (h : H p = some (.lst (x :: y :: z :: xs))) (q : Q z H) : rIx K (.ref p) (.int 2) H Q := r_ixL h (atI_nat (j := 2) rfl) q
theorem r_ixT0 (h : H p = some (.tup (x :: xs))) (q : Q x H) : rIx K (.ref p) (.int 0) H Q := r_ixT h (atI_nat (j := 0) rfl) q
theorem r_ixT1 (h : H p = some (.tup (x :: y :: xs))) (q : Q y H) : rIx K (.ref p) (.int 1) H Q := r_ixT h (atI_nat (j := 1) rfl) q
theorem r_ixT2 (h : H p = some (.tup (x :: y :: z :: xs))) (q : Q z H) : rIx K (.ref p) (.int 2) H Q := r_ixT h (atI_nat (j := 2) rfl) q
theorem r_setL0 (h : H p = some (.lst (x :: xs))) (q : R (upd H p (.lst (v :: xs)))) : rSetL (.ref p) (.int 0) v H R :=
  r_setAt h (by decide) (by simp only [List.length_cons]; omega) q
theorem r_setL1 (h : H p = some (.lst (x :: y :: xs))) (q : R (upd H p (.lst (x :: v :: xs)))) : rSetL (.ref p) (.int 1) v H R :=
  r_setAt h (by decide) (by simp only [List.length_cons]; omega) q
theorem r_setL2 (h : H p = some (.lst (x :: y :: z :: xs))) (q : R (upd H p (.lst (x :: y :: v :: xs)))) : rSetL (.ref p) (.int 2) v H R :=
  r_setAt h (by decide) (by simp only [List.length_cons]; omega) q
end
end Cm
namespace Cm
open PySem PySem.Spec PyProof.Rows L2
/-- nothing is known to stand at q -/
structure Fre (H : Hp) (q : Addr) : Prop where
  no : H q = none
section
variable {H H' H0 : Hp} {p q : Addr} {o u : HO}
theorem r_free {Q : Addr → Prop} (h : ∀ p, Fre H p → Q p) : ∀ p, H p = none → Q p := fun p n => h p ⟨n⟩
theorem Keep.newF (k : Keep p H H') (n : Fre H' q) : Keep p H (upd H' q o) := k.new n.no
theorem Keep.overF (k : Keep p H H') (n : Fre H q) : Keep p H (upd H' q o) := k.over n.no
theorem Keep.freeF (k : Keep p H0 H) (ne : q ≠ p) (n : Fre H q) : Fre H0 q := ⟨k.free ne n.no⟩
theorem Same.newF (k : Same H H') (n : Fre H' q) : Same H (upd H' q o) := Same.new k n.no
theorem Same.overF (k : Same H H') (n : Fre H q) : Same H (upd H' q o) := Same.over k n.no
theorem Same.freeF (k : Same H0 H) (n : Fre H q) : Fre H0 q := ⟨k.free n.no⟩
theorem Fre.of (n : Fre (upd H p o) q) : Fre H q := ⟨(upd_free n.no).2⟩
theorem g_newF (n : Fre H p) (hq : H q = some u) : upd H p o q = some u := g_new hq n.no
end
end Cm
namespace Cm
open PySem PySem.Spec PyProof.Rows L2
/-- what stands there is such data -/
inductive DtC (H : Hp) (p : Addr) : HO → PyData → Prop
  | tup {xs : List V} {ds : List PyData} : DtAll H p xs ds → DtC H p (.tup xs) (.tuple ds)
  | lst {xs : List V} {ds : List PyData} : DtAll H p xs ds → DtC H p (.lst xs) (.list ds)
  | dct {kvs : List (Key × V)} : (∀ x ∈ kvs, ∃ i, x.2 = V.int i) → DtC H p (.dK kvs) (.dict (kvs.map pairD))
theorem Dt.there {H : Hp} {p a : Addr} {o : HO} {d : PyData} (n : a ≠ p) (h : H a = some o) (c : DtC H p o d) : Dt H p (.ref a) d := by
  cases c with
  | tup x => exact .tup n h x
  | lst x => exact .lst n h x
  | dct x => exact .dct n h x
end Cm
namespace Cm
open PySem PySem.Spec PyProof.Rows L2
section
variable {K : PySem.W.Frag} {H : Hp} {Q : VK} {p : Addr} {xs : List V} {i : Int}
theorem r_pickI (h : H p = some (.lst xs)) (h0 : 0 ≤ i) (h1 : i < xs.length) (b : ∀ v ∈ xs, ∃ z, v = V.int z) (q : ∀ z, V.int z ∈ xs → Q (.int z) H) : rIx K (.ref p) (.int i) H Q :=
  r_pickL h h0 h1 fun v hv => by
    obtain ⟨z, rfl⟩ := b v hv
    exact q z hv
theorem r_pickS (h : H p = some (.lst xs)) (h0 : 0 ≤ i) (h1 : i < xs.length) (b : ∀ v ∈ xs, ∃ z, v = V.str z) (q : ∀ z, V.str z ∈ xs → Q (.str z) H) : rIx K (.ref p) (.int i) H Q :=
  r_pickL h h0 h1 fun v hv => by
    obtain ⟨z, rfl⟩ := b v hv
    exact q z hv
end
end Cm
namespace Cm
open PySem PySem.Spec PyProof.Rows L2
section
variable {K : PySem.W.Frag} {H : Hp} {σ : L2.St} {D : Ends}
theorem r_for {wi : TI} {g : TG} {tb : TS} (q : wi σ H fun J H1 => ∃ W : Nat → Nat → L2.St → Hp → Prop, (∃ m, W 0 m σ H1) ∧ ∀ i m σ H, W i m σ H →
    (J.stop i H ∧ D.nx σ H) ∨ (J.go i H ∧ ∃ N : L2.St → Hp → Prop, (∀ σ' H', N σ' H' → ∃ m', m' < m ∧ W (i + 1) m' σ' H') ∧ ∀ x H', J.yld i H x H' → g x σ H' fun σ2 H2 => tb { nx := N, rt := D.rt, bk := D.nx, ct := N } σ2 H2)) : tFor wi g tb D σ H := q
end
end Cm
namespace Cm
open PySem PySem.Spec PyProof.Rows L2
section
variable {K : PySem.W.Frag} {σ : L2.St} {H : Hp} {g : TG} {tb : TS} {nx : L2.St → Hp → Prop} {rt : VK}
theorem for_rng {lo : Int} {n : Nat} (Pv : Nat → L2.St → Hp → Prop) (h0 : Pv 0 σ H)
    (hs : ∀ i σ H, i < n → Pv i σ H → g (.int (lo + i)) σ H fun σ2 H2 => tb { nx := Pv (i + 1), rt := rt, bk := nx, ct := Pv (i + 1) } σ2 H2) (hd : ∀ σ H, Pv n σ H → nx σ H) :
    ∃ W : Nat → Nat → L2.St → Hp → Prop, (∃ m, W 0 m σ H) ∧ ∀ i m σ H, W i m σ H →
      ((Itr lo n).stop i H ∧ nx σ H) ∨ ((Itr lo n).go i H ∧ ∃ N : L2.St → Hp → Prop, (∀ σ' H', N σ' H' → ∃ m', m' < m ∧ W (i + 1) m' σ' H') ∧ ∀ x H', (Itr lo n).yld i H x H' → g x σ H' fun σ2 H2 => tb { nx := N, rt := rt, bk := nx, ct := N } σ2 H2) :=
  for_range (D := { nx := nx, rt := rt }) Pv h0 hs hd
theorem for_lst {a : Addr} {xs : List V} (Pv : Nat → L2.St → Hp → Prop) (h0 : Pv 0 σ H) (hl : ∀ i σ H, i ≤ xs.length → Pv i σ H → SqL K H a xs)
    (hs : ∀ i x σ H, xs[i]? = some x → Pv i σ H → g x σ H fun σ2 H2 => tb { nx := Pv (i + 1), rt := rt, bk := nx, ct := Pv (i + 1) } σ2 H2) (hd : ∀ σ H, Pv xs.length σ H → nx σ H) :
    ∃ W : Nat → Nat → L2.St → Hp → Prop, (∃ m, W 0 m σ H) ∧ ∀ i m σ H, W i m σ H →
      ((Itl K a).stop i H ∧ nx σ H) ∨ ((Itl K a).go i H ∧ ∃ N : L2.St → Hp → Prop, (∀ σ' H', N σ' H' → ∃ m', m' < m ∧ W (i + 1) m' σ' H') ∧ ∀ x H', (Itl K a).yld i H x H' → g x σ H' fun σ2 H2 => tb { nx := N, rt := rt, bk := nx, ct := N } σ2 H2) :=
  for_list (D := { nx := nx, rt := rt }) Pv h0 hl hs hd
end
end Cm
namespace Cm
open PySem PySem.Spec PyProof.Rows L2
theorem n_newF {H : Hp} {p q : Addr} {u : HO} (n : Fre H p) (h : H q = some u) : q ≠ p := ne_of_none h n.no
theorem n_newF' {H : Hp} {p q : Addr} {u : HO} (n : Fre H p) (h : H q = some u) : p ≠ q := (ne_of_none h n.no).symm
end Cm
namespace Cm
open PySem PySem.Spec PyProof.Rows L2
/-- a part of the heap that stands apart from p and f -/
structure Reg (R H : Hp) (p f : Addr) : Prop where
  sub : Same R H
  np : R p = none
  nf : R f = none
section
variable {R H H' : Hp} {p f q t : Addr} {o : HO}
theorem Reg.nil : Reg (fun _ => none) H p f := ⟨(fun _ _ h => by cases h), rfl, rfl⟩
theorem Reg.keep (r : Reg R H p f) (k : Keep p H H') : Reg R H' p f :=
  ⟨fun b o h => k b o (ne_of_none h r.np) (r.sub b o h), r.np, r.nf⟩
theorem Reg.new (r : Reg R H p f) (n : Fre H q) : Reg R (upd H q o) p f := ⟨Same.new r.sub n.no, r.np, r.nf⟩
theorem Reg.put (r : Reg R H p f) : Reg R (upd H f o) p f :=
  ⟨fun b u h => by rw [upd_ne (ne_of_none h r.nf)]; exact r.sub b u h, r.np, r.nf⟩
theorem Reg.add (r : Reg R H p f) (h : H t = some o) (ntp : t ≠ p) (ntf : t ≠ f) : Reg (upd R t o) H p f ∧ Same R (upd R t o) := by
  refine ⟨⟨fun b u e => ?_, by rw [upd_ne ntp.symm]; exact r.np, by rw [upd_ne ntf.symm]; exact r.nf⟩, fun b u e => ?_⟩
  · by_cases hb : b = t
    · subst hb
      rw [upd_same] at e
      cases e
      exact h
    · rw [upd_ne hb] at e
      exact r.sub b u e
  · by_cases hb : b = t
    · subst hb
      have := r.sub _ _ e
      rw [h] at this
      cases this
      exact upd_same
    · rw [upd_ne hb]
      exact e
end
end Cm
namespace Cm
open PySem PySem.Spec PyProof.Rows L2
section
variable {K : PySem.W.Frag} {H H1 : Hp} {Q : VK} {σ : L2.St} {D : Addr}
theorem r_lc {wi : TI} {g : TG} {tt : TT} {te : TE} {vs : List Nat} (q : wi σ H fun J H1 => ∀ D, H1 D = none → ∃ W : Nat → Nat → Hp → Prop, (∃ m, W 0 m (upd H1 D (.lst []))) ∧ ∀ i m H, W i m H →
    (J.stop i H ∧ Q (.ref D) H) ∨ (J.go i H ∧ ∃ Nx : Hp → Prop, (∀ H', Nx H' → ∃ m', m' < m ∧ W (i + 1) m' H') ∧ ∀ x H', J.yld i H x H' → g x (wipe σ vs) H' fun σ2 H2 => wipe σ2 vs = wipe σ vs ∧ tt σ2 H2 fun b H3 =>
      if b = true then te σ2 H3 fun y H4 => ∃ acc, H4 D = some (.lst acc) ∧ acc.length < sizeLine ∧ Nx (upd H4 D (.lst (acc ++ [y]))) else Nx H3)) : tLc wi g tt te vs σ H Q := q
theorem r_wipe {σ' : L2.St} {vs : List Nat} {P : Prop} (e : wipe σ' vs = wipe σ vs) (q : P) : wipe σ' vs = wipe σ vs ∧ P := ⟨e, q⟩
theorem r_yes {Q : Bool → Hp → Prop} (q : Q true H) : tYes σ H Q := q
theorem lc_close {ys : List V} {i : Nat} {y : V} (e : ys[i]? = some y) (hn : ys.length ≤ 1000) : ∃ acc, (upd H1 D (.lst (ys.take i))) D = some (.lst acc) ∧ acc.length < sizeLine ∧
    upd (upd H1 D (.lst (ys.take i))) D (.lst (acc ++ [y])) = upd H1 D (.lst (ys.take (i + 1))) := by
  obtain ⟨hi, he⟩ := List.getElem?_eq_some_iff.mp e
  refine ⟨_, upd_same, ?_, ?_⟩
  · have : (ys.take i).length ≤ 1000 := by rw [List.length_take]; omega
    exact Nat.lt_of_le_of_lt this (by decide)
  · rw [upd_upd, List.take_succ_eq_append_getElem hi, he]
theorem ints_dp : ∀ (ns : List Int), DpAll K H (ns.map V.int) (ns.map PyData.int)
  | [] => .nil
  | n :: ns => .cons (.int n) (ints_dp ns)
theorem ints_eqv : ∀ (a b : List Int), PyData.eqvAll (a.map PyData.int) (b.map PyData.int) = decide (a = b)
  | [], [] => rfl
  | [], _ :: _ => rfl
  | _ :: _, [] => rfl
  | x :: a, y :: b => by
    rw [List.map_cons, List.map_cons]
    simp only [PyData.eqvAll, PyData.eqv, ints_eqv a b, List.cons.injEq]
    by_cases h : x = y <;> simp [h]
theorem ints_lay : ∀ (a : List Int), PyData.canLayAll0 (a.map PyData.int) = true ∧ PyData.depthAll (a.map PyData.int) = 0
  | [] => ⟨rfl, rfl⟩
  | x :: a => by
    have h := ints_lay a
    rw [List.map_cons]
    refine ⟨?_, ?_⟩
    · simp only [PyData.canLayAll0, PyData.canLay0, Bool.true_and]; exact h.1
    · simp only [PyData.depthAll, PyData.depth, h.2]; rfl
theorem ints_shaped (a : List Int) : SeqAt.shaped (.list (a.map PyData.int)) = true := by
  have h := ints_lay a
  unfold SeqAt.shaped
  simp only [PyData.canLay0, PyData.depth, h.1, h.2]
  decide
theorem r_sameInts {a b : Addr} {ns ms : List Int} (h : H a = some (.lst (ns.map V.int))) (h' : H b = some (.lst (ms.map V.int))) (q : Q (.bl (decide (ns = ms))) H) : rSame K (.ref a) (.ref b) H Q := by
  refine .inr ⟨.list (ns.map .int), .list (ms.map .int), .lst (SqL.of h) (ints_dp ns), .lst (SqL.of h') (ints_dp ms), ints_shaped ns, ints_shaped ms, ?_⟩
  have e : PyData.eqv (.list (ns.map PyData.int)) (.list (ms.map PyData.int)) = decide (ns = ms) := by
    simp only [PyData.eqv]; exact ints_eqv ns ms
  rw [e]
  exact q
end
theorem fit_bools {a b : Bool} : Fit 60 60000 (.list [.bool a, .bool b]) := ⟨rfl, rfl, Nat.le_of_ble_eq_true rfl, Nat.le_of_ble_eq_true rfl⟩
end Cm
set_option Elab.async false
set_option linter.all false
set_option maxRecDepth 100000
set_option maxHeartbeats 4000000
/-! ## 6. Defs with defaults, calls by names -/
namespace Cm
open PySem PySem.Spec PyProof.Rows L2
def nV : List V → Nat → V
  | [], _ => .non
  | v :: _, 0 => v
  | _ :: vs, n + 1 => nV vs n
def nU : List Value → Nat → Value
  | [], _ => .none
  | v :: _, 0 => v
  | _ :: vs, n + 1 => nU vs n
theorem nRel : ∀ {vs : List V} {us : List Value} (i : Nat), Vals vs us → RelV (nV vs i) (nU us i)
  | _, _, _, .nil => rfl
  | _, _, 0, .cons r _ => r
  | _, _, i + 1, .cons _ r => nRel i r
/-- a def with defaults, the tuple of them at T -/
abbrev FnD (K : PySem.W.Frag) (x : Str) (st : Stmt) (dvs : List V) (f : Addr) (fd : FuncData) : Prop :=
  FunD K x x (defArgs st) (defBody st) (defScope st) dvs [] f fd
theorem fnd_mk {K : PySem.W.Frag} {x : Str} {st : Stmt} {f T : Addr} {oc ocT : Value} {od an odT : Option Addr} {osl slT : Array (Option Value)} {kV doc pm cdv ct : Value}
    {its : List Value} {m : Nat} {dvs : List V}
    (l : K.lookup f = some ⟨oc, od, .func (PySem.W.fnOf x x (defArgs st) (defBody st) (defScope st) (.ref T) kV doc pm an cdv ct), osl⟩)
    (c : PySem.W.codeIn K cdv x = true) (k : PySem.W.keepIn K (.ref f) = true) (lT : K.lookup T = some ⟨ocT, odT, .seq its.toArray m, slT⟩) (hne : dvs ≠ []) (hv : Vals dvs its) :
    FnD K x st dvs f (PySem.W.fnOf x x (defArgs st) (defBody st) (defScope st) (.ref T) kV doc pm an cdv ct) :=
  ⟨⟨oc, od, .ref T, kV, doc, pm, an, cdv, ct, osl, rfl, l, c, .inr ⟨hne, T, _, its, m, rfl, lT, rfl, hv⟩, .inl rfl⟩, k⟩
section
variable {P : Program} {w : World} {K : PySem.W.Frag} {mg : Str → Option Value} {base : Heap}
theorem fgd_of {CX : CXT} {x : Str} {st : Stmt} {dvs : List V} {f : Addr} {fd : FuncData}
    {N ps : List Str} {k : Nat} {sp : Sp} (F : FnD K x st dvs f fd)
    (S : FnScope N ps (defScope st)) (len : ∀ vs H Q E, sp vs H Q E → vs.length = ps.length)
    (hbody : ∀ (cdv : Value) (A : Around) (outer : List Env) (s : Shared) (H : Hp)
      (vs : List V) (Q : VK) (E : XK),
      Room k (A.deeper (envOfC x (defScope st) s.heap.objs.size f cdv)) →
      A.guards = some [] → sp vs H Q E →
      ∃ t, PSs (cxOf CX P w K mg base N x (defScope st) f cdv A outer s H E) (defBody st) t ∧
        t { nx := fun _ H' => Q .non H', rt := Q } (start N vs) H) :
    Fg P w K mg base CX (k + 1) f fd ps sp := by
  obtain ⟨oc, od, dV, kV, doc, pm, an, cdv, ct, osl, rfl, lk, hcd, _, _⟩ := F.ex
  refine ⟨len, ?_⟩
  intro A outer s H args us vs Q E hr hgd env hb r hsp
  have nvs : vs.length = ps.length := len _ _ _ _ hsp
  have old : ∀ b o, base.get? b = some o → s.heap.get? b = some o :=
    fun b o e => (env.bs b o e).1
  have KX : K.In s.heap := env.mod.kin.keeps old
  have lim : s.heap.NoLimit := env.mod.nolimit.keeps old
  have kinds : ∀ y ∈ ps.zip us, (defScope st).names.lookup y.1 = some .local ∨
      ((defScope st).names.lookup y.1 = some .cell ∧
        ((cellsFrom (s.heap.objs.size + 1) (defScope st).names []).lookup y.1).isSome = true) := by
    rintro ⟨n, v⟩ hy
    cases S.par n (List.of_mem_zip hy).1 with
    | inl q => exact .inl q
    | inr q => exact .inr ⟨q, PySem.W.cellsFrom_some _ _ _ (.inl q)⟩
  refine codeAny_call_function hr.depth (KX _ _ lk) rfl S.co S.gen rfl
    (PySem.W.codeRec_of KX hcd) (hb _ _ _ _ ?_)
  refine wpAny_newFunctionEnv_cells S.kind kinds ?_
  intro env' he s1 xx
  subst he
  refine ⟨lim.keeps xx.toInCall.keep, codeAny_func ?_⟩
  obtain ⟨t, ht, hq⟩ := hbody cdv A outer s H vs Q E (hr.deeper _) hgd hsp
  have I := inv_start (CX := CX) (P := P) (mg := mg) (E := E) S hr.hd env nvs r xx
  have leave : ∀ {σ' : L2.St} {H' : Hp} {v : V} {u : Value} {s' : Shared},
      Inv (cxOf CX P w K mg base N x (defScope st) f cdv A outer s H E) [] σ' H' s' →
      RelV v u → Q v H' → CE outer P w H s Q u s' := by
    intro σ' H' v u s' J rv q
    exact ⟨v, H', J.os, J.bare, J.base, J.hok, rv, q⟩
  refine wpAny_mono (ht.run [] s1 (start N vs) H _ I hq) ?_ (fun e s' hs => hs)
  intro fl s' hs
  match fl, hs with
  | .ret u, hs =>
    obtain ⟨v, σ', H', J, rv, q⟩ := hs
    exact leave J rv q
  | .next, hs =>
    obtain ⟨σ', H', J, q⟩ := hs
    exact leave (v := V.non) (u := Value.none) J rfl q
  | .brk, hs =>
    obtain ⟨_, _, _, q⟩ := hs
    exact False.elim q
  | .cont, hs =>
    obtain ⟨_, _, _, q⟩ := hs
    exact False.elim q
theorem fgd_of0 {x : Str} {st : Stmt} {dvs : List V} {f : Addr} {fd : FuncData}
    {N ps : List Str} {k : Nat} {sp : Sp} (F : FnD K x st dvs f fd)
    (S : FnScope N ps (defScope st)) (len : ∀ vs H Q E, sp vs H Q E → vs.length = ps.length)
    (hbody : ∀ (cdv : Value) (A : Around) (outer : List Env) (s : Shared) (H : Hp)
      (vs : List V) (Q : VK) (E : XK),
      Room k (A.deeper (envOfC x (defScope st) s.heap.objs.size f cdv)) →
      A.guards = some [] → sp vs H Q E →
      ∃ t, PSs (cxOf CX0 P w K mg base N x (defScope st) f cdv A outer s H E).nox (defBody st) t ∧
        t { nx := fun _ H' => Q .non H', rt := Q } (start N vs) H) :
    Fg P w K mg base CX0 (k + 1) f fd ps sp := by
  refine fgd_of F S len ?_
  intro cdv A outer s H vs Q E hr hg hsp
  obtain ⟨t, h, q⟩ := hbody cdv A outer s H vs Q E hr hg hsp
  exact ⟨t, h.nox, q⟩
end
/-- what a call by names binds, in the parameters' order, the defaults among them -/
theorem kbn_mk {K : PySem.W.Frag} {fd : FuncData} {ps ks : List Str} {n : Nat} {T : Addr} {ocT : Value} {odT : Option Addr} {slT : Array (Option Value)} {its : List Value} {m : Nat}
    {g : List Value → List Value → List Value} {gV : List V → List V → List V}
    (lT : K.lookup T = some ⟨ocT, odT, .seq its.toArray m, slT⟩) (hr : ∀ {vs : List V} {us : List Value} {zs : List V} {ws : List Value}, Vals vs us → Vals zs ws → Vals (gV vs zs) (g us ws))
    (h : ∀ us ws : List Value, us.length = n → ws.length = ks.length → ∃ k, bindArgs fd ⟨us, ks.zip ws⟩ = seqItems? (.ref T) >>= k ∧ k (some its.toArray) = pure (ps.zip (g us ws))) : KBn K fd ps n ks g gV := by
  refine ⟨fun s us ws X l1 l2 => ?_, hr⟩
  obtain ⟨k, e1, e2⟩ := h us ws l1 l2
  refine BindsTo.of_looks fun M => ?_
  rw [e1]
  exact looks_items X lT rfl (.of_pure e2)
section
variable {X : Cx} {CX : CXT} {k n : Nat} {f : Addr} {fd : FuncData} {ps ks : List Str}
  {sp : Sp} {dvs : List V} {E : XK} {x : Str} {p pos : Pos}
  {e : Expr} {es : List Expr} {kws : List Keyword} {t tk : TA} {g : List Value → List Value → List Value} {gV : List V → List V → List V}
theorem pg_callD (F : Fg X.prog X.w X.K X.mg X.base CX k f fd ps sp) (hr : Room k X.A)
    (hgd : X.A.guards = some []) (hg : Gl X x) (hm : X.mg x = some (.ref f))
    (hk : PySem.W.keepIn X.K (.ref f) = true) (hb : ∃ ds, Vals dvs ds ∧ Binds X.K fd ps ds)
    (hx : Passes CX X E) (ha : PA X (e :: es) t)
    (hdb : (x == ("__debug__" : Str)) = false := by decide)
    (he : starEach (e :: es) X.env = (false, eval e X.env) :: starEach es X.env := by rfl)
    (hpl : (backTo pos (starEach es X.env)).any (·.1) = false := by rfl) :
    PE X (.Call (.Name x p) (e :: es) [] pos) (tCall sp dvs E t) := by
  obtain ⟨ds, hd, hb⟩ := hb
  exact pg_call F hr hgd hg hm hk hb hd hx ha hdb he hpl
theorem go_fnN {pins : List (Addr × Obj)} {σ : L2.St} {H : Hp} {s : Shared} {Q : VK}
    {us ws : List Value} {vs zs : List V}
    (F : Fg X.prog X.w X.K X.mg X.base CX k f fd ps sp) (hr : Room k X.A)
    (hg : X.A.guards = some []) (hb : KBn X.K fd ps n ks g gV)
    (hx : Passes CX X E) (I : Inv X pins σ H s) (r : Vals vs us) (rz : Vals zs ws)
    (l1 : vs.length = n) (l2 : zs.length = ks.length) (h : sp (gV vs zs) H Q E) :
    wpAny (model X.prog X.w) X.A (call (.ref f) us (ks.zip ws)) (EP X pins σ Q) X.xe s := by
  have both := hb.rel r rz
  have body := F.go X.A X.stack s H ⟨us, ks.zip ws⟩ (g us ws) (gV vs zs) Q E hr hg I.env0
    (hb.to s us ws I.kIn (r.length.symm.trans l1) (rz.length.symm.trans l2)) both h
  refine wpAny_call (codeAny_mono body ?_)
  intro r s' hq
  match r, hq with
  | .error e, hq => exact hx pins σ H s e s' I hq
  | .ok (.ret u), hq => exact I.after hq
theorem pg_callN (F : Fg X.prog X.w X.K X.mg X.base CX k f fd ps sp) (hr : Room k X.A)
    (hgd : X.A.guards = some []) (hg : Gl X x) (hm : X.mg x = some (.ref f))
    (hk : PySem.W.keepIn X.K (.ref f) = true) (hb : KBn X.K fd ps n ks g gV)
    (hx : Passes CX X E) (ha : PA X (e :: es) t) (hkw : PK X kws tk)
    (hall : (backToKw pos (keywordEach kws X.env)).all (·.1.isSome) = true := by rfl)
    (hks : (backToKw pos (keywordEach kws X.env)).filterMap (·.1) = ks := by rfl)
    (hdb : (x == ("__debug__" : Str)) = false := by decide)
    (he : starEach (e :: es) X.env = (false, eval e X.env) :: starEach es X.env := by rfl)
    (hpl : ((backTo pos (starEach (e :: es) X.env)).any (·.1) || (backToKw pos (keywordEach kws X.env)).any (·.1.isNone)) = false := by rfl) :
    PE X (.Call (.Name x p) (e :: es) kws pos) (tCallN n ks.length sp gV E t tk) := by
  constructor
  intro pins s σ H Q I h
  have args := ha.run pos pins s σ H _ I h
  refine wpAny_Call_Name_kw (ld_glob I hg hm ?_ hdb)
  refine PySem.W.callWith_KW (h₀ := X.base) I.ok.mod.kin hk hall (thn args ?_) hpl he
  rintro us s1 ⟨vs, H1, I1, r, q⟩
  refine thn (hkw.run pos pins s1 σ H1 _ I1 q) ?_
  rintro ws s2 ⟨zs, H2, I2, rz, l1, l2, q2⟩
  refine ⟨I2.kIn, ?_⟩
  rw [hks]
  exact go_fnN F hr hgd hb hx I2 r rz l1 l2 q2
theorem pg_callN0 (F : Fg X.prog X.w X.K X.mg X.base CX k f fd ps sp) (hr : Room k X.A)
    (hgd : X.A.guards = some []) (hg : Gl X x) (hm : X.mg x = some (.ref f))
    (hk : PySem.W.keepIn X.K (.ref f) = true) (hb : KBn X.K fd ps 0 ks g gV)
    (hx : Passes CX X E) (hkw : PK X kws tk)
    (hall : (backToKw pos (keywordEach kws X.env)).all (·.1.isSome) = true := by rfl)
    (hks : (backToKw pos (keywordEach kws X.env)).filterMap (·.1) = ks := by rfl)
    (hdb : (x == ("__debug__" : Str)) = false := by decide)
    (hpl : ((backTo pos (starEach [] X.env)).any (·.1) || (backToKw pos (keywordEach kws X.env)).any (·.1.isNone)) = false := by rfl) :
    PE X (.Call (.Name x p) [] kws pos) (tCallN 0 ks.length sp gV E tNil tk) := by
  constructor
  intro pins s σ H Q I h
  refine wpAny_Call_Name_kw (ld_glob I hg hm ?_ hdb)
  refine PySem.W.callWith_KW0 (h₀ := X.base) I.ok.mod.kin hk hall (thn (hkw.run pos pins s σ H _ I h) ?_) hpl
  rintro ws s2 ⟨zs, H2, I2, rz, l1, l2, q2⟩
  refine ⟨I2.kIn, ?_⟩
  rw [hks]
  exact go_fnN (us := []) (vs := []) F hr hgd hb hx I2 .nil rz l1 l2 q2
theorem r_callN {σ : L2.St} {H : Hp} {Q : VK} {m : Nat} (q : t σ H fun vs H1 => tk σ H1 fun zs H2 => vs.length = n ∧ zs.length = m ∧ sp (gV vs zs) H2 Q E) : tCallN n m sp gV E t tk σ H Q := q
theorem r_names {vs zs : List V} {m : Nat} {Q : Prop} (h1 : vs.length = n) (h2 : zs.length = m) (q : Q) : vs.length = n ∧ zs.length = m ∧ Q := ⟨h1, h2, q⟩
end
end Cm
namespace Cm
open PySem PySem.Spec PyProof.Rows L2
def top (i : Nat) : Stmt := PySem.Challenge.pw_classmarks_k20_points_that_are_late.main.body.getD i (.Pass ⟨0, 0, 0, 0⟩)
structure Tx (K : PySem.W.Frag) (mg : Str → Option Value) where
  f_late_points : Addr
  fd_late_points : FuncData
  F_late_points : FnD K "late_points" (top 1) [(.int 0)] f_late_points fd_late_points
  b_late_points : Binds K fd_late_points ["points", "days", "cut"] []
  m_late_points : mg "late_points" = some (.ref f_late_points)
  k0_late_points_cut_days_points : KBn K fd_late_points ["points", "days", "cut"] 0 ["cut", "days", "points"] (fun us ws => [nU ws 2, nU ws 1, nU ws 0]) (fun us ws => [nV ws 2, nV ws 1, nV ws 0])
  d2_late_points : ∃ ds, Vals ([(.int 0)].drop 0) ds ∧ Binds K fd_late_points ["points", "days", "cut"] ds
  k2_late_points_cut : KBn K fd_late_points ["points", "days", "cut"] 2 ["cut"] (fun us ws => [nU us 0, nU us 1, nU ws 0]) (fun us ws => [nV us 0, nV us 1, nV ws 0])
  f__law_cell_at : Addr
  fd__law_cell_at : FuncData
  F__law_cell_at : Fun K "_law_cell_at" "_law_cell_at" (top 3) f__law_cell_at fd__law_cell_at
  b__law_cell_at : Binds K fd__law_cell_at ["_law_script", "_law_k"] []
  m__law_cell_at : mg "_law_cell_at" = some (.ref f__law_cell_at)
  f__law_state : Addr
  fd__law_state : FuncData
  F__law_state : Fun K "_law_state" "_law_state" (top 4) f__law_state fd__law_state
  b__law_state : Binds K fd__law_state ["_law_script", "_law_k"] []
  m__law_state : mg "_law_state" = some (.ref f__law_state)
  f__law_take : Addr
  fd__law_take : FuncData
  F__law_take : Fun K "_law_take" "_law_take" (top 5) f__law_take fd__law_take
  b__law_take : Binds K fd__law_take ["_law_state_here", "_law_many"] []
  m__law_take : mg "_law_take" = some (.ref f__law_take)
  f__law_points : Addr
  fd__law_points : FuncData
  F__law_points : Fun K "_law_points" "_law_points" (top 6) f__law_points fd__law_points
  b__law_points : Binds K fd__law_points ["_law_got", "_law_dates", "_law_loss"] []
  m__law_points : mg "_law_points" = some (.ref f__law_points)
  f__law_same : Addr
  fd__law_same : FuncData
  F__law_same : Fun K "_law_same" "_law_same" (top 7) f__law_same fd__law_same
  b__law_same : Binds K fd__law_same ["_law_found", "_law_due"] []
  m__law_same : mg "_law_same" = some (.ref f__law_same)
  f_law : Addr
  fd_law : FuncData
  F_law : Fun K "law" "law" (top 8) f_law fd_law
  b_law : Binds K fd_law ["_law_script"] []
  m_law : mg "law" = some (.ref f_law)
  m_len : mg "len" = none
  m_max : mg "max" = none
  m_min : mg "min" = none
  m_range : mg "range" = none
  m_repr : mg "repr" = none
/-- what is left of points that are late -/
def lateF (p d c : Int) : Int := if p - p * c * d / 100 > 0 then p - p * c * d / 100 else 0
theorem late_range {p d c : Int} (hp : 0 ≤ p) (hd : 0 ≤ d) (hc : 0 ≤ c) : 0 ≤ lateF p d c ∧ lateF p d c ≤ p := by
  have h : 0 ≤ p * c * d := Int.mul_nonneg (Int.mul_nonneg hp hc) hd
  have h2 : 0 ≤ p * c * d / 100 := Int.ediv_nonneg h (by decide)
  unfold lateF
  split <;> omega
theorem late_mono {p d c d' c' : Int} (hp : 0 ≤ p) (hd : 0 ≤ d') (hc : 0 ≤ c') (h1 : d' ≤ d) (h2 : c' ≤ c) : lateF p d c ≤ lateF p d' c' := by
  have h : p * c' * d' ≤ p * c * d :=
    Int.mul_le_mul (Int.mul_le_mul_of_nonneg_left h2 hp) h1 hd (Int.mul_nonneg hp (Int.le_trans hc h2))
  have h3 : p * c' * d' / 100 ≤ p * c * d / 100 := Int.ediv_le_ediv (by decide) h
  unfold lateF
  split <;> split <;> omega
theorem late_none {p d : Int} (hp : 0 ≤ p) : lateF p d 0 = p := by
  unfold lateF
  rw [Int.mul_zero, Int.zero_mul, Int.zero_ediv]
  split <;> omega
theorem late_wide {p c : Int} (hp : 0 ≤ p) (hp2 : p ≤ 1000) (hc : 0 ≤ c) (hc2 : c ≤ 1000) : 0 ≤ p * c ∧ p * c ≤ 1000000 := by
  refine ⟨Int.mul_nonneg hp hc, ?_⟩
  exact Int.mul_le_mul hp2 hc2 hc (by decide)
/-! ### draws -/
/-- a row of draws stands at p -/
def Dr (p : Addr) (H : Hp) : Prop := ∃ a b : Int, H p = some (.lst [.int a, .int b]) ∧ 0 ≤ a ∧ 0 ≤ b ∧ b < 2 ^ 40
theorem Dr.new {p q : Addr} {H : Hp} {o : HO} (d : Dr p H) (n : Fre H q) : Dr p (upd H q o) := by
  obtain ⟨a, b, h, r⟩ := d
  exact ⟨a, b, g_new h n.no, r⟩
theorem Dr.other {p q : Addr} {H : Hp} {o : HO} (d : Dr p H) (n : p ≠ q) : Dr p (upd H q o) := by
  obtain ⟨a, b, h, r⟩ := d
  exact ⟨a, b, g_other n h, r⟩
theorem Dr.same {p : Addr} {H H' : Hp} (s : Same H H') (d : Dr p H) : Dr p H' := by
  obtain ⟨a, b, h, r⟩ := d
  exact ⟨a, b, s _ _ h, r⟩
theorem Dr.at {p : Addr} {H : Hp} (d : Dr p H) : ∃ o, H p = some o := by
  obtain ⟨a, b, h, r⟩ := d
  exact ⟨_, h⟩
theorem Dr.ne {p q : Addr} {H : Hp} (d : Dr p H) (n : Fre H q) : q ≠ p := by
  obtain ⟨o, h⟩ := d.at
  exact (ne_of_none h n.no).symm
theorem r_pickK {K : PySem.W.Frag} {H : Hp} {Q : VK} {p : Addr} {ns : List Int} {i : Int} (h : SqL K H p (ns.map V.int)) (h0 : 0 ≤ i) (h1 : i < (ns.map V.int).length) (q : ∀ z, z ∈ ns → Q (.int z) H) : rIx K (.ref p) (.int i) H Q := by
  obtain ⟨v, m, e⟩ := atI_in h0 h1
  obtain ⟨z, hz, rfl⟩ := List.mem_map.mp m
  exact .inl ⟨p, _, i, _, rfl, rfl, h, e, q z hz⟩
theorem fit_int {i : Int} (h : i.natAbs < 2 ^ 60) : Fit 60 60000 (.int i) := (Ft.int (N := 2 ^ 60) (m := 0) (b := 0) (Nat.le_of_lt h)).fit (by decide) (by decide) (by decide)
def sp__law_cell_at (K : PySem.W.Frag) : Sp := fun vs H Q _ => ∃ (a : Addr) (ns : List Int) (k : Int), vs = [.ref a, .int k] ∧ SqL K H a (ns.map V.int) ∧ 0 ≤ k ∧ ∀ i, Q (.int i) H
def sp__law_state (K : PySem.W.Frag) : Sp := fun vs H Q _ => ∃ (a : Addr) (ns : List Int) (k : Int), vs = [.ref a, .int k] ∧ SqL K H a (ns.map V.int) ∧ 0 ≤ k ∧
  ∀ p H', Fre H p → Same H H' → Dr p H' → Q (.ref p) H'
def sp__law_take (_ : PySem.W.Frag) : Sp := fun vs H Q _ => ∃ (p : Addr) (n : Int), vs = [.ref p, .int n] ∧ Dr p H ∧ 0 < n ∧ n < 2 ^ 60 ∧
  ∀ r H', 0 ≤ r → r < n → Keep p H H' → Dr p H' → Q (.int r) H'
def sp_late_points (_ : PySem.W.Frag) : Sp := fun vs H Q _ => ∃ p d c : Int, vs = [.int p, .int d, .int c] ∧ 0 ≤ p ∧ p ≤ 1000 ∧ 0 ≤ d ∧ d ≤ 1000 ∧ 0 ≤ c ∧ c ≤ 1000 ∧ Q (.int (lateF p d c)) H
def sp__law_points (K : PySem.W.Frag) : Sp := sp_late_points K
def sp__law_same (_ : PySem.W.Frag) : Sp := fun vs H Q _ => ∃ i j : Int, vs = [.int i, .int j] ∧ i.natAbs < 2 ^ 60 ∧ j.natAbs < 2 ^ 60 ∧ (∃ (p : Addr) (o : HO), H p = some o) ∧ Q (.bl (decide ((PyData.int i).shown = (PyData.int j).shown))) H
def sp_law (K : PySem.W.Frag) : Sp := fun vs H Q _ => ∃ (a : Addr) (ns : List Int), vs = [.ref a] ∧ SqL K H a (ns.map V.int) ∧ ns.length ≤ 63 ∧ ∀ H', Q (.bl true) H'
section
variable {K : PySem.W.Frag} {H : Hp} {Q : VK} {E : XK} {p a : Addr} {n k i j d c : Int} {ns : List Int}
theorem c__law_cell_at (h : SqL K H a (ns.map V.int)) (h0 : 0 ≤ k) (q : ∀ i, Q (.int i) H) : sp__law_cell_at K ([.ref a, .int k] ++ []) H Q E := ⟨a, ns, k, rfl, h, h0, q⟩
theorem c__law_state (h : SqL K H a (ns.map V.int)) (h0 : 0 ≤ k) (q : ∀ p H', Fre H p → Same H H' → Dr p H' → Q (.ref p) H') : sp__law_state K ([.ref a, .int k] ++ []) H Q E := ⟨a, ns, k, rfl, h, h0, q⟩
theorem c__law_take (h : Dr p H) (h0 : 0 < n) (h1 : n < 2 ^ 60) (q : ∀ r H', 0 ≤ r → r < n → Keep p H H' → Dr p H' → Q (.int r) H') : sp__law_take K ([.ref p, .int n] ++ []) H Q E := ⟨p, n, rfl, h, h0, h1, q⟩
theorem c_late_points (h : 0 ≤ i ∧ i ≤ 1000) (h1 : 0 ≤ d ∧ d ≤ 1000) (h2 : 0 ≤ c ∧ c ≤ 1000) (q : Q (.int (lateF i d c)) H) : sp_late_points K ([.int i, .int d, .int c] ++ []) H Q E := ⟨i, d, c, rfl, h.1, h.2, h1.1, h1.2, h2.1, h2.2, q⟩
theorem c2_late_points (h : 0 ≤ i ∧ i ≤ 1000) (h1 : 0 ≤ d ∧ d ≤ 1000) (q : Q (.int i) H) : sp_late_points K ([.int i, .int d] ++ List.drop 0 [.int 0]) H Q E := ⟨i, d, 0, rfl, h.1, h.2, h1.1, h1.2, by decide, by decide, by rw [late_none h.1]; exact q⟩
theorem c3_late_points (h : 0 ≤ i ∧ i ≤ 1000) (h1 : 0 ≤ d ∧ d ≤ 1000) (h2 : 0 ≤ c ∧ c ≤ 1000) (q : Q (.int (lateF i d c)) H) : sp_late_points K [.int i, .int d, .int c] H Q E := ⟨i, d, c, rfl, h.1, h.2, h1.1, h1.2, h2.1, h2.2, q⟩
theorem c__law_points (h : 0 ≤ i ∧ i ≤ 1000) (h1 : 0 ≤ d ∧ d ≤ 1000) (h2 : 0 ≤ c ∧ c ≤ 1000) (q : Q (.int (lateF i d c)) H) : sp__law_points K ([.int i, .int d, .int c] ++ []) H Q E := c_late_points h h1 h2 q
theorem c__law_same (h : i.natAbs < 2 ^ 60) (h1 : j.natAbs < 2 ^ 60) (ho : ∃ (p : Addr) (o : HO), H p = some o) (q : Q (.bl (decide ((PyData.int i).shown = (PyData.int j).shown))) H) : sp__law_same K ([.int i, .int j] ++ []) H Q E := ⟨i, j, rfl, h, h1, ho, q⟩
end
local macro_rules | `(tactic| walk_at "N0") => `(tactic| first
  | assumption
  | (refine Ne.symm ?_; assumption))
local macro_rules | `(tactic| walk_at "GG") => `(tactic| first
  | assumption
  | with_reducible exact upd_same
  | ((first
    | ((with_reducible refine' g_newF ?n ?h); (case n => assumption))
    | ((with_reducible refine' g_other ?n ?h); (case n => walk_at "N0"))
    | (refine' g_keep ?k ?n ?h; (case k => assumption); (case n => walk_at "N0"))
    | (refine' g_same ?s ?h; (case s => assumption))); (case h => walk_at "GG")))
local macro_rules | `(tactic| walk_at "NE") => `(tactic| first
  | walk_at "N0"
  | (refine' n_newF ?n ?h; (case n => assumption); (case h => walk_at "GG"))
  | (refine' n_newF' ?n ?h; (case n => assumption); (case h => walk_at "GG")))
local macro_rules | `(tactic| walk_at "FR") => `(tactic| first
  | assumption
  | (refine' Fre.of ?n; (case n => assumption))
  | (refine' Keep.freeF ?k ?ne ?n; (case n => assumption); (case k => walk_at "KP"); (case ne => walk_at "NE"))
  | (refine' Same.freeF ?k ?n; (case n => assumption); (case k => walk_at "SM")))
local macro_rules | `(tactic| walk_at "KP") => `(tactic| first
  | assumption
  | with_reducible exact Keep.refl _ _
  | ((first
    | ((with_reducible refine' Keep.newF ?k ?n); (case n => assumption))
    | (with_reducible refine' Keep.put ?k)
    | ((with_reducible refine' Keep.overF ?k ?n); (case n => walk_at "FR"))
    | (refine' Keep.trans ?k ?b; (case b => assumption))
    | (refine' Keep.trans ?k (Keep.of ?b); (case b => assumption))); (case k => walk_at "KP")))
local macro_rules | `(tactic| walk_at "SM") => `(tactic| first
  | assumption
  | with_reducible exact Same.refl _
  | ((first
    | ((with_reducible refine' Same.newF ?k ?n); (case n => assumption))
    | ((with_reducible refine' Same.overF ?k ?n); (case n => walk_at "FR"))
    | (refine' Same.trans ?k ?b; (case b => assumption))); (case k => walk_at "SM")))
local macro_rules | `(tactic| walk_at "G") => `(tactic| first
  | assumption
  | with_reducible exact upd_same
  | ((first
    | ((with_reducible refine' g_newF ?n ?h); (case n => assumption))
    | ((with_reducible refine' g_other ?n ?h); (case n => walk_at "NE"))
    | (refine' g_keep ?k ?n ?h; (case k => assumption); (case n => walk_at "NE"))
    | (refine' g_same ?s ?h; (case s => assumption))); (case h => walk_at "G")))
local macro_rules | `(tactic| walk_at "DT") => `(tactic| first
  | assumption
  | with_reducible exact Dt.int _
  | with_reducible exact Dt.str _
  | with_reducible exact Dt.bl _
  | with_reducible exact Dt.non
  | (refine' Dt.keep ?k ?h; (case h => assumption); (case k => walk_at "KP")))
local macro_rules | `(tactic| walk_at "DD") => `(tactic| first
  | walk_at "DT"
  | (refine' Dt.there ?n ?h ?c; (case n => walk_at "NE"); (case h => walk_at "G"); (case c => first
    | ((with_reducible refine' DtC.tup ?a); (case a => walk_at "DA"))
    | ((with_reducible refine' DtC.lst ?a); (case a => walk_at "DA"))
    | ((with_reducible refine' DtC.dct ?a); (case a => simp)))))
local macro_rules | `(tactic| walk_at "DA") => `(tactic| first
  | assumption
  | with_reducible exact DtAll.nil
  | ((with_reducible refine' DtAll.cons ?a ?b); (case a => walk_at "DD"); (case b => walk_at "DA")))
local macro_rules | `(tactic| walk_at "RG") => `(tactic| first
  | assumption
  | ((first
    | ((with_reducible refine' Reg.new ?r ?n); (case n => assumption))
    | (with_reducible refine' Reg.put ?r)
    | (refine' Reg.keep ?r ?k; (case k => assumption))); (case r => walk_at "RG")))
local macro_rules | `(tactic| walk_at "AR") => `(tactic| first
  | assumption
  | omega
  | decide
  | (simp only [List.length_map, List.length_append, List.length_cons, List.length_nil, List.length_set, List.length_reverse]; omega))
local macro_rules | `(tactic| walk_at "KD") => `(tactic| first | exact Or.inl rfl | exact Or.inr (Or.inl rfl) | exact Or.inr (Or.inr (Or.inl rfl)) | exact Or.inr (Or.inr (Or.inr (Or.inl rfl))) | exact Or.inr (Or.inr (Or.inr (Or.inr (Or.inl rfl)))) | exact Or.inr (Or.inr (Or.inr (Or.inr (Or.inr rfl)))))
local macro_rules | `(tactic| walk_at "S") => `(tactic| first
  | ((with_reducible refine' r_var ?h ?_); (case h => rfl))
  | with_reducible refine' r_c ?_
  | with_reducible refine' r_op ?_
  | with_reducible refine' r_cons ?_
  | with_reducible refine' r_nil ?_
  | with_reducible refine' r_cb ?_
  | with_reducible refine' r_call ?_
  | with_reducible refine' r_rI0 ?_
  | with_reducible refine' r_plusI ?_
  | with_reducible refine' r_isbl ?_
  | with_reducible refine' r_isint ?_
  | with_reducible refine' r_sameI ?_
  | with_reducible refine' r_unlikeI ?_
  | with_reducible refine' r_sameS ?_
  | with_reducible refine' r_unlikeS ?_
  | with_reducible refine' r_rU ?_
  | with_reducible refine' r_un ?_
  | with_reducible refine' r_tup ?_
  | with_reducible refine' r_lst ?_
  | ((with_reducible refine' r_small ?h ?_); (case h => walk_at "AR"))
  | with_reducible refine' r_if ?_
  | with_reducible refine' r_test ?_
  | with_reducible refine' r_B ?_
  | with_reducible refine' r_and ?_
  | with_reducible refine' r_or ?_
  | with_reducible refine' r_not ?_
  | with_reducible refine' r_andV ?_
  | with_reducible refine' r_orV ?_
  | with_reducible refine' r_notV ?_
  | with_reducible refine' r_chain ?_
  | with_reducible refine' iteT ?_
  | with_reducible refine' iteF ?_
  | with_reducible refine' r_next ?_
  | with_reducible refine' r_seq ?_
  | with_reducible refine' r_ret ?_
  | with_reducible refine' r_retN ?_
  | with_reducible refine' r_drop ?_
  | with_reducible refine' r_ifS ?_
  | with_reducible refine' r_asg ?_
  | with_reducible refine' r_break ?_
  | with_reducible refine' r_cont ?_
  | ((with_reducible refine' r_gname ?h ?_); (case h => first | (simp only [wipe, List.map_cons, List.map_nil, List.set_cons_zero, List.set_cons_succ]; rfl) | rfl))
  | with_reducible refine' r_gsub ?_
  | with_reducible refine' r_gnil ?_
  | with_reducible refine' r_gcons ?_
  | with_reducible refine' r_for ?_
  | with_reducible refine' r_lc ?_
  | ((with_reducible refine' r_wipe ?h ?_); (case h => rfl))
  | with_reducible refine' r_yes ?_
  | ((with_reducible refine' r_repr ?h ?f ?_); (case h => walk_at "DD"); (case f => walk_at "FT"))
  | with_reducible refine' r_par ?_
  | with_reducible refine' r_par3 ?_
  | with_reducible refine' r_two ?_
  | with_reducible refine' r_three ?_
  | with_reducible refine' r_sl ?_
  | with_reducible refine' r_nopart ?_
  | with_reducible refine' r_part ?_
  | with_reducible refine' r_bm ?_
  | with_reducible refine' r_bm0 ?_
  | with_reducible refine' r_tyS ?_
  | with_reducible refine' r_min2 ?_
  | with_reducible refine' r_rev ?_
  | ((with_reducible refine' r_isT ?h ?_); (case h => walk_at "G"))
  | ((with_reducible refine' r_eqNo ?h ?k ?_); (case h => walk_at "G"); (case k => walk_at "G"))
  | with_reducible refine' r_itup ?_
  | with_reducible refine' r_ilst ?_
  | ((with_reducible refine' r_atT ?h ?_); (case h => walk_at "G"))
  | with_reducible refine' r_dnew ?_
  | with_reducible refine' r_disp1 ?_
  | ((with_reducible refine' r_plusL ?h ?k ?e ?_); (case h => walk_at "G"); (case k => walk_at "G"); (case e => walk_at "AR"))
  | ((with_reducible refine' r_atL ?h ?_); (case h => walk_at "G"))
  | with_reducible refine' r_irng1 ?_
  | ((with_reducible refine' r_rng ?h ?k ?_); (case h => walk_at "AR"); (case k => walk_at "AR"))
  | with_reducible refine' r_max2 ?_
  | ((with_reducible refine' r_mod ?h ?_); (case h => walk_at "AR"))
  | ((with_reducible refine' r_div ?h ?k ?_); (case h => walk_at "AR"); (case k => walk_at "AR"))
  | ((with_reducible refine' r_pow ?h ?k ?m ?_); (case h => decide); (case k => decide); (case m => decide))
  | ((with_reducible refine' r_timesI ?h ?k ?_); (case h => walk_at "AR"); (case k => walk_at "AR"))
  | ((with_reducible refine' r_ixL0 ?h ?_); (case h => walk_at "G"))
  | ((with_reducible refine' r_ixL1 ?h ?_); (case h => walk_at "G"))
  | ((with_reducible refine' r_ixL2 ?h ?_); (case h => walk_at "G"))
  | ((with_reducible refine' r_ixT0 ?h ?_); (case h => walk_at "G"))
  | ((with_reducible refine' r_ixT1 ?h ?_); (case h => walk_at "G"))
  | ((with_reducible refine' r_ixT2 ?h ?_); (case h => walk_at "G"))
  | ((with_reducible refine' r_setL0 ?h ?_); (case h => walk_at "G"))
  | ((with_reducible refine' r_setL1 ?h ?_); (case h => walk_at "G"))
  | ((with_reducible refine' r_setL2 ?h ?_); (case h => walk_at "G"))
  | ((with_reducible refine' r_pickI ?h ?k ?l ?b ?_); (case h => walk_at "G"); (case k => walk_at "AR"); (case l => walk_at "AR"); (case b => (simp; done)); intro z hz; simp only [List.mem_cons, V.int.injEq, List.not_mem_nil, or_false] at hz)
  | ((with_reducible refine' r_pickS ?h ?k ?l ?b ?_); (case h => walk_at "G"); (case k => walk_at "AR"); (case l => walk_at "AR"); (case b => (simp; done)); intro z hz; simp only [List.mem_cons, V.str.injEq, List.not_mem_nil, or_false] at hz)
  | ((with_reducible refine' r_tyL ?h ?_); (case h => walk_at "G"))
  | ((with_reducible refine' r_append ?h ?e ?_); (case h => walk_at "G"); (case e => walk_at "AR"))
  | ((with_reducible refine' r_isi ?h ?e ?f ?_); (case h => walk_at "DT"); (case e => walk_at "KD"); (case f => first | exact (rfl : _ = true) | exact (rfl : _ = false) | rfl))
  | ((with_reducible refine' r_lenL ?h ?_); (case h => walk_at "G"))
  | ((with_reducible refine' r_lenT ?h ?_); (case h => walk_at "G"))
  | ((with_reducible refine' r_lenK ?h ?_); (case h => assumption))
  | ((with_reducible refine' r_listL ?h ?_); (case h => walk_at "G"))
  | ((with_reducible refine' r_listT ?h ?_); (case h => walk_at "G"))
  | ((with_reducible refine' r_tupL ?h ?_); (case h => walk_at "G"))
  | ((with_reducible refine' r_gtup ?h ?e ?_); (case h => walk_at "G"); (case e => rfl))
  | ((with_reducible refine' r_free ?_); intro _ _)
  | ((with_reducible refine' iteT_of ?h ?_); (case h => rfl))
  | ((with_reducible refine' iteF_of ?h ?_); (case h => rfl))
  | ((with_reducible refine' r_ite ?_ ?_) <;> intro hc <;> (try simp only [decide_eq_true_eq, decide_eq_false_iff_not, Bool.not_eq_true', Bool.not_eq_false', Bool.not_eq_true, Bool.not_eq_false, Bool.not_true, Bool.not_false, Bool.true_eq_false, Bool.false_eq_true, Int.not_lt, Int.not_le] at hc) <;> (try (exfalso; omega)))
  | simp only [List.set_cons_zero, List.set_cons_succ]
  | dsimp only)
local macro_rules | `(tactic| walk_at "D0") => `(tactic| first
  | assumption
  | ((with_reducible refine' Dr.new ?a ?n); (case n => assumption); (case a => walk_at "D0"))
  | ((with_reducible refine' Dr.other ?a ?n); (case n => first | assumption | (refine Ne.symm ?_; assumption)); (case a => walk_at "D0")))
local macro_rules | `(tactic| walk_at "N0") => `(tactic| first
  | assumption
  | (refine Ne.symm ?_; assumption)
  | (refine' Dr.ne ?d ?n; (case n => assumption); (case d => walk_at "D0"))
  | (refine Ne.symm ?_; refine' Dr.ne ?d ?n; (case n => assumption); (case d => walk_at "D0")))
local macro_rules | `(tactic| walk_at "DR") => `(tactic| first
  | assumption
  | ((first
    | ((with_reducible refine' Dr.new ?a ?n); (case n => assumption))
    | ((with_reducible refine' Dr.other ?a ?n); (case n => walk_at "N0"))
    | (refine' Dr.same ?s ?a; (case s => assumption))); (case a => walk_at "DR")))
local macro_rules | `(tactic| walk_at "B") => `(tactic| (refine And.intro ?_ ?_ <;> first | assumption | omega))
local macro_rules | `(tactic| walk_at "S") => `(tactic| first
  | ((with_reducible refine' c__law_cell_at ?h ?k ?_); (case h => assumption); (case k => walk_at "AR"); intro _)
  | ((with_reducible refine' c__law_state ?h ?k ?_); (case h => assumption); (case k => walk_at "AR"); intro _ _ _ _ _)
  | ((with_reducible refine' c__law_take ?h ?k ?l ?_); (case h => walk_at "DR"); (case k => walk_at "AR"); (case l => walk_at "AR"); intro _ _ _ _ _ _)
  | ((with_reducible refine' c_late_points ?h ?k ?l ?_); (case h => walk_at "B"); (case k => walk_at "B"); (case l => walk_at "B"))
  | ((with_reducible refine' c2_late_points ?h ?k ?_); (case h => walk_at "B"); (case k => walk_at "B"))
  | ((with_reducible refine' c3_late_points ?h ?k ?l ?_); (case h => walk_at "B"); (case k => walk_at "B"); (case l => walk_at "B"))
  | ((with_reducible refine' c__law_points ?h ?k ?l ?_); (case h => walk_at "B"); (case k => walk_at "B"); (case l => walk_at "B"))
  | ((with_reducible refine' c__law_same ?h ?k ?o ?_); (case h => walk_at "AR"); (case k => walk_at "AR"); (case o => exact ⟨_, Dr.at (by walk_at "DR")⟩))
  | with_reducible refine' r_callN ?_
  | ((with_reducible refine' r_names ?h ?k ?_); (case h => rfl); (case k => rfl))
  | dsimp only [nV])
local macro_rules | `(tactic| walk_at "FT") => `(tactic| assumption)
section
variable {P : Program} {w : World} {K : PySem.W.Frag} {mg : Str → Option Value} {base : Heap}
theorem sc__law_cell_at : FnScope ["_law_script", "_law_k"] ["_law_script", "_law_k"] (defScope (top 3)) := ⟨rfl, rfl, rfl, by decide +kernel, rfl, by decide +kernel, by decide +kernel⟩
theorem ok__law_cell_at (T : Tx K mg)  :
    Fg P w K mg base CX0 1 T.f__law_cell_at T.fd__law_cell_at ["_law_script", "_law_k"] (sp__law_cell_at K) := by
  refine fg_of0 T.F__law_cell_at sc__law_cell_at (fun vs H Q E h => ?_) (fun cdv A outer s H vs Q E hr hg h => ?_)
  · obtain ⟨a, ns, k, rfl, _⟩ := h
    rfl
  · obtain ⟨a, ns, k, rfl, hs, h0, q⟩ := h
    refine ⟨_, (pss_cons (ps_if (pt_cmpR op_lt (pv 1) (pe_callB (r := rLen K) call_size (by rfl) T.m_len (by decide +kernel) (pa_cons (pv 0) pa_nil)) (nomark _))
    (pss_one (ps_ret (pe_ix (r := rIx K) ix_seq (pv 0) (pv 1) (fun _ _ => rfl))))
    pss_nil)
    (pss_one (ps_ret pe_int))), ?_⟩
    refine at_start (show L2.start _ [_, _] = [some _, some _] from rfl) ?_
    repeat' (walk_at "S")
    · exact r_pickK hs h0 (by assumption) fun z _ => q z
    · exact q _
theorem sc__law_state : FnScope ["_law_script", "_law_k", "_law_cell"] ["_law_script", "_law_k"] (defScope (top 4)) := ⟨rfl, rfl, rfl, by decide +kernel, rfl, by decide +kernel, by decide +kernel⟩
theorem ok__law_state (T : Tx K mg) (G__law_cell_at : Fg P w K mg base CX0 1 T.f__law_cell_at T.fd__law_cell_at ["_law_script", "_law_k"] (sp__law_cell_at K)) :
    Fg P w K mg base CX0 2 T.f__law_state T.fd__law_state ["_law_script", "_law_k"] (sp__law_state K) := by
  refine fg_of0 T.F__law_state sc__law_state (fun vs H Q E h => ?_) (fun cdv A outer s H vs Q E hr hg h => ?_)
  · obtain ⟨a, ns, k, rfl, _⟩ := h
    rfl
  · obtain ⟨a, ns, k, rfl, hs, h0, q⟩ := h
    refine ⟨_, (pss_cons (ps_set (i := 2) sc__law_state.nd rfl (by first | exact Or.inl rfl | exact Or.inr rfl) (pg_call G__law_cell_at (hr.mono (by decide)) hg rfl T.m__law_cell_at T.F__law_cell_at.kp T.b__law_cell_at .nil pass0 (pa_cons (pv 0) (pa_cons (pv 1) pa_nil))))
    (pss_cons (ps_if (pt_cmpR op_ge (pv 2) (pe_op op_power pe_int pe_int) (nomark _))
    (pss_one (ps_ret (pe_lst (pa_cons (pe_op op_sub (pv 2) (pe_op op_power pe_int pe_int)) (pa_cons (pe_op (r := rPlus K) op_plus (pe_op op_rest (pv 2) pe_int) pe_int) pa_nil)))))
    pss_nil)
    (pss_one (ps_ret (pe_lst (pa_cons pe_int (pa_cons (pe_op (r := rPlus K) op_plus (pe_op op_rest (pv 2) pe_int) pe_int) pa_nil))))))), ?_⟩
    refine at_start (show L2.start _ [_, _] = [some _, some _, none] from rfl) ?_
    repeat' (walk_at "S")
    · rename_i i hc p np
      refine q p _ np (Same.newF (Same.refl H) np) ⟨_, _, upd_same, ?_, ?_, ?_⟩
      · have : (10 : Int) ^ (Int.toNat 18) = 1000000000000000000 := by decide
        omega
      · omega
      · omega
    · rename_i i hc p np
      exact q p _ np (Same.newF (Same.refl H) np) ⟨_, _, upd_same, by omega, by omega, by omega⟩
theorem sc__law_take : FnScope ["_law_state_here", "_law_many", "_law_found", "_law_stirred"] ["_law_state_here", "_law_many"] (defScope (top 5)) := ⟨rfl, rfl, rfl, by decide +kernel, rfl, by decide +kernel, by decide +kernel⟩
theorem ok__law_take (T : Tx K mg)  :
    Fg P w K mg base CX0 1 T.f__law_take T.fd__law_take ["_law_state_here", "_law_many"] (sp__law_take K) := by
  refine fg_of0 T.F__law_take sc__law_take (fun vs H Q E h => ?_) (fun cdv A outer s H vs Q E hr hg h => ?_)
  · obtain ⟨p, n, rfl, _⟩ := h
    rfl
  · obtain ⟨p, n, rfl, ⟨a, b, hp, ha, hb, hc⟩, n0, n1, q⟩ := h
    refine ⟨_, (pss_cons (ps_if (pt_cmpR op_gt (pe_ix (r := rIx K) ix_seq (pv 0) pe_int (fun _ _ => rfl)) pe_int (nomark _))
    (pss_cons (ps_set (i := 2) sc__law_take.nd rfl (by first | exact Or.inl rfl | exact Or.inr rfl) (pe_op op_rest (pe_ix (r := rIx K) ix_seq (pv 0) pe_int (fun _ _ => rfl)) (pv 1)))
    (pss_cons (ps_asg (pe_op op_div (pe_ix (r := rIx K) ix_seq (pv 0) pe_int (fun _ _ => rfl)) (pv 1)) (pg_sub (pv 0) pe_int set_list))
    (pss_one (ps_ret (pv 2)))))
    pss_nil)
    (pss_cons (ps_asg (pe_op op_rest (pe_op (r := rPlus K) op_plus (pe_op (r := rTimes K) op_times (pe_ix (r := rIx K) ix_seq (pv 0) pe_int (fun _ _ => rfl)) pe_int) pe_int) pe_int) (pg_sub (pv 0) pe_int set_list))
    (pss_cons (ps_set (i := 3) sc__law_take.nd rfl (by first | exact Or.inl rfl | exact Or.inr rfl) (pe_op op_rest (pe_op (r := rPlus K) op_plus (pe_op (r := rPlus K) op_plus (pe_op (r := rTimes K) op_times (pe_ix (r := rIx K) ix_seq (pv 0) pe_int (fun _ _ => rfl)) (pe_ix (r := rIx K) ix_seq (pv 0) pe_int (fun _ _ => rfl))) (pe_op (r := rTimes K) op_times pe_int (pe_ix (r := rIx K) ix_seq (pv 0) pe_int (fun _ _ => rfl)))) pe_int) pe_int))
    (pss_cons (ps_set (i := 3) sc__law_take.nd rfl (by first | exact Or.inl rfl | exact Or.inr rfl) (pe_op op_rest (pe_op (r := rPlus K) op_plus (pe_op (r := rPlus K) op_plus (pe_op (r := rTimes K) op_times (pv 3) (pv 3)) (pe_op (r := rTimes K) op_times pe_int (pv 3))) pe_int) pe_int))
    (pss_one (ps_ret (pe_op op_rest (pe_op op_div (pv 3) pe_int) (pv 1)))))))), ?_⟩
    refine at_start (show L2.start _ [_, _] = [some _, some _, none, none] from rfl) ?_
    repeat' (walk_at "S")
    · exact q _ _ (Int.emod_nonneg _ (by omega)) (Int.emod_lt_of_pos _ n0) (Keep.set) ⟨_, _, upd_same, Int.ediv_nonneg (by omega) (by omega), hb, hc⟩
    · exact q _ _ (Int.emod_nonneg _ (by omega)) (Int.emod_lt_of_pos _ n0) (Keep.set) ⟨_, _, upd_same, ha, by omega, by omega⟩
theorem sc_late_points : FnScope ["points", "days", "cut"] ["points", "days", "cut"] (defScope (top 1)) := ⟨rfl, rfl, rfl, by decide +kernel, rfl, by decide +kernel, by decide +kernel⟩
theorem ok_late_points (T : Tx K mg)  :
    Fg P w K mg base CX0 1 T.f_late_points T.fd_late_points ["points", "days", "cut"] (sp_late_points K) := by
  refine fgd_of0 T.F_late_points sc_late_points (fun vs H Q E h => ?_) (fun cdv A outer s H vs Q E hr hg h => ?_)
  · obtain ⟨p, d, c, rfl, _⟩ := h
    rfl
  · obtain ⟨p, d, c, rfl, h1, h2, h3, h4, h5, h6, q⟩ := h
    have hw := late_wide h1 h2 h5 h6
    refine ⟨_, (pss_one (ps_ret (pe_callB (call_most rfl) (by rfl) T.m_max (by decide +kernel) (pa_cons pe_int (pa_cons (pe_op op_sub (pv 0) (pe_op op_div (pe_op (r := rTimes K) op_times (pe_op (r := rTimes K) op_times (pv 0) (pv 2)) (pv 1)) pe_int)) pa_nil))))), ?_⟩
    refine at_start (show L2.start _ [_, _, _] = [some _, some _, some _] from rfl) ?_
    repeat' (walk_at "S")
    exact q
theorem sc__law_points : FnScope ["_law_got", "_law_dates", "_law_loss"] ["_law_got", "_law_dates", "_law_loss"] (defScope (top 6)) := ⟨rfl, rfl, rfl, by decide +kernel, rfl, by decide +kernel, by decide +kernel⟩
theorem ok__law_points (T : Tx K mg)  :
    Fg P w K mg base CX0 1 T.f__law_points T.fd__law_points ["_law_got", "_law_dates", "_law_loss"] (sp__law_points K) := by
  refine fg_of0 T.F__law_points sc__law_points (fun vs H Q E h => ?_) (fun cdv A outer s H vs Q E hr hg h => ?_)
  · obtain ⟨p, d, c, rfl, _⟩ := h
    rfl
  · obtain ⟨p, d, c, rfl, h1, h2, h3, h4, h5, h6, q⟩ := h
    have hw := late_wide h1 h2 h5 h6
    refine ⟨_, (pss_one (ps_ret (pe_callB (call_most rfl) (by rfl) T.m_max (by decide +kernel) (pa_cons pe_int (pa_cons (pe_op op_sub (pv 0) (pe_op op_div (pe_op (r := rTimes K) op_times (pe_op (r := rTimes K) op_times (pv 0) (pv 2)) (pv 1)) pe_int)) pa_nil))))), ?_⟩
    refine at_start (show L2.start _ [_, _, _] = [some _, some _, some _] from rfl) ?_
    repeat' (walk_at "S")
    exact q
theorem sc__law_same : FnScope ["_law_found", "_law_due"] ["_law_found", "_law_due"] (defScope (top 7)) := ⟨rfl, rfl, rfl, by decide +kernel, rfl, by decide +kernel, by decide +kernel⟩
theorem ok__law_same (T : Tx K mg)  :
    Fg P w K mg base CX0 1 T.f__law_same T.fd__law_same ["_law_found", "_law_due"] (sp__law_same K) := by
  refine fg_of0 T.F__law_same sc__law_same (fun vs H Q E h => ?_) (fun cdv A outer s H vs Q E hr hg h => ?_)
  · obtain ⟨i, j, rfl, _⟩ := h
    rfl
  · obtain ⟨i, j, rfl, hi, hj, ⟨p, o, ho⟩, q⟩ := h
    have fi : Fit 60 60000 (.int i) := fit_int hi
    have fj : Fit 60 60000 (.int j) := fit_int hj
    refine ⟨_, (pss_one (ps_ret (pe_cmpR (r := rSame K) (op_same hr.units) (pe_callB (call_repr hg hr.units p) (by rfl) T.m_repr (by decide +kernel) (pa_cons (pv 0) pa_nil)) (pe_callB (call_repr hg hr.units p) (by rfl) T.m_repr (by decide +kernel) (pa_cons (pv 1) pa_nil)) (nomark _)))), ?_⟩
    refine at_start (show L2.start _ [_, _] = [some _, some _] from rfl) ?_
    repeat' (walk_at "S")
    exact q
end
section
variable {P : Program} {w : World} {K : PySem.W.Frag} {mg : Str → Option Value} {base : Heap}
theorem sql_same {K : PySem.W.Frag} {H H' : Hp} {a : Addr} {xs : List V} (s : Same H H') (h : SqL K H a xs) : SqL K H' a xs :=
  h.elim (fun h => .inl (h.elim (fun e => .inl (s _ _ e)) fun ⟨o, e⟩ => .inr ⟨o, s _ _ e⟩)) .inr
theorem Same.ofKeep {p : Addr} {H H1 H' : Hp} (s : Same H H1) (n : Fre H p) (k : Keep p H1 H') : Same H H' := fun b o h =>
  k b o (ne_of_none h n.no) (s b o h)
theorem sc_law : FnScope ["_law_script", "_law_k", "_law_state_here", "_law_turn", "_law_got", "_law_dates", "_law_loss", "_law_found"] ["_law_script"] (defScope (top 8)) := ⟨rfl, rfl, rfl, by decide +kernel, rfl, by decide +kernel, by decide +kernel⟩
theorem ok_law (T : Tx K mg) (G__law_points : Fg P w K mg base CX0 1 T.f__law_points T.fd__law_points ["_law_got", "_law_dates", "_law_loss"] (sp__law_points K)) (G__law_same : Fg P w K mg base CX0 1 T.f__law_same T.fd__law_same ["_law_found", "_law_due"] (sp__law_same K)) (G__law_state : Fg P w K mg base CX0 2 T.f__law_state T.fd__law_state ["_law_script", "_law_k"] (sp__law_state K)) (G__law_take : Fg P w K mg base CX0 1 T.f__law_take T.fd__law_take ["_law_state_here", "_law_many"] (sp__law_take K)) (G_late_points : Fg P w K mg base CX0 1 T.f_late_points T.fd_late_points ["points", "days", "cut"] (sp_late_points K)) :
    Fg P w K mg base CX0 3 T.f_law T.fd_law ["_law_script"] (sp_law K) := by
  refine fg_of0 T.F_law sc_law (fun vs H Q E h => ?_) (fun cdv A outer s H vs Q E hr hg h => ?_)
  · obtain ⟨a, ns, rfl, _⟩ := h
    rfl
  · obtain ⟨a, ns, rfl, hs, hl, q⟩ := h
    refine ⟨_, (pss_cons (ps_for PassesOwn.never rfl (pi_range1 rfl T.m_range (pa_cons (pe_callB (call_most rfl) (by rfl) T.m_max (by decide +kernel) (pa_cons pe_int (pa_cons (pe_callB (call_least rfl) (by rfl) T.m_min (by decide +kernel) (pa_cons (pe_callB (r := rLen K) call_size (by rfl) T.m_len (by decide +kernel) (pa_cons (pv 0) pa_nil)) (pa_cons pe_int pa_nil))) pa_nil))) pa_nil)) (pg_name (i := 1) sc_law.nd rfl (by first | exact Or.inl rfl | exact Or.inr rfl))
    (pss_cons (ps_set (i := 2) sc_law.nd rfl (by first | exact Or.inl rfl | exact Or.inr rfl) (pg_call G__law_state (hr.mono (by decide)) hg rfl T.m__law_state T.F__law_state.kp T.b__law_state .nil pass0 (pa_cons (pv 0) (pa_cons (pv 1) pa_nil))))
    (pss_one (ps_for PassesOwn.never rfl (pi_range1 rfl T.m_range (pa_cons pe_int pa_nil)) (pg_name (i := 3) sc_law.nd rfl (by first | exact Or.inl rfl | exact Or.inr rfl))
    (pss_cons (ps_set (i := 4) sc_law.nd rfl (by first | exact Or.inl rfl | exact Or.inr rfl) (pe_ix (r := rIx K) ix_seq (pe_lst (pa_cons pe_int (pa_cons pe_int (pa_cons pe_int (pa_cons (pg_call G__law_take (hr.mono (by decide)) hg rfl T.m__law_take T.F__law_take.kp T.b__law_take .nil pass0 (pa_cons (pv 2) (pa_cons pe_int pa_nil))) pa_nil))))) (pg_call G__law_take (hr.mono (by decide)) hg rfl T.m__law_take T.F__law_take.kp T.b__law_take .nil pass0 (pa_cons (pv 2) (pa_cons pe_int pa_nil))) (fun _ _ => rfl)))
    (pss_cons (ps_set (i := 5) sc_law.nd rfl (by first | exact Or.inl rfl | exact Or.inr rfl) (pe_ix (r := rIx K) ix_seq (pe_lst (pa_cons pe_int (pa_cons pe_int (pa_cons pe_int (pa_cons (pg_call G__law_take (hr.mono (by decide)) hg rfl T.m__law_take T.F__law_take.kp T.b__law_take .nil pass0 (pa_cons (pv 2) (pa_cons pe_int pa_nil))) (pa_cons (pg_call G__law_take (hr.mono (by decide)) hg rfl T.m__law_take T.F__law_take.kp T.b__law_take .nil pass0 (pa_cons (pv 2) (pa_cons pe_int pa_nil))) pa_nil)))))) (pg_call G__law_take (hr.mono (by decide)) hg rfl T.m__law_take T.F__law_take.kp T.b__law_take .nil pass0 (pa_cons (pv 2) (pa_cons pe_int pa_nil))) (fun _ _ => rfl)))
    (pss_cons (ps_set (i := 6) sc_law.nd rfl (by first | exact Or.inl rfl | exact Or.inr rfl) (pe_ix (r := rIx K) ix_seq (pe_lst (pa_cons pe_int (pa_cons pe_int (pa_cons pe_int (pa_cons (pg_call G__law_take (hr.mono (by decide)) hg rfl T.m__law_take T.F__law_take.kp T.b__law_take .nil pass0 (pa_cons (pv 2) (pa_cons pe_int pa_nil))) pa_nil))))) (pg_call G__law_take (hr.mono (by decide)) hg rfl T.m__law_take T.F__law_take.kp T.b__law_take .nil pass0 (pa_cons (pv 2) (pa_cons pe_int pa_nil))) (fun _ _ => rfl)))
    (pss_cons (ps_set (i := 7) sc_law.nd rfl (by first | exact Or.inl rfl | exact Or.inr rfl) (pg_call G_late_points (hr.mono (by decide)) hg rfl T.m_late_points T.F_late_points.kp T.b_late_points .nil pass0 (pa_cons (pv 4) (pa_cons (pv 5) (pa_cons (pv 6) pa_nil)))))
    (pss_cons (ps_if (pt_not (pt_val (pg_call G__law_same (hr.mono (by decide)) hg rfl T.m__law_same T.F__law_same.kp T.b__law_same .nil pass0 (pa_cons (pv 7) (pa_cons (pg_call G__law_points (hr.mono (by decide)) hg rfl T.m__law_points T.F__law_points.kp T.b__law_points .nil pass0 (pa_cons (pv 4) (pa_cons (pv 5) (pa_cons (pv 6) pa_nil)))) pa_nil)))))
    (pss_one (ps_ret pe_bl))
    pss_nil)
    (pss_cons (ps_if (pt_cmpR (r := rUnlike K) (op_unlike hr.units) (pg_callN0 G_late_points (hr.mono (by decide)) hg rfl T.m_late_points T.F_late_points.kp T.k0_late_points_cut_days_points pass0 (pk_cons (pv 6) (pk_cons (pv 5) (pk_cons (pv 4) pk_nil)))) (pv 7) (nomark _))
    (pss_one (ps_ret pe_bl))
    pss_nil)
    (pss_cons (ps_if (PW.pt (pw_or (PW.pt (pw_and (pt_cmpR op_gt (pv 5) pe_int (nomark _)) (pw_and1 (pt_cmpR op_lt (pg_callN G_late_points (hr.mono (by decide)) hg rfl T.m_late_points T.F_late_points.kp T.k2_late_points_cut pass0 (pa_cons (pv 4) (pa_cons (pe_op op_sub (pv 5) pe_int) pa_nil)) (pk_cons (pv 6) pk_nil)) (pv 7) (nomark _))))) (pw_or1 (pt_cmpR (r := rUnlike K) (op_unlike hr.units) (pg_callD G_late_points (hr.mono (by decide)) hg rfl T.m_late_points T.F_late_points.kp T.d2_late_points pass0 (pa_cons (pv 4) (pa_cons (pv 5) pa_nil))) (pv 4) (nomark _)))))
    (pss_one (ps_ret pe_bl))
    pss_nil)
    (pss_one (ps_if (PW.pt (pw_and (pt_cmpR op_gt (pv 6) pe_int (nomark _)) (pw_and1 (pt_cmpR op_lt (pg_call G_late_points (hr.mono (by decide)) hg rfl T.m_late_points T.F_late_points.kp T.b_late_points .nil pass0 (pa_cons (pv 4) (pa_cons (pv 5) (pa_cons (pe_op op_sub (pv 6) pe_int) pa_nil)))) (pv 7) (nomark _)))))
    (pss_one (ps_ret pe_bl))
    pss_nil)))))))))))))
    (pss_one (ps_ret pe_bl))), ?_⟩
    refine at_start (show L2.start _ [_] = [some _, none, none, none, none, none, none, none] from rfl) ?_
    repeat' (walk_at "S")
    refine for_rng (fun i σ H' => ∃ v1 v2 v3 v4 v5 v6 v7, σ = [some (.ref a), v1, v2, v3, v4, v5, v6, v7] ∧ Same H H') ⟨_, _, _, _, _, _, _, rfl, Same.refl H⟩ ?_ ?_
    · rintro i σ H1 hi ⟨v1, v2, v3, v4, v5, v6, v7, rfl, s1⟩
      have hs1 : SqL K H1 a (ns.map V.int) := sql_same s1 hs
      have hi0 : 0 ≤ (0 : Int) + (i : Int) := by omega
      repeat' (walk_at "S")
      rename_i p H2 np s2 d2
      refine for_rng (fun j σ H' => ∃ v1 v3 v4 v5 v6 v7, σ = [some (.ref a), v1, some (.ref p), v3, v4, v5, v6, v7] ∧ Keep p H2 H' ∧ Dr p H') ⟨_, _, _, _, _, _, rfl, Keep.refl _ _, d2⟩ ?_ ?_
      · rintro j σ H3 hj ⟨v1, v3, v4, v5, v6, v7, rfl, k3, d3⟩
        repeat' (walk_at "S")
        rename_i rA HA a1 a2 kA dA pA nA rB HB b1 b2 kB dB zp hzp rC HC c1 c2 kC dC rD HD e1 e2 kD dD pB nB rE HE f1 f2 kE dE zd hzd rF HF g1 g2 kF dF pC nC rG HG h1 h2 kG dG zc hzc
        have bp : 0 ≤ zp ∧ zp ≤ 100 := by omega
        have bd : 0 ≤ zd ∧ zd ≤ 200 := by omega
        have bc : 0 ≤ zc ∧ zc ≤ 100 := by omega
        clear hzp hzd hzc
        have lr := late_range bp.1 bd.1 bc.1
        have m1 : zd < 1 ∨ lateF zp zd zc ≤ lateF zp (zd - 1) zc := by
          by_cases h : zd < 1
          · exact .inl h
          · exact .inr (late_mono bp.1 (by omega) bc.1 (by omega) (Int.le_refl _))
        have m2 : zc < 1 ∨ lateF zp zd zc ≤ lateF zp zd (zc - 1) := by
          by_cases h : zc < 1
          · exact .inl h
          · exact .inr (late_mono bp.1 bd.1 (by omega) (Int.le_refl _) (by omega))
        refine c__law_same (by omega) (by omega) ⟨p, Dr.at dG⟩ ?_
        rw [decide_eq_true rfl]
        repeat' (walk_at "S")
        all_goals first
          | exact ⟨_, _, _, _, _, _, rfl, by walk_at "KP", dG⟩
          | (exfalso; rename_i hc; simp at hc)
      · rintro σ H3 ⟨v1, v3, v4, v5, v6, v7, rfl, k3, d3⟩
        exact ⟨_, _, _, _, _, _, _, rfl, s1.trans (Same.ofKeep s2 np k3)⟩
    · rintro σ H1 ⟨v1, v2, v3, v4, v5, v6, v7, rfl, s1⟩
      repeat' (walk_at "S")
      exact q _
end
theorem all_mk {l : PySem.W.OpenLaw} {w : World} {K : PySem.W.Frag} {h : Heap} {mg : Str → Option Value} {fa : Addr} (X : K.In h) (G : h.Ns mainGlobals mg) (hfa : mg "law" = some (.ref fa))
    {f0 : Addr} {od0 an0 : Option Addr} {sl0 : Array (Option Value)} {oc0 kV0 dc0 pm0 cd0 ct0 : Value}
    {tk0_0 : Tok}
    {D0 : Addr} {odT0 : Option Addr} {slT0 : Array (Option Value)} {ocT0 : Value} {mT0 : Nat}
    (a0 : PySem.W.nsIn K mainGlobals "late_points" = some (some (.ref f0))) (l0 : K.lookup f0 = some ⟨oc0, od0, .func (PySem.W.fnOf "late_points" "late_points" (defArgs (top 1)) (defBody (top 1)) (defScope (top 1)) (.ref D0) kV0 dc0 pm0 an0 cd0 ct0), sl0⟩) (c0 : PySem.W.codeIn K cd0 "late_points" = true) (k0 : PySem.W.keepIn K (.ref f0) = true)
    (d0 : K.lookup D0 = some ⟨ocT0, odT0, .seq (List.toArray [.int 0 tk0_0]) mT0, slT0⟩)
    {f1 : Addr} {od1 an1 : Option Addr} {sl1 : Array (Option Value)} {oc1 kV1 dc1 pm1 cd1 ct1 : Value}
    (a1 : PySem.W.nsIn K mainGlobals "_law_cell_at" = some (some (.ref f1))) (l1 : K.lookup f1 = some ⟨oc1, od1, .func (PySem.W.fnOf "_law_cell_at" "_law_cell_at" (defArgs (top 3)) (defBody (top 3)) (defScope (top 3)) .none kV1 dc1 pm1 an1 cd1 ct1), sl1⟩) (c1 : PySem.W.codeIn K cd1 "_law_cell_at" = true) (k1 : PySem.W.keepIn K (.ref f1) = true)
    {f2 : Addr} {od2 an2 : Option Addr} {sl2 : Array (Option Value)} {oc2 kV2 dc2 pm2 cd2 ct2 : Value}
    (a2 : PySem.W.nsIn K mainGlobals "_law_state" = some (some (.ref f2))) (l2 : K.lookup f2 = some ⟨oc2, od2, .func (PySem.W.fnOf "_law_state" "_law_state" (defArgs (top 4)) (defBody (top 4)) (defScope (top 4)) .none kV2 dc2 pm2 an2 cd2 ct2), sl2⟩) (c2 : PySem.W.codeIn K cd2 "_law_state" = true) (k2 : PySem.W.keepIn K (.ref f2) = true)
    {f3 : Addr} {od3 an3 : Option Addr} {sl3 : Array (Option Value)} {oc3 kV3 dc3 pm3 cd3 ct3 : Value}
    (a3 : PySem.W.nsIn K mainGlobals "_law_take" = some (some (.ref f3))) (l3 : K.lookup f3 = some ⟨oc3, od3, .func (PySem.W.fnOf "_law_take" "_law_take" (defArgs (top 5)) (defBody (top 5)) (defScope (top 5)) .none kV3 dc3 pm3 an3 cd3 ct3), sl3⟩) (c3 : PySem.W.codeIn K cd3 "_law_take" = true) (k3 : PySem.W.keepIn K (.ref f3) = true)
    {f4 : Addr} {od4 an4 : Option Addr} {sl4 : Array (Option Value)} {oc4 kV4 dc4 pm4 cd4 ct4 : Value}
    (a4 : PySem.W.nsIn K mainGlobals "_law_points" = some (some (.ref f4))) (l4 : K.lookup f4 = some ⟨oc4, od4, .func (PySem.W.fnOf "_law_points" "_law_points" (defArgs (top 6)) (defBody (top 6)) (defScope (top 6)) .none kV4 dc4 pm4 an4 cd4 ct4), sl4⟩) (c4 : PySem.W.codeIn K cd4 "_law_points" = true) (k4 : PySem.W.keepIn K (.ref f4) = true)
    {f5 : Addr} {od5 an5 : Option Addr} {sl5 : Array (Option Value)} {oc5 kV5 dc5 pm5 cd5 ct5 : Value}
    (a5 : PySem.W.nsIn K mainGlobals "_law_same" = some (some (.ref f5))) (l5 : K.lookup f5 = some ⟨oc5, od5, .func (PySem.W.fnOf "_law_same" "_law_same" (defArgs (top 7)) (defBody (top 7)) (defScope (top 7)) .none kV5 dc5 pm5 an5 cd5 ct5), sl5⟩) (c5 : PySem.W.codeIn K cd5 "_law_same" = true) (k5 : PySem.W.keepIn K (.ref f5) = true)
    {f6 : Addr} {od6 an6 : Option Addr} {sl6 : Array (Option Value)} {oc6 kV6 dc6 pm6 cd6 ct6 : Value}
    (a6 : PySem.W.nsIn K mainGlobals "law" = some (some (.ref f6))) (l6 : K.lookup f6 = some ⟨oc6, od6, .func (PySem.W.fnOf "law" "law" (defArgs (top 8)) (defBody (top 8)) (defScope (top 8)) .none kV6 dc6 pm6 an6 cd6 ct6), sl6⟩) (c6 : PySem.W.codeIn K cd6 "law" = true) (k6 : PySem.W.keepIn K (.ref f6) = true)
    (z_len : PySem.W.nsIn K mainGlobals "len" = some none)
    (z_max : PySem.W.nsIn K mainGlobals "max" = some none)
    (z_min : PySem.W.nsIn K mainGlobals "min" = some none)
    (z_range : PySem.W.nsIn K mainGlobals "range" = some none)
    (z_repr : PySem.W.nsIn K mainGlobals "repr" = some none)
    : ∃ fd : FuncData, (∀ (s : Shared) (v : Value), BindsTo s fd ⟨[v], []⟩ [("_law_script", v)]) ∧ ∀ base : Heap, K.In base → base.Ns mainGlobals mg → Fg l.prog w K mg base CX0 3 fa fd ["_law_script"] (sp_law K) := by
  have e := hfa.symm.trans (PySem.W.mg_of X G a6)
  cases e
  have F0 := fnd_mk (st := top 1) (dvs := [(.int 0)]) l0 c0 k0 d0 (List.cons_ne_nil _ _) (.cons ⟨_, rfl⟩ .nil)
  have b0 : Binds K (PySem.W.fnOf "late_points" "late_points" (defArgs (top 1)) (defBody (top 1)) (defScope (top 1)) (.ref D0) kV0 dc0 pm0 an0 cd0 ct0) ["points", "days", "cut"] [] := by
    obtain ⟨ds, r, b⟩ := FunD.binds1 (ps := ["points", "days", "cut"]) F0 3 1 (List.cons_ne_nil _ _) rfl (fun _ _ _ _ _ _ _ us its hu hi => match us, its, hu, hi with | [_, _, _], [_], _, _ => ⟨_, rfl, rfl⟩)
    cases r
    exact b
  have kb0_0_cut_days_points := kbn_mk (fd := PySem.W.fnOf "late_points" "late_points" (defArgs (top 1)) (defBody (top 1)) (defScope (top 1)) (.ref D0) kV0 dc0 pm0 an0 cd0 ct0) (ps := ["points", "days", "cut"]) (ks := ["cut", "days", "points"]) (n := 0) (g := fun us ws => [nU ws 2, nU ws 1, nU ws 0]) (gV := fun us ws => [nV ws 2, nV ws 1, nV ws 0]) d0 (fun r z => (.cons (nRel 2 z) (.cons (nRel 1 z) (.cons (nRel 0 z) .nil)))) (fun us ws h1 h2 => match us, ws, h1, h2 with | [], [_, _, _], _, _ => ⟨_, rfl, rfl⟩)
  have dd0_2 := FunD.binds1 (ps := ["points", "days", "cut"]) F0 2 0 (List.cons_ne_nil _ _) rfl (fun _ _ _ _ _ _ _ us its hu hi => match us, its, hu, hi with | [_, _], [_], _, _ => ⟨_, rfl, rfl⟩)
  have kb0_2_cut := kbn_mk (fd := PySem.W.fnOf "late_points" "late_points" (defArgs (top 1)) (defBody (top 1)) (defScope (top 1)) (.ref D0) kV0 dc0 pm0 an0 cd0 ct0) (ps := ["points", "days", "cut"]) (ks := ["cut"]) (n := 2) (g := fun us ws => [nU us 0, nU us 1, nU ws 0]) (gV := fun us ws => [nV us 0, nV us 1, nV ws 0]) d0 (fun r z => (.cons (nRel 0 r) (.cons (nRel 1 r) (.cons (nRel 0 z) .nil)))) (fun us ws h1 h2 => match us, ws, h1, h2 with | [_, _], [_], _, _ => ⟨_, rfl, rfl⟩)
  have F1 := fun_mk (st := top 3) l1 c1 k1
  have b1 := F1.binds (ps := ["_law_script", "_law_k"]) fun _ _ _ _ _ _ us hl => match us, hl with | [_, _], _ => rfl
  have F2 := fun_mk (st := top 4) l2 c2 k2
  have b2 := F2.binds (ps := ["_law_script", "_law_k"]) fun _ _ _ _ _ _ us hl => match us, hl with | [_, _], _ => rfl
  have F3 := fun_mk (st := top 5) l3 c3 k3
  have b3 := F3.binds (ps := ["_law_state_here", "_law_many"]) fun _ _ _ _ _ _ us hl => match us, hl with | [_, _], _ => rfl
  have F4 := fun_mk (st := top 6) l4 c4 k4
  have b4 := F4.binds (ps := ["_law_got", "_law_dates", "_law_loss"]) fun _ _ _ _ _ _ us hl => match us, hl with | [_, _, _], _ => rfl
  have F5 := fun_mk (st := top 7) l5 c5 k5
  have b5 := F5.binds (ps := ["_law_found", "_law_due"]) fun _ _ _ _ _ _ us hl => match us, hl with | [_, _], _ => rfl
  have F6 := fun_mk (st := top 8) l6 c6 k6
  have b6 := F6.binds (ps := ["_law_script"]) fun _ _ _ _ _ _ us hl => match us, hl with | [_], _ => rfl
  let T : Tx K mg := {
    k0_late_points_cut_days_points := kb0_0_cut_days_points,
    d2_late_points := dd0_2,
    k2_late_points_cut := kb0_2_cut,
    f_late_points := f0, fd_late_points := _, F_late_points := F0, b_late_points := b0, m_late_points := PySem.W.mg_of X G a0,
    f__law_cell_at := f1, fd__law_cell_at := _, F__law_cell_at := F1, b__law_cell_at := b1, m__law_cell_at := PySem.W.mg_of X G a1,
    f__law_state := f2, fd__law_state := _, F__law_state := F2, b__law_state := b2, m__law_state := PySem.W.mg_of X G a2,
    f__law_take := f3, fd__law_take := _, F__law_take := F3, b__law_take := b3, m__law_take := PySem.W.mg_of X G a3,
    f__law_points := f4, fd__law_points := _, F__law_points := F4, b__law_points := b4, m__law_points := PySem.W.mg_of X G a4,
    f__law_same := f5, fd__law_same := _, F__law_same := F5, b__law_same := b5, m__law_same := PySem.W.mg_of X G a5,
    f_law := fa, fd_law := _, F_law := F6, b_law := b6, m_law := PySem.W.mg_of X G a6,
    m_len := PySem.W.mg_none_of X G z_len,
    m_max := PySem.W.mg_none_of X G z_max,
    m_min := PySem.W.mg_none_of X G z_min,
    m_range := PySem.W.mg_none_of X G z_range,
    m_repr := PySem.W.mg_none_of X G z_repr }
  refine ⟨_, fun s v => (.of_eq rfl : BindsTo s (PySem.W.fnOf "law" "law" (defArgs (top 8)) (defBody (top 8)) (defScope (top 8)) .none kV6 dc6 pm6 an6 cd6 ct6) ⟨[v], []⟩ [("_law_script", v)]), fun base _ _ => ?_⟩
  have G__law_points := ok__law_points (P := l.prog) (w := w) (base := base) T 
  have G__law_same := ok__law_same (P := l.prog) (w := w) (base := base) T 
  have G__law_cell_at := ok__law_cell_at (P := l.prog) (w := w) (base := base) T 
  have G__law_state := ok__law_state (P := l.prog) (w := w) (base := base) T G__law_cell_at
  have G__law_take := ok__law_take (P := l.prog) (w := w) (base := base) T 
  have G_late_points := ok_late_points (P := l.prog) (w := w) (base := base) T 
  have G_law := ok_law (P := l.prog) (w := w) (base := base) T G__law_points G__law_same G__law_state G__law_take G_late_points
  exact G_law
theorem walk {l : PySem.W.OpenLaw} {q : Program} {loose : List Str} {XP : (Str → Option Value) → Heap → Prop} {YP : World → Heap → Prop} {d : DefRec} {K : Params → PySem.W.Frag} (hn : l.most = some 63) (hdf : d.params.defaults = [])
    (hY : ∀ (w : World) (h : Heap), YP w h → (K w.params).In h)
    (F : ∀ (w : World) (mg : Str → Option Value) (fa : Addr) (h : Heap), (K w.params).In h → h.Ns mainGlobals mg → mg d.name = some (.ref fa) →
      ∃ fd : FuncData, (∀ (s : Shared) (u : Value), BindsTo s fd ⟨[u], []⟩ [("_law_script", u)]) ∧ ∀ base : Heap, (K w.params).In base → base.Ns mainGlobals mg → Fg l.prog w (K w.params) mg base CX0 3 fa fd ["_law_script"] (sp_law (K w.params))) :
    PySem.W.WalkO q loose XP YP l.row.toRowW d [] (fun f vs => PySem.call f vs) :=
  walk_go (n := 63) (k := 3) (x := "_law_script") (CX := fun _ => CX0) (sp := fun w => sp_law (K w.params)) hn (by decide) hdf ⟨rfl, by decide, by decide⟩ hY F (fun _ _ a ns hl _ hS => ⟨a, ns, rfl, hS, hl, fun _ => rfl⟩) fun _ _ _ _ _ z => z
end Cm
open PySem PySem.W PyProof.Rows
set_option maxRecDepth 100000 in
set_option maxHeartbeats 0 in
theorem PySem.Challenge.cw_classmarks_k20_points_that_are_late_holds : PySem.Challenge.rw_classmarks_k20_points_that_are_late.Holds := by
  w_on; o_law; k_head; (case hw => w_witness2)
  k_fill
  refine Cm.walk (l := PySem.Challenge.rw_classmarks_k20_points_that_are_late) rfl rfl (fun w h Y => PySem.W.kIn_of Y) ?F
  case F =>
    intro w mg fa h KX G hmg
    refine' Cm.all_mk KX G hmg ?a0 ?l0 ?c0 ?k0 ?d0 ?a1 ?l1 ?c1 ?k1 ?a2 ?l2 ?c2 ?k2 ?a3 ?l3 ?c3 ?k3 ?a4 ?l4 ?c4 ?k4 ?a5 ?l5 ?c5 ?k5 ?a6 ?l6 ?c6 ?k6 ?z_len ?z_max ?z_min ?z_range ?z_repr
    (case a0 => k_is); (case l0 => k_is); (case c0 => k_is); (case k0 => k_is); (case d0 => k_is); (case a1 => k_is); (case l1 => k_is); (case c1 => k_is)
    (case k1 => k_is); (case a2 => k_is); (case l2 => k_is); (case c2 => k_is); (case k2 => k_is); (case a3 => k_is); (case l3 => k_is); (case c3 => k_is)
    (case k3 => k_is); (case a4 => k_is); (case l4 => k_is); (case c4 => k_is); (case k4 => k_is); (case a5 => k_is); (case l5 => k_is); (case c5 => k_is)
    (case k5 => k_is); (case a6 => k_is); (case l6 => k_is); (case c6 => k_is); (case k6 => k_is); (case z_len => k_is); (case z_max => k_is); (case z_min => k_is)
    (case z_range => k_is); (case z_repr => k_is)
