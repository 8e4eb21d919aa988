import PyProof.Rows.All
import Wide.All
import OpenK.AllK
import Wide.FinOn
import HandS.ForMost
import HandS.Wide
import HandS.IsInst
import HandS.TupAny
import HandS.TupMul
import HandS.Style
import HandS.StrMore
import HandS.Small
import HandS.More
import HandS.Text
import PyProof.ListMulRoad
import PyProof.FactsAll.tuple_2
import PySem.Challenge.RW_classmarks_k01_works_known
set_option Elab.async false
set_option linter.all false
set_option maxRecDepth 100000
set_option maxHeartbeats 4000000
/-! ## 1. Promises of defs that run where no guard is up -/
namespace Cm
open PySem PySem.Spec PyProof.Rows L2
/-- a promise, asked only where no repr is under way -/
structure Fg (P : Program) (w : World) (K : PySem.W.Frag) (mg : Str → Option Value)
    (base : Heap) (CX : CXT) (k : Nat) (f : Addr) (fd : FuncData) (ps : List Str) (sp : Sp) : Prop where
  len : ∀ vs H Q E, sp vs H Q E → vs.length = ps.length
  go : ∀ (A : Around) (outer : List Env) (s : Shared) (H : Hp) (args : Args)
    (us : List Value) (vs : List V) (Q : VK) (E : XK),
    Room k A → A.guards = some [] → Env0 P w K mg base A outer s H →
    BindsTo s fd args (ps.zip us) → Vals vs us → sp vs H Q E →
    codeAny (model P w) A (.call (.ref f) args) (CR CX outer P w H s Q E) s
section
variable {P : Program} {w : World} {K : PySem.W.Frag} {mg : Str → Option Value}
  {base : Heap} {CX : CXT} {k : Nat} {f : Addr} {fd : FuncData} {ps : List Str} {sp : Sp}
theorem Fg.of (F : FnOk P w K mg base CX k f fd ps sp) : Fg P w K mg base CX k f fd ps sp :=
  ⟨F.len, fun A outer s H args us vs Q E hr _ => F.run A outer s H args us vs Q E hr⟩
theorem Fg.mono {j : Nat} (F : Fg P w K mg base CX j f fd ps sp) (h : j ≤ k) :
    Fg P w K mg base CX k f fd ps sp :=
  ⟨F.len, fun A outer s H args us vs Q E hr => F.go A outer s H args us vs Q E (hr.mono h)⟩
theorem deeper_guards (A : Around) (env : Env) (h : A.guards = some []) :
    (A.deeper env).guards = some [] := h
end
section
variable {X : Cx} {CX : CXT} {k : Nat} {f C : Addr} {fd : FuncData} {ps : List Str}
  {sp : Sp} {dvs : List V} {ds : List Value} {E : XK} {x m : Str} {p pos apos : Pos}
  {e o : Expr} {es : List Expr} {ta : TE} {t : TA}
theorem go_fn {pins : List (Addr × Obj)} {σ : L2.St} {H : Hp} {s : Shared} {Q : VK}
    {us : List Value} {vs : List V}
    (F : Fg X.prog X.w X.K X.mg X.base CX k f fd ps sp) (hr : Room k X.A)
    (hg : X.A.guards = some []) (hb : Binds X.K fd ps ds) (hd : Vals dvs ds)
    (hx : Passes CX X E) (I : Inv X pins σ H s) (r : Vals vs us)
    (h : sp (vs ++ dvs) H Q E) :
    wpAny (model X.prog X.w) X.A (call (.ref f) us) (EP X pins σ Q) X.xe s := by
  have both := r.append hd
  have hlen : (us ++ ds).length = ps.length := both.length.symm.trans (F.len _ _ _ _ h)
  have body := F.go X.A X.stack s H ⟨us, []⟩ (us ++ ds) (vs ++ dvs) Q E hr hg I.env0
    (hb s us I.kIn hlen) both h
  refine wpAny_call (codeAny_mono body ?_)
  intro r s' hq
  match r, hq with
  | .error e, hq => exact hx pins σ H s e s' I hq
  | .ok (.ret u), hq => exact I.after hq
theorem pg_call (F : Fg X.prog X.w X.K X.mg X.base CX k f fd ps sp) (hr : Room k X.A)
    (hgd : X.A.guards = some []) (hg : Gl X x) (hm : X.mg x = some (.ref f))
    (hk : PySem.W.keepIn X.K (.ref f) = true) (hb : Binds X.K fd ps ds)
    (hd : Vals dvs ds) (hx : Passes CX X E) (ha : PA X (e :: es) t)
    (hdb : (x == ("__debug__" : Str)) = false := by decide)
    (he : starEach (e :: es) X.env = (false, eval e X.env) :: starEach es X.env := by rfl)
    (hpl : (backTo pos (starEach es X.env)).any (·.1) = false := by rfl) :
    PE X (.Call (.Name x p) (e :: es) [] pos) (tCall sp dvs E t) := by
  constructor
  intro pins s σ H Q I h
  have args := ha.run pos pins s σ H _ I h
  refine wpAny_Call_Name_kw (ld_glob I hg hm ?_ hdb)
  refine PySem.W.callWith_K (h₀ := X.base) I.ok.mod.kin hk (thn args ?_) he hpl
  rintro us s1 ⟨vs, H1, I1, r, q⟩
  exact ⟨I1.kIn, go_fn F hr hgd hb hd hx I1 r q⟩
end
section
variable {P : Program} {w : World} {K : PySem.W.Frag} {mg : Str → Option Value} {base : Heap}
/-- a def of the text keeps its promise, by its body -/
theorem fg_of {CX : CXT} {x qual : Str} {st : Stmt} {f : Addr} {fd : FuncData}
    {N ps : List Str} {k : Nat} {sp : Sp} (F : Fun K x qual st f fd)
    (S : FnScope N ps (defScope st)) (len : ∀ vs H Q E, sp vs H Q E → vs.length = ps.length)
    (hbody : ∀ (cdv : Value) (A : Around) (outer : List Env) (s : Shared) (H : Hp)
      (vs : List V) (Q : VK) (E : XK),
      Room k (A.deeper (envOfC qual (defScope st) s.heap.objs.size f cdv)) →
      A.guards = some [] → sp vs H Q E →
      ∃ t, PSs (cxOf CX P w K mg base N qual (defScope st) f cdv A outer s H E) (defBody st) t ∧
        t { nx := fun _ H' => Q .non H', rt := Q } (start N vs) H) :
    Fg P w K mg base CX (k + 1) f fd ps sp := by
  obtain ⟨oc, od, kV, doc, pm, an, cdv, ct, osl, rfl, lk, hcd⟩ := F.ex
  refine ⟨len, ?_⟩
  intro A outer s H args us vs Q E hr hgd env hb r hsp
  have nvs : vs.length = ps.length := len _ _ _ _ hsp
  have old : ∀ b o, base.get? b = some o → s.heap.get? b = some o :=
    fun b o e => (env.bs b o e).1
  have KX : K.In s.heap := env.mod.kin.keeps old
  have lim : s.heap.NoLimit := env.mod.nolimit.keeps old
  have kinds : ∀ y ∈ ps.zip us, (defScope st).names.lookup y.1 = some .local ∨
      ((defScope st).names.lookup y.1 = some .cell ∧
        ((cellsFrom (s.heap.objs.size + 1) (defScope st).names []).lookup y.1).isSome = true) := by
    rintro ⟨n, v⟩ hy
    cases S.par n (List.of_mem_zip hy).1 with
    | inl q => exact .inl q
    | inr q => exact .inr ⟨q, PySem.W.cellsFrom_some _ _ _ (.inl q)⟩
  refine codeAny_call_function hr.depth (KX _ _ lk) rfl S.co S.gen rfl
    (PySem.W.codeRec_of KX hcd) (hb _ _ _ _ ?_)
  refine wpAny_newFunctionEnv_cells S.kind kinds ?_
  intro env' he s1 x
  subst he
  refine ⟨lim.keeps x.toInCall.keep, codeAny_func ?_⟩
  obtain ⟨t, ht, hq⟩ := hbody cdv A outer s H vs Q E (hr.deeper _) hgd hsp
  have I := inv_start (CX := CX) (P := P) (mg := mg) (E := E) S hr.hd env nvs r x
  have leave : ∀ {σ' : L2.St} {H' : Hp} {v : V} {u : Value} {s' : Shared},
      Inv (cxOf CX P w K mg base N qual (defScope st) f cdv A outer s H E) [] σ' H' s' →
      RelV v u → Q v H' → CE outer P w H s Q u s' := by
    intro σ' H' v u s' J rv q
    exact ⟨v, H', J.os, J.bare, J.base, J.hok, rv, q⟩
  refine wpAny_mono (ht.run [] s1 (start N vs) H _ I hq) ?_ (fun e s' hs => hs)
  intro fl s' hs
  match fl, hs with
  | .ret u, hs =>
    obtain ⟨v, σ', H', J, rv, q⟩ := hs
    exact leave J rv q
  | .next, hs =>
    obtain ⟨σ', H', J, q⟩ := hs
    exact leave (v := V.non) (u := Value.none) J rfl q
  | .brk, hs =>
    obtain ⟨_, _, _, q⟩ := hs
    exact False.elim q
  | .cont, hs =>
    obtain ⟨_, _, _, q⟩ := hs
    exact False.elim q
/-- the same for a def that lets no exception out -/
theorem fg_of0 {x qual : Str} {st : Stmt} {f : Addr} {fd : FuncData}
    {N ps : List Str} {k : Nat} {sp : Sp} (F : Fun K x qual st f fd)
    (S : FnScope N ps (defScope st)) (len : ∀ vs H Q E, sp vs H Q E → vs.length = ps.length)
    (hbody : ∀ (cdv : Value) (A : Around) (outer : List Env) (s : Shared) (H : Hp)
      (vs : List V) (Q : VK) (E : XK),
      Room k (A.deeper (envOfC qual (defScope st) s.heap.objs.size f cdv)) →
      A.guards = some [] → sp vs H Q E →
      ∃ t, PSs (cxOf CX0 P w K mg base N qual (defScope st) f cdv A outer s H E).nox (defBody st) t ∧
        t { nx := fun _ H' => Q .non H', rt := Q } (start N vs) H) :
    Fg P w K mg base CX0 (k + 1) f fd ps sp := by
  refine fg_of F S len ?_
  intro cdv A outer s H vs Q E hr hg hsp
  obtain ⟨t, h, q⟩ := hbody cdv A outer s H vs Q E hr hg hsp
  exact ⟨t, h.nox, q⟩
end

/-! ### the law's own call -/
theorem law_go {P : Program} {w : World} {K : PySem.W.Frag} {mg mb : Str → Option Value}
    {CX : CXT} {k : Nat} {fa a : Addr} {fd : FuncData} {x : Str} {sp : Sp} {s₁ : Shared}
    {vs : List Value} {ns : List Int}
    (KX : K.In s₁.heap) (hns : s₁.heap.Ns mainGlobals mg) (hb : s₁.heap.Ns builtinsNs mb)
    (hbb : ∀ x : Str, x ≠ "__name__" → mb x = bootBuiltins x)
    (hlim : s₁.heap.NoLimit) (hg : s₁.gens = #[])
    (ha : s₁.heap.get? a = some { cls := .type "list", data := .seq vs.toArray })
    (hi : IntsAre vs ns) (hl : ns.length ≤ sizeLine) (hr : Room k callerA)
    (F : ∀ base : Heap, K.In base → base.Ns mainGlobals mg → Fg P w K mg base CX k fa fd [x] sp)
    (hbind : ∀ (s : Shared) (u : Value), BindsTo s fd ⟨[u], []⟩ [(x, u)])
    (hsp : ∀ H : Hp, Only H → SqL K H a (ns.map V.int) →
      sp [.ref a] H (fun v _ => v = .bl true) fun _ _ _ => False)
    (hCX : ∀ H e s', CX [] H s₁ (fun _ _ _ => False) e s' → False) :
    codeAny (model P w) callerA (.call (.ref fa) ⟨[.ref a], []⟩)
      (fun r s' => r = .ok (.ret (.bool true)) ∧ OldK s₁.heap s'.heap ∧ s'.os = s₁.os ∧ AllBare s'.gens) s₁ := by
  have nums : Vals (ns.map V.int) vs := vals_ints hi
  have many := hi.length
  -- from any abstract heap that tracks the script at most
  have core : ∀ H : Hp, Only H → SqL K H a (ns.map V.int) → HOk P w H s₁.heap →
      (∀ b, H b ≠ none → b = a) → (H a ≠ none → K.lookup a = none) →
      codeAny (model P w) callerA (.call (.ref fa) ⟨[.ref a], []⟩)
        (fun r s' => r = .ok (.ret (.bool true)) ∧ OldK s₁.heap s'.heap ∧ s'.os = s₁.os ∧ AllBare s'.gens) s₁ := by
    intro H hO hS hok hA hK
    have plain : ∀ {b : Addr} {o : Obj} {es : Array DictEntry} {ep : Nat},
        s₁.heap.get? b = some o → o.data = .dict es ep → H b = none := by
      intro b o es ep e d
      cases q : H b with
      | none => rfl
      | some u =>
        have same : b = a := hA b (by rw [q]; simp)
        rw [same, ha] at e
        cases e
        exact absurd d (by intro z; cases z)
    have nsB : ∀ {b : Addr} {m : Str → Option Value}, s₁.heap.Ns b m → (hidT s₁.heap H).Ns b m := by
      rintro b m ⟨o, es, ep, e, d, r⟩
      exact ⟨o, es, ep, hidT_get e (plain e d), d, r⟩
    have kb : K.In (hidT s₁.heap H) := by
      intro b o e
      refine hidT_get (KX b o e) ?_
      cases q : H b with
      | none => rfl
      | some u =>
        have same : b = a := hA b (by rw [q]; simp)
        subst same
        have none_ := hK (by rw [q]; simp)
        rw [none_] at e
        cases e
    have limit : (hidT s₁.heap H).NoLimit := by
      obtain ⟨mc, h1, h2⟩ := hlim
      exact ⟨mc, nsB h1, h2⟩
    have module_ : Mod K mg (hidT s₁.heap H) := ⟨kb, nsB hns, ⟨mb, nsB hb, hbb⟩, limit⟩
    have e0 : Env0 P w K mg (hidT s₁.heap H) callerA [] s₁ H :=
      ⟨rfl, module_, fun b o e => of_hidT e, Nat.le_of_eq (hidT_size _ _), trivial,
        fun b hb => absurd (show b ∈ ([] : List Addr) from hb) List.not_mem_nil, hok, .of_eq hg⟩
    have run := (F _ kb (nsB hns)).go callerA [] s₁ H ⟨[.ref a], []⟩ [.ref a] [.ref a] _ _ hr rfl e0
      (hbind s₁ (.ref a)) (.cons rfl .nil) (hsp H hO hS)
    refine codeAny_mono run ?_
    intro r s' h
    match r, h with
    | .error e, h => exact (hCX H e s' h).elim
    | .ok (.ret u), h =>
      obtain ⟨v, H', os, bare, un, hok', r', q⟩ := h
      have isT : v = .bl true := q
      subst isT
      obtain rfl : u = Value.bool true := r'
      refine ⟨rfl, OldK.of_keep ?_, os, bare⟩
      intro b o e
      cases q : H b with
      | none => exact un.keep b o e q (fun z => absurd (show b ∈ ([] : List Addr) from z) List.not_mem_nil) List.not_mem_nil
      | some u =>
        rcases hO b with z | ⟨ob, xs, z⟩
        · rw [q] at z
          cases z
        · have later := un.frzs b ob _ z
          obtain ⟨e1, _⟩ := hok b _ z
          obtain ⟨e2, _⟩ := hok' b _ later
          rw [e] at e1
          cases e1
          exact e2
  cases hk : K.lookup a with
  | some o =>
    have e := KX a o hk
    rw [ha] at e
    cases e
    have bare_ : HOk P w (fun _ => none) s₁.heap := fun b u z => by cases z
    exact core (fun _ => none) (fun _ => .inl rfl)
      (.inr ⟨_, vs.toArray, _, hk, rfl, rfl, rfl, by rw [List.size_toArray, many]; exact hl, by simpa using nums⟩)
      bare_ (fun b z => absurd rfl z) (fun z => absurd rfl z)
  | none =>
    let S : Obj := { cls := .type "list", data := .seq vs.toArray }
    let H1 : Hp := fun b => if b = a then some (.frz S (.lst (ns.map V.int))) else none
    have at_a : H1 a = some (.frz S (.lst (ns.map V.int))) := if_pos rfl
    have off : ∀ b, b ≠ a → H1 b = none := fun b hb => if_neg hb
    refine core H1 ?_ (.inl (.inr ⟨S, at_a⟩)) ?_ ?_ (fun _ => hk)
    · intro b
      by_cases hb : b = a
      · exact .inr ⟨_, _, if_pos hb⟩
      · exact .inl (off b hb)
    · intro b u z
      by_cases hb : b = a
      · subst hb
        rw [at_a] at z
        cases z
        exact ⟨ha, by rw [List.length_map]; exact hl, vs, _, nums, ha⟩
      · rw [off b hb] at z
        cases z
    · intro b z
      by_cases hb : b = a
      · exact hb
      · exact absurd (off b hb) z
/-- the goal that the head leaves -/
theorem walk_go {l : PySem.W.OpenLaw} {n k : Nat} {q : Program} {loose : List Str}
    {XP : (Str → Option Value) → Heap → Prop} {YP : World → Heap → Prop} {d : DefRec}
    {K : Params → PySem.W.Frag} {CX : World → CXT} {sp : World → Sp} {x : Str}
    (hn : l.most = some n) (hn2 : n ≤ sizeLine) (hdf : d.params.defaults = [])
    (hr : Room k callerA) (hY : ∀ (w : World) (h : Heap), YP w h → (K w.params).In h)
    (F : ∀ (w : World) (mg : Str → Option Value) (fa : Addr) (h : Heap),
      (K w.params).In h → h.Ns mainGlobals mg → mg d.name = some (.ref fa) →
      ∃ fd : FuncData, (∀ (s : Shared) (u : Value), BindsTo s fd ⟨[u], []⟩ [(x, u)]) ∧
        ∀ base : Heap, (K w.params).In base → base.Ns mainGlobals mg →
          Fg l.prog w (K w.params) mg base (CX w) k fa fd [x] (sp w))
    (hsp : ∀ (w : World) (H : Hp) (a : Addr) (ns : List Int), ns.length ≤ n → Only H →
      SqL (K w.params) H a (ns.map V.int) →
      sp w [.ref a] H (fun v _ => v = .bl true) fun _ _ _ => False)
    (hCX : ∀ (w : World) (H : Hp) (s : Shared) (e : Value) (s' : Shared),
      CX w [] H s (fun _ _ _ => False) e s' → False) :
    PySem.W.WalkO q loose XP YP l.row.toRowW d [] (fun f vs => PySem.call f vs) := by
  refine Att.attach_call hn hdf ?_
  intro w s₀ s₁ mg mb fa o pm cd doc a vs ns G Y ho hd hcd hmg hobj hints hlen hg
  have KX := hY w _ Y
  obtain ⟨fd, hb, hF⟩ := F w mg fa _ KX G.T.g hmg
  exact law_go KX G.T.g G.T.b G.T.builtins G.T.nolimit hg hobj hints (Nat.le_trans hlen hn2) hr hF hb
    (fun H hO hS => hsp w H a ns hlen hO hS) (fun H e s' => hCX w H s₁ e s')
end Cm
set_option Elab.async false
set_option linter.all false
set_option maxRecDepth 100000
set_option maxHeartbeats 4000000
/-! ## 2. Data in the heap, apart from one address -/
namespace Cm
open PySem PySem.Spec PyProof.Rows L2
/-- all but what stands at p is as it was -/
def Keep (p : Addr) (H H' : Hp) : Prop := ∀ b o, b ≠ p → H b = some o → H' b = some o
theorem Keep.refl (p : Addr) (H : Hp) : Keep p H H := fun _ _ _ h => h
theorem Keep.trans {p : Addr} {H H1 H2 : Hp} (a : Keep p H H1) (b : Keep p H1 H2) : Keep p H H2 :=
  fun c o n h => b c o n (a c o n h)
theorem Keep.of {p : Addr} {H H' : Hp} (s : Same H H') : Keep p H H' := fun b o _ h => s b o h
theorem Keep.set {p : Addr} {H : Hp} {o : HO} : Keep p H (upd H p o) := fun b u n h => by
  rw [upd_ne n]; exact h
theorem Keep.new {p q : Addr} {H H' : Hp} {o : HO} (k : Keep p H H') (n : H' q = none) :
    Keep p H (upd H' q o) := fun b u hb h => by
  have := k b u hb h
  rw [upd_ne (ne_of_none this n)]; exact this
theorem Keep.put {p : Addr} {H H' : Hp} {o : HO} (k : Keep p H H') : Keep p H (upd H' p o) :=
  fun b u hb h => by rw [upd_ne hb]; exact k b u hb h
theorem Same.new {q : Addr} {H H' : Hp} {o : HO} (k : Same H H') (n : H' q = none) :
    Same H (upd H' q o) := fun b u h => by
  have := k b u h
  rw [upd_ne (ne_of_none this n)]; exact this
/-- an object that came behind H is changed -/
theorem Same.over {q : Addr} {H H' : Hp} {o : HO} (k : Same H H') (n : H q = none) :
    Same H (upd H' q o) := fun b u h => by
  rw [upd_ne (ne_of_none h n)]; exact k b u h
theorem Keep.over {p q : Addr} {H H' : Hp} {o : HO} (k : Keep p H H') (n : H q = none) :
    Keep p H (upd H' q o) := fun b u hb h => by
  rw [upd_ne (ne_of_none h n)]; exact k b u hb h
theorem Keep.rd {p a : Addr} {H H' : Hp} {u : HO} (k : Keep p H H') (n : a ≠ p) (h : Rd H a u) : Rd H' a u := by
  rcases h with h | ⟨o, h⟩
  · exact .inl (k _ _ n h)
  · exact .inr ⟨o, k _ _ n h⟩
def keyD : Key → PyData
  | .inl i => .int i
  | .inr x => .str x
def valD : V → PyData
  | .int i => .int i
  | _ => .none
def pairD (x : Key × V) : PyData × PyData := (keyD x.1, valD x.2)
mutual
/-- at v stands the data d, and none of it at p -/
inductive Dt (H : Hp) (p : Addr) : V → PyData → Prop
  | non : Dt H p .non .none
  | bl (b : Bool) : Dt H p (.bl b) (.bool b)
  | int (i : Int) : Dt H p (.int i) (.int i)
  | str (x : Str) : Dt H p (.str x) (.str x)
  | lst {a : Addr} {xs : List V} {ds : List PyData} : a ≠ p → H a = some (.lst xs) → DtAll H p xs ds →
      Dt H p (.ref a) (.list ds)
  | tup {a : Addr} {xs : List V} {ds : List PyData} : a ≠ p → H a = some (.tup xs) → DtAll H p xs ds →
      Dt H p (.ref a) (.tuple ds)
  | dct {a : Addr} {kvs : List (Key × V)} : a ≠ p → H a = some (.dK kvs) →
      (∀ x ∈ kvs, ∃ i, x.2 = V.int i) → Dt H p (.ref a) (.dict (kvs.map pairD))
inductive DtAll (H : Hp) (p : Addr) : List V → List PyData → Prop
  | nil : DtAll H p [] []
  | cons {v : V} {vs : List V} {d : PyData} {ds : List PyData} : Dt H p v d → DtAll H p vs ds →
      DtAll H p (v :: vs) (d :: ds)
end
mutual
theorem Dt.keep {p : Addr} {H H' : Hp} (k : Keep p H H') : ∀ {d : PyData} {v : V}, Dt H p v d → Dt H' p v d
  | _, _, .non => .non
  | _, _, .bl b => .bl b
  | _, _, .int i => .int i
  | _, _, .str x => .str x
  | _, _, .lst n r h => .lst n (k _ _ n r) (DtAll.keep k h)
  | _, _, .tup n r h => .tup n (k _ _ n r) (DtAll.keep k h)
  | _, _, .dct n r h => .dct n (k _ _ n r) h
theorem DtAll.keep {p : Addr} {H H' : Hp} (k : Keep p H H') : ∀ {ds : List PyData} {vs : List V},
    DtAll H p vs ds → DtAll H' p vs ds
  | _, _, .nil => .nil
  | _, _, .cons a b => .cons (Dt.keep k a) (DtAll.keep k b)
end
theorem DtAll.length {p : Addr} {H : Hp} : ∀ {ds : List PyData} {vs : List V}, DtAll H p vs ds → vs.length = ds.length
  | _, _, .nil => rfl
  | _, _, .cons _ b => congrArg Nat.succ (DtAll.length b)
theorem DtAll.get {p : Addr} {H : Hp} : ∀ {ds : List PyData} {vs : List V} {i : Nat} {v : V}, DtAll H p vs ds →
    vs[i]? = some v → ∃ d, ds[i]? = some d ∧ Dt H p v d
  | _, _, 0, _, .cons a _, e => by
    have e' := Option.some.inj e
    subst e'
    exact ⟨_, rfl, a⟩
  | _, _, i + 1, _, .cons _ b, e => DtAll.get (i := i) b e
  | _, _, i, _, .nil, e => by simp at e
theorem DtAll.append {p : Addr} {H : Hp} : ∀ {ds es : List PyData} {vs ws : List V}, DtAll H p vs ds → DtAll H p ws es →
    DtAll H p (vs ++ ws) (ds ++ es)
  | _, _, _, _, .nil, b => b
  | _, _, _, _, .cons a r, b => .cons a (DtAll.append r b)
theorem DtAll.take {p : Addr} {H : Hp} : ∀ (n : Nat) {ds : List PyData} {vs : List V}, DtAll H p vs ds →
    DtAll H p (vs.take n) (ds.take n)
  | 0, _, _, _ => .nil
  | _ + 1, _, _, .nil => .nil
  | n + 1, _, _, .cons a b => .cons a (DtAll.take n b)
theorem DtAll.drop {p : Addr} {H : Hp} : ∀ (n : Nat) {ds : List PyData} {vs : List V}, DtAll H p vs ds →
    DtAll H p (vs.drop n) (ds.drop n)
  | 0, _, _, h => h
  | _ + 1, _, _, .nil => .nil
  | n + 1, _, _, .cons _ b => DtAll.drop n b
theorem DtAll.set {p : Addr} {H : Hp} {v : V} {d : PyData} (h : Dt H p v d) : ∀ (n : Nat) {ds : List PyData} {vs : List V},
    DtAll H p vs ds → DtAll H p (vs.set n v) (ds.set n d)
  | _, _, _, .nil => .nil
  | 0, _, _, .cons _ b => .cons h b
  | n + 1, _, _, .cons a b => .cons a (DtAll.set h n b)
theorem DtAll.reverse {p : Addr} {H : Hp} : ∀ {ds : List PyData} {vs : List V}, DtAll H p vs ds →
    DtAll H p vs.reverse ds.reverse
  | _, _, .nil => .nil
  | _, _, .cons a b => by
    rw [List.reverse_cons, List.reverse_cons]
    exact DtAll.append (DtAll.reverse b) (.cons a .nil)

/-! ### what repr tells of it -/
section
variable {X : Cx} {pins : List (Addr × Obj)} {σ : L2.St} {H : Hp} {s : Shared} {p : Addr}
/-- what is known of the pieces behind v -/
def Shows (X : Cx) (s : Shared) (u : Value) (d : PyData) : Prop :=
  (∃ as, Reads s.heap u d as) ∧
  ∃ bs, ReadAtMost s.heap d.depth bs ∧ ReprK X.prog X.w bs s.heap d.depth u d.shown
def ShowsAll (X : Cx) (s : Shared) (us : List Value) (ds : List PyData) : Prop :=
  (∃ as, ReadsAll s.heap us ds as) ∧
  ∃ bs, ReadAtMost s.heap (PyData.depthAll ds) bs ∧
    ReprAllK X.prog X.w bs s.heap (PyData.depthAll ds) us (PyData.shownAll ds)
theorem Shows.leaf {u : Value} {d : PyData} (r : ∃ as, Reads s.heap u d as) (h : ReprIs X.prog X.w u d.shown) : Shows X s u d :=
  ⟨r, [], (fun _ z => by cases z), .of_is h _ _ _⟩
theorem ShowsAll.cons {u : Value} {us : List Value} {d : PyData} {ds : List PyData}
    (a : Shows X s u d) (b : ShowsAll X s us ds) : ShowsAll X s (u :: us) (d :: ds) := by
  obtain ⟨⟨as, r⟩, b1, m1, k1⟩ := a
  obtain ⟨⟨as', r'⟩, b2, m2, k2⟩ := b
  refine ⟨⟨_, .cons r r'⟩, b1 ++ b2, ?_, ?_⟩
  · have l1 : d.depth ≤ PyData.depthAll (d :: ds) := by simp only [PyData.depthAll]; exact Nat.le_max_left _ _
    have l2 : PyData.depthAll ds ≤ PyData.depthAll (d :: ds) := by simp only [PyData.depthAll]; exact Nat.le_max_right _ _
    exact (m1.mono l1).append (m2.mono l2)
  · simp only [PyData.depthAll, PyData.shownAll]
    have x1 := (k1.more (as' := b1 ++ b2) fun c h => List.mem_append_left _ h).level_le (Nat.le_max_left d.depth (PyData.depthAll ds))
    have x2 := k2.more_le (as' := b1 ++ b2) (fun c h => List.mem_append_right _ h) (Nat.le_max_right d.depth (PyData.depthAll ds))
    exact .cons x1 x2
/-- the entries of a dict of numbers -/
theorem dict_pieces {P : Program} {w : World} (h : Heap) : ∀ {kvs : List (Key × V)} {vs : List (Key × Value)} {es : List DictEntry},
    (∀ x ∈ kvs, ∃ i, x.2 = V.int i) → KV kvs vs → Pairs (mixKind P w) es vs →
    PyData.showableKv (kvs.map pairD) = true → (∀ t ∈ PyData.shownKv (kvs.map pairD), t.length ≤ sizeLine) →
    (∃ as, ReadsAll h (es.map (·.key)) ((kvs.map pairD).map (·.1)) as) ∧
    (∃ as, ReadsAll h (es.map (·.val)) ((kvs.map pairD).map (·.2)) as) ∧
    ReprEntriesK P w [] h (PyData.depthKv (kvs.map pairD)) es (PyData.shownKv (kvs.map pairD))
  | [], _, _, _, .nil, .nil, _, _ => ⟨⟨_, .nil⟩, ⟨_, .nil⟩, by simp only [List.map_nil, PyData.shownKv]; exact .nil⟩
  | (k, x) :: kvs, _, _, hi, .cons r t, .cons e1 e2 rest, hs, hz => by
    rename_i kv vs e es
    obtain ⟨i, hx⟩ := hi (k, x) List.mem_cons_self
    simp only at hx
    subst hx
    have hs' : ((keyD k).showable = true ∧ (valD (V.int i)).showable = true) ∧ PyData.showableKv (kvs.map pairD) = true := by
      simpa only [List.map_cons, pairD, PyData.showableKv, Bool.and_eq_true] using hs
    obtain ⟨q1, q2, q3⟩ := dict_pieces (P := P) (w := w) h (fun y hy => hi y (List.mem_cons_of_mem _ hy)) t rest hs'.2
      (fun t ht => hz t (by simp only [List.map_cons, pairD, PyData.shownKv]; exact List.mem_cons_of_mem _ ht))
    obtain ⟨kk, rv⟩ := r
    simp only at kk rv
    obtain ⟨t0, ev⟩ := rv
    obtain ⟨as1, q1⟩ := q1
    obtain ⟨as2, q2⟩ := q2
    have eval : e.val = Value.int i t0 := e2.trans ev
    have len1 := hz ((keyD k).shown ++ ": " ++ (valD (V.int i)).shown) (by simp only [List.map_cons, pairD, PyData.shownKv]; exact List.mem_cons_self)
    rw [strLen_append, strLen_append] at len1
    have hkey : (∃ as, Reads h e.key (keyD k) as) ∧ ReprIs P w e.key (keyD k).shown := by
      rw [← kk] at e1
      rcases keyIs_shape (show keyIs k e.key = true from e1) with ⟨j, u, rfl, ek⟩ | ⟨z, u, rfl, ek⟩
      · rw [ek]
        refine ⟨⟨_, .int j u⟩, ?_⟩
        simp only [keyD, PyData.shown]
        exact ReprIs.int u (by simpa only [keyD, PyData.showable, decide_eq_true_eq] using hs'.1.1)
      · rw [ek]
        refine ⟨⟨_, .str z u⟩, ?_⟩
        simp only [keyD, PyData.shown] at len1 ⊢
        exact ReprIs.str z u (by omega)
    have hval : (∃ as, Reads h e.val (valD (V.int i)) as) ∧ ReprIs P w e.val (valD (V.int i)).shown := by
      rw [eval]
      refine ⟨⟨_, .int i t0⟩, ?_⟩
      simp only [valD, PyData.shown]
      exact ReprIs.int t0 (by simpa only [valD, PyData.showable, decide_eq_true_eq] using hs'.1.2)
    obtain ⟨⟨as3, r3⟩, k3⟩ := hkey
    obtain ⟨⟨as4, r4⟩, k4⟩ := hval
    refine ⟨⟨_, .cons r3 q1⟩, ⟨_, .cons r4 q2⟩, ?_⟩
    simp only [List.map_cons, pairD, PyData.shownKv]
    have up : ∀ {es : List DictEntry} {ps : List Str} {a b : Nat}, a ≤ b → ReprEntriesK P w [] h a es ps → ReprEntriesK P w [] h b es ps := by
      intro es ps a b hab z
      induction z with
      | nil => exact .nil
      | cons z1 z2 _ ih => exact .cons (z1.level_le hab) (z2.level_le hab) ih
    refine .cons (.of_is k3 _ _ _) (.of_is k4 _ _ _) (up ?_ q3)
    simp only [PyData.depthKv]
    omega
mutual
theorem Dt.shows (I : Inv X pins σ H s) : ∀ {d : PyData} {v : V} {u : Value}, Dt H p v d → RelV v u →
    d.showable = true → d.shown.length ≤ sizeLine → Shows X s u d
  | _, _, _, .non, r, _, _ => by
    cases r
    exact .leaf ⟨_, .none⟩ (by simp only [PyData.shown]; exact ReprIs.none)
  | _, _, _, .bl b, r, _, _ => by
    cases r
    exact .leaf ⟨_, .bool b⟩ (by simp only [PyData.shown]; exact ReprIs.bool b)
  | _, _, _, .int i, r, hs, _ => by
    obtain ⟨t, rfl⟩ := r
    exact .leaf ⟨_, .int i t⟩ (by simp only [PyData.shown]; exact ReprIs.int t (by simpa only [PyData.showable, decide_eq_true_eq] using hs))
  | _, _, _, .str x, r, _, hz => by
    obtain ⟨t, rfl⟩ := r
    simp only [PyData.shown] at hz
    exact .leaf ⟨_, .str x t⟩ (by simp only [PyData.shown]; exact ReprIs.str x t hz)
  | .list ds, _, _, .lst (a := a) (xs := xs) n rd ha, r, hs, hz => by
    cases r
    obtain ⟨its, rv, ⟨o, k, ho, hc, _, hd⟩, _⟩ := I.list (SqL.of rd)
    have hz' : (listText (PyData.shownAll ds)).length ≤ sizeLine := by simpa only [PyData.shown] using hz
    obtain ⟨⟨as, rr⟩, bs, m, kk⟩ := DtAll.shows I ha rv (by simpa only [PyData.showable] using hs) (fun t ht => Nat.le_trans (listText_mem_le ht) hz')
    have whole : Reads s.heap (.ref a) (.list ds) _ := .list ho hc hd (by simpa using rr)
    have lt : PyData.depthAll ds < (PyData.list ds).depth := by simp only [PyData.depth]; omega
    have out := not_mem_of_deeper whole lt m
    refine ⟨⟨_, whole⟩, a :: bs, ReadAtMost.cons whole (Nat.le_of_lt lt) m, ?_⟩
    simp only [PyData.depth, PyData.shown]
    cases its with
    | nil =>
      cases rr
      simp only [PyData.shownAll, listText_nil]
      exact ReprK.listEmpty ho hc (by simpa using hd)
    | cons y l => exact ReprK.list ho hc (by simpa using hd) out (by simpa using kk.length_eq) (fun i z e => kk.item i z (by simpa using e))
  | .tuple ds, _, _, .tup (a := a) n rd ha, r, hs, hz => by
    cases r
    obtain ⟨its, rv, ⟨o, ho, hc, k, hd⟩, _⟩ := I.tuple (SqT.of rd)
    have hz' : (tupleText (PyData.shownAll ds)).length ≤ sizeLine := by simpa only [PyData.shown] using hz
    obtain ⟨⟨as, rr⟩, bs, m, kk⟩ := DtAll.shows I ha rv (by simpa only [PyData.showable] using hs) (fun t ht => Nat.le_trans (tupleText_mem_le ht) hz')
    have whole : Reads s.heap (.ref a) (.tuple ds) _ := .tuple ho hc hd (by simpa using rr)
    have lt : PyData.depthAll ds < (PyData.tuple ds).depth := by simp only [PyData.depth]; omega
    have out := not_mem_of_deeper whole lt m
    refine ⟨⟨_, whole⟩, a :: bs, ReadAtMost.cons whole (Nat.le_of_lt lt) m, ?_⟩
    simp only [PyData.depth, PyData.shown]
    exact ReprK.tuple ho hc hd out (by simpa using kk)
  | _, _, _, .dct (a := a) (kvs := kvs) n rd hi, r, hs, hz => by
    cases r
    obtain ⟨_, no1, vs, rel, o, es, ep, ho, hx, hd, _, hp, _⟩ := dk_of I.hok rd
    have hz' : (dictText (PyData.shownKv (kvs.map pairD))).length ≤ sizeLine := by simpa only [PyData.shown] using hz
    obtain ⟨⟨as1, r1⟩, ⟨as2, r2⟩, ents⟩ := dict_pieces s.heap hi rel hp (by simpa only [PyData.showable] using hs) (fun t ht => Nat.le_trans (dictText_mem_le ht) hz')
    have whole : Reads s.heap (.ref a) (.dict (kvs.map pairD)) _ := .dict ho hx.1 hd r1 r2
    have m : ReadAtMost s.heap (PyData.depthKv (kvs.map pairD)) [] := fun _ z => by cases z
    have lt : PyData.depthKv (kvs.map pairD) < (PyData.dict (kvs.map pairD)).depth := by simp only [PyData.depth]; omega
    refine ⟨⟨_, whole⟩, [a], ReadAtMost.cons whole (Nat.le_of_lt lt) m, ?_⟩
    simp only [PyData.depth, PyData.shown]
    exact ReprK.dict ho hx.1 hd no1 List.not_mem_nil ents
theorem DtAll.shows (I : Inv X pins σ H s) : ∀ {ds : List PyData} {vs : List V} {us : List Value}, DtAll H p vs ds → Vals vs us →
    PyData.showableAll ds = true → (∀ t ∈ PyData.shownAll ds, t.length ≤ sizeLine) → ShowsAll X s us ds
  | _, _, _, .nil, r, _, _ => by
    cases r
    exact ⟨⟨_, .nil⟩, [], (fun _ z => by cases z), by simp only [PyData.shownAll]; exact .nil⟩
  | _, _, _, .cons a b, r, hs, hz => by
    cases r with
    | cons r1 r2 =>
      have hs' := hs
      simp only [PyData.showableAll, Bool.and_eq_true] at hs'
      exact .cons (Dt.shows I a r1 hs'.1 (hz _ (by simp only [PyData.shownAll]; exact List.mem_cons_self)))
        (DtAll.shows I b r2 hs'.2 fun t ht => hz t (by simp only [PyData.shownAll]; exact List.mem_cons_of_mem _ ht))
end
end
end Cm
namespace Cm
open PySem PySem.Spec PyProof.Rows L2
section
variable {X : Cx} {pins : List (Addr × Obj)} {σ : L2.St} {H : Hp} {s : Shared} {p : Addr}
theorem old_keeps {s : Shared} : ∀ b o, s.heap.get? b = some o → s.heap.get? b = some o := fun _ _ e => e
/-- repr(x) of data, no repr being under way -/
theorem repr_run (I : Inv X pins σ H s) (hg : X.A.guards = some []) (hu : X.A.units + 64 < cLine) {Q : Value → Shared → Prop} {E : Value → Shared → Prop} :
    ∀ {d : PyData} {v : V} {u : Value}, Dt H p v d → RelV v u → d.showable = true → d.depth ≤ 60 → d.shown.length ≤ sizeLine →
    (∀ h' t tk, (∀ b o, s.heap.get? b = some o → h'.get? b = some o) → Q (.str d.shown t) { s with heap := h', toks := tk }) →
    wpAny (model X.prog X.w) X.A (call (.builtin "repr") [u]) Q E s
  | _, _, _, .non, r, _, _, _, q => by
    cases r
    simp only [PyData.shown] at q
    exact PySem.P.repr_of_none (q s.heap _ _ old_keeps)
  | _, _, _, .bl b, r, _, _, _, q => by
    cases r
    simp only [PyData.shown] at q
    exact PySem.P.repr_of_bool (q s.heap _ _ old_keeps)
  | _, _, _, .int i, r, hs, _, _, q => by
    obtain ⟨t, rfl⟩ := r
    simp only [PyData.shown] at q
    exact PySem.P.repr_of_int (by simpa only [PyData.showable, decide_eq_true_eq] using hs) (q s.heap _ _ old_keeps)
  | _, _, _, .str x, r, _, _, hz, q => by
    obtain ⟨t, rfl⟩ := r
    simp only [PyData.shown] at q hz
    exact PySem.P.repr_of_str (q s.heap _ _ old_keeps) hz
  | .list ds, _, _, .lst (a := a) (xs := xs) n rd ha, r, hs, hd, hz, q => by
    cases r
    obtain ⟨its, rv, ⟨o, k, ho, hc, _, hdat⟩, _⟩ := I.list (SqL.of rd)
    have hz' : (listText (PyData.shownAll ds)).length ≤ sizeLine := by simpa only [PyData.shown] using hz
    obtain ⟨⟨as, rr⟩, bs, m, kk⟩ := DtAll.shows I ha rv (by simpa only [PyData.showable] using hs) (fun t ht => Nat.le_trans (listText_mem_le ht) hz')
    have whole : Reads s.heap (.ref a) (.list ds) _ := .list ho hc hdat (by simpa using rr)
    have lt : PyData.depthAll ds < (PyData.list ds).depth := by simp only [PyData.depth]; omega
    have out := not_mem_of_deeper whole lt m
    refine call_repr_slot (by omega) ⟨o, ho, hc⟩ F.slot_list_repr.toG ?_
    simp only [PyData.shown] at q
    cases its with
    | nil =>
      cases rr
      simp only [PyData.shownAll, listText_nil] at q
      exact call_list_repr_empty ⟨o, ho, hc⟩ ho (by simpa using hdat) ⟨_, _, rfl, q s.heap _ _ old_keeps⟩
    | cons y l =>
      exact call_list_reprK ho hc (by simpa using hdat) out (by simpa using kk.length_eq) (fun i z e => kk.item i z (by simpa using e))
        (A := X.A.in1) hg (fun b _ => Clear.nil b) (by show X.A.units + 1 + _ < cLine; omega) old_keeps (fun h' t tk hk => ⟨_, _, rfl, q h' t tk hk⟩) hz'
  | .tuple ds, _, _, .tup (a := a) n rd ha, r, hs, hd, hz, q => by
    cases r
    obtain ⟨its, rv, ⟨o, ho, hc, k, hdat⟩, _⟩ := I.tuple (SqT.of rd)
    have hz' : (tupleText (PyData.shownAll ds)).length ≤ sizeLine := by simpa only [PyData.shown] using hz
    obtain ⟨⟨as, rr⟩, bs, m, kk⟩ := DtAll.shows I ha rv (by simpa only [PyData.showable] using hs) (fun t ht => Nat.le_trans (tupleText_mem_le ht) hz')
    have whole : Reads s.heap (.ref a) (.tuple ds) _ := .tuple ho hc hdat (by simpa using rr)
    have lt : PyData.depthAll ds < (PyData.tuple ds).depth := by simp only [PyData.depth]; omega
    have out := not_mem_of_deeper whole lt m
    refine call_repr_slot (by omega) ⟨o, ho, hc⟩ F.slot_tuple_repr ?_
    simp only [PyData.shown] at q
    exact call_tuple_reprK ho hc hdat out (by simpa using kk) (A := X.A.in1) hg (fun b _ => Clear.nil b)
      (by show X.A.units + 1 + _ < cLine; omega) old_keeps (fun h' t tk hk => ⟨_, _, rfl, q h' t tk hk⟩) hz'
  | _, _, _, .dct (a := a) (kvs := kvs) n rd hi, r, hs, hd, hz, q => by
    cases r
    obtain ⟨_, no1, vs, rel, o, es, ep, ho, hx, hdat, _, hp, _⟩ := dk_of I.hok rd
    have hz' : (dictText (PyData.shownKv (kvs.map pairD))).length ≤ sizeLine := by simpa only [PyData.shown] using hz
    obtain ⟨⟨as1, r1⟩, ⟨as2, r2⟩, ents⟩ := dict_pieces s.heap hi rel hp (by simpa only [PyData.showable] using hs) (fun t ht => Nat.le_trans (dictText_mem_le ht) hz')
    simp only [PyData.depth] at hd
    simp only [PyData.shown] at q
    refine call_repr_slot (by omega) ⟨o, ho, hx.1⟩ F.slot_dict_repr ?_
    exact call_dict_reprK ho hx.1 hdat no1 List.not_mem_nil ents (A := X.A.in1) hg (fun b _ => Clear.nil b)
      (by show X.A.units + 1 + _ < cLine; omega) old_keeps (fun h' t tk hk => ⟨_, _, rfl, q h' t tk hk⟩) hz'
/-- data that is told within the lines -/
structure Fit (m n : Nat) (d : PyData) : Prop where
  leaves : d.leavesShort 250 = true
  sh : d.showable = true
  dp : d.depth ≤ m
  bk : d.bulk ≤ n
theorem Fit.shown {m n : Nat} {d : PyData} (f : Fit m n d) (h : n ≤ 60000) : d.shown.length ≤ sizeLine := by
  have h1 := PyData.shown_le_bulk 250 (by decide) d f.leaves
  have h2 := f.bk
  have h3 : (250 + 2) * d.bulk ≤ 252 * 60000 := Nat.mul_le_mul (Nat.le_refl _) (Nat.le_trans h2 h)
  have h4 : 252 * 60000 + 250 ≤ sizeLine := by decide
  omega
/-- repr(x) -/
def rRepr (p : Addr) : List V → Hp → VK → Prop := fun xs H Q => ∃ (x : V) (d : PyData), xs = [x] ∧ Dt H p x d ∧ Fit 60 60000 d ∧ Q (.str d.shown) H
theorem call_repr (hg : X.A.guards = some []) (hu : X.A.units + 64 < cLine) (p : Addr) : CallR X (.builtin "repr") (rRepr p) := by
  intro pins s σ H xs us Q I r h
  obtain ⟨x, d, rfl, hd, f, q⟩ := h
  cases r with
  | cons rx rt =>
    cases rt
    exact repr_run I hg hu hd rx f.sh f.dp (f.shown (Nat.le_refl _)) fun h' t tk hk => ⟨.str d.shown, H, I.kept hk, ⟨_, rfl⟩, q⟩
end
end Cm
set_option Elab.async false
set_option linter.all false
set_option maxRecDepth 100000
set_option maxHeartbeats 4000000
/-! ## 3. Steps of a reading -/
namespace Cm
open PySem PySem.Spec PyProof.Rows L2
section
variable {K : PySem.W.Frag} {H : Hp} {Q : VK} {σ : L2.St} {D : Ends}
theorem r_var {i : Nat} {v : V} (h : σ[i]? = some (some v)) (q : Q v H) : tVar i σ H Q := ⟨v, h, q⟩
theorem r_c {v : V} (q : Q v H) : tC v σ H Q := q
theorem r_op {r : R2} {ta tb : TE} (q : ta σ H fun x H1 => tb σ H1 fun y H2 => r x y H2 Q) : tOp r ta tb σ H Q := q
theorem r_un {r : V → Hp → VK → Prop} {ta : TE} (q : ta σ H fun x H1 => r x H1 Q) : tUn r ta σ H Q := q
theorem r_rI0 {g : Int → Int → V} {i j : Int} (q : Q (g i j) H) : rI0 g (.int i) (.int j) H Q := ⟨i, j, rfl, rfl, q⟩
theorem r_rI {C : Int → Int → Prop} {g : Int → Int → V} {i j : Int} (c : C i j) (q : Q (g i j) H) :
    rI C g (.int i) (.int j) H Q := ⟨i, j, rfl, rfl, c, q⟩
theorem r_rU {g : Int → V} {i : Int} (q : Q (g i) H) : rU g (.int i) H Q := ⟨i, rfl, q⟩
theorem r_eqI {i j : Int} (q : Q (.bl (decide (i = j))) H) : rEq (.int i) (.int j) H Q := by
  refine ⟨rfl, ?_⟩
  rw [show decide (V.int i = V.int j) = decide (i = j) from by
    by_cases h : i = j
    · rw [h, decide_eq_true rfl, decide_eq_true rfl]
    · rw [decide_eq_false h, decide_eq_false (fun z => h (V.int.inj z))]]
  exact q
theorem r_neI {i j : Int} (q : Q (.bl (!decide (i = j))) H) : rNe (.int i) (.int j) H Q := by
  refine ⟨rfl, ?_⟩
  rw [show decide (V.int i = V.int j) = decide (i = j) from by
    by_cases h : i = j
    · rw [h, decide_eq_true rfl, decide_eq_true rfl]
    · rw [decide_eq_false h, decide_eq_false (fun z => h (V.int.inj z))]]
  exact q
theorem r_eqS {i j : Str} (q : Q (.bl (decide (i = j))) H) : rEq (.str i) (.str j) H Q := by
  refine ⟨rfl, ?_⟩
  rw [show decide (V.str i = V.str j) = decide (i = j) from by
    by_cases h : i = j
    · rw [h, decide_eq_true rfl, decide_eq_true rfl]
    · rw [decide_eq_false h, decide_eq_false (fun z => h (V.str.inj z))]]
  exact q
theorem r_neS {i j : Str} (q : Q (.bl (!decide (i = j))) H) : rNe (.str i) (.str j) H Q := by
  refine ⟨rfl, ?_⟩
  rw [show decide (V.str i = V.str j) = decide (i = j) from by
    by_cases h : i = j
    · rw [h, decide_eq_true rfl, decide_eq_true rfl]
    · rw [decide_eq_false h, decide_eq_false (fun z => h (V.str.inj z))]]
  exact q
theorem r_nil {Q : List V → Hp → Prop} (q : Q [] H) : tNil σ H Q := q
theorem r_cons {ta : TE} {tr : TA} {Q : List V → Hp → Prop} (q : ta σ H fun x H1 => tr σ H1 fun xs H2 => Q (x :: xs) H2) :
    tCons ta tr σ H Q := q
theorem r_tup {t : TA} (q : t σ H fun xs H1 => xs.length ≤ sizeLine ∧ ∀ p, H1 p = none → Q (.ref p) (upd H1 p (.tup xs))) : tTup t σ H Q := q
theorem r_lst {t : TA} (q : t σ H fun xs H1 => xs.length ≤ sizeLine ∧ ∀ p, H1 p = none → Q (.ref p) (upd H1 p (.lst xs))) : tLst t σ H Q := q
theorem r_small {n : Nat} {P : Prop} (h : n ≤ 1000) (q : P) : n ≤ sizeLine ∧ P := ⟨Nat.le_trans h (by decide), q⟩
theorem r_cb {r : List V → Hp → VK → Prop} {t : TA} (q : t σ H fun vs H1 => r vs H1 Q) : tCB r t σ H Q := q
theorem r_call {sp : Sp} {dvs : List V} {E : XK} {t : TA} (q : t σ H fun vs H1 => sp (vs ++ dvs) H1 Q E) : tCall sp dvs E t σ H Q := q
theorem r_if {t : TT} {ta tb : TE} (q : t σ H fun c H1 => if c = true then ta σ H1 Q else tb σ H1 Q) : tIf t ta tb σ H Q := q
theorem r_test {t : TE} {Q : Bool → Hp → Prop} (q : t σ H fun x H' => ∃ k, x = .bl k ∧ Q k H') : tTest t σ H Q := q
theorem r_B {t : TE} {Q : Bool → Hp → Prop} (q : t σ H fun x H1 => ∃ c, x = .bl c ∧ Q c H1) : tB t σ H Q := q
theorem r_isbl {b : Bool} {Q : Bool → Prop} (q : Q b) : ∃ c, V.bl b = V.bl c ∧ Q c := ⟨b, rfl, q⟩
theorem r_and {t u : TT} {Q : Bool → Hp → Prop} (q : t σ H fun c H1 => if c = true then u σ H1 Q else Q false H1) : tAnd t u σ H Q := q
theorem r_or {t u : TT} {Q : Bool → Hp → Prop} (q : t σ H fun c H1 => if c = true then Q true H1 else u σ H1 Q) : tOr t u σ H Q := q
theorem r_not {t : TT} {Q : Bool → Hp → Prop} (q : t σ H fun c H1 => Q (!c) H1) : tNot t σ H Q := q
theorem r_andV {ta tb : TE} (q : ta σ H fun x H1 => ∃ c, x = .bl c ∧ if c = true then tb σ H1 Q else Q (.bl false) H1) : tAndV ta tb σ H Q := q
theorem r_orV {ta tb : TE} (q : ta σ H fun x H1 => ∃ c, x = .bl c ∧ if c = true then Q (.bl true) H1 else tb σ H1 Q) : tOrV ta tb σ H Q := q
theorem r_notV {ta : TE} (q : ta σ H fun x H1 => ∃ c, x = .bl c ∧ Q (.bl (!c)) H1) : tNotV ta σ H Q := q
theorem r_chain {r r' : R2} {ta tb tc : TE} (q : ta σ H fun x H1 => tb σ H1 fun y H2 => r x y H2 fun z H3 => ∃ k, z = .bl k ∧
    if k = true then tc σ H3 fun u H4 => r' y u H4 Q else Q (.bl false) H3) : tChain r r' ta tb tc σ H Q := q
theorem r_ite {c : Bool} {A B : Prop} (h1 : c = true → A) (h2 : c = false → B) : if c = true then A else B := by
  cases c with
  | true => exact iteT (h1 rfl)
  | false => exact iteF (h2 rfl)
-- statements
theorem r_next (q : D.nx σ H) : tNext D σ H := q
theorem r_seq {t u : TS} (q : t { nx := u D, rt := D.rt, bk := D.bk, ct := D.ct } σ H) : tSeq t u D σ H := q
theorem r_ret {te : TE} (q : te σ H D.rt) : tRet te D σ H := q
theorem r_retN (q : D.rt .non H) : tRetN D σ H := q
theorem r_drop {te : TE} (q : te σ H fun _ H1 => D.nx σ H1) : tDrop te D σ H := q
theorem r_ifS {c : TT} {t u : TS} (q : c σ H fun b H1 => if b = true then t D σ H1 else u D σ H1) : tIfS c t u D σ H := q
theorem r_asg {te : TE} {g : TG} (q : te σ H fun x H1 => g x σ H1 D.nx) : tAsg te g D σ H := q
theorem r_break (q : D.bk σ H) : tBreak D σ H := q
theorem r_cont (q : D.ct σ H) : tCont D σ H := q
theorem r_gname {i : Nat} {v : V} {Q : L2.St → Hp → Prop} {σ' : L2.St} (e : σ.set i (some v) = σ') (q : Q σ' H) : gName i v σ H Q := by
  subst e; exact q
theorem r_gsub {to ti : TE} {t : TSet} {v : V} {Q : L2.St → Hp → Prop} (q : to σ H fun o H1 => ti σ H1 fun i H2 => t o i v H2 fun H3 => Q σ H3) :
    gSub to ti t v σ H Q := q
theorem r_gnil {Q : L2.St → Hp → Prop} (q : Q σ H) : gNil [] σ H Q := ⟨rfl, q⟩
theorem r_gcons {t : TG} {u : TGs} {v : V} {r : List V} {Q : L2.St → Hp → Prop} (q : t v σ H fun σ' H' => u r σ' H' Q) : gCons t u (v :: r) σ H Q := ⟨v, r, rfl, q⟩
theorem r_gtup {n : Nat} {t : TGs} {a : Addr} {xs : List V} {Q : L2.St → Hp → Prop} (h : H a = some (.tup xs)) (e : xs.length = n) (q : t xs σ H Q) :
    gTup K n t (.ref a) σ H Q := ⟨a, xs, rfl, SqT.of h, e, q⟩
theorem r_par {i j : Nat} {ta : TA} (q : ta σ H fun vs H1 => ∃ v w, vs = [v, w] ∧ D.nx ((σ.set i (some v)).set j (some w)) H1) : tPar i j ta D σ H := q
theorem r_par3 {i j l : Nat} {ta : TA} (q : ta σ H fun vs H1 => ∃ u v w, vs = [u, v, w] ∧ D.nx (((σ.set i (some u)).set j (some v)).set l (some w)) H1) : tPar3 i j l ta D σ H := q
theorem r_two {v w : V} {Q : V → V → Prop} (q : Q v w) : ∃ x y, [v, w] = [x, y] ∧ Q x y := ⟨v, w, rfl, q⟩
theorem r_three {u v w : V} {Q : V → V → V → Prop} (q : Q u v w) : ∃ x y z, [u, v, w] = [x, y, z] ∧ Q x y z := ⟨u, v, w, rfl, q⟩
-- items
theorem r_ixL {p : Addr} {xs : List V} {i : Int} {v : V} (h : H p = some (.lst xs)) (e : atI xs i = some v) (q : Q v H) : rIx K (.ref p) (.int i) H Q :=
  .inl ⟨p, xs, i, v, rfl, rfl, SqL.of h, e, q⟩
theorem r_ixT {p : Addr} {xs : List V} {i : Int} {v : V} (h : H p = some (.tup xs)) (e : atI xs i = some v) (q : Q v H) : rIx K (.ref p) (.int i) H Q :=
  .inr (.inl ⟨p, xs, i, v, rfl, rfl, SqT.of h, e, q⟩)
theorem r_ixS {z : Str} {i : Int} {c : Nat} (h : z.length ≤ sizeLine) (e : atI z.cps.toList i = some c) (q : Q (.str ⟨#[c]⟩) H) : rIx K (.str z) (.int i) H Q :=
  .inr (.inr ⟨z, i, c, rfl, rfl, h, e, q⟩)
theorem atI_in {α : Type} {xs : List α} {i : Int} (h0 : 0 ≤ i) (h : i < xs.length) : ∃ v, v ∈ xs ∧ atI xs i = some v := by
  obtain ⟨k, rfl⟩ := Int.eq_ofNat_of_zero_le h0
  have hk : k < xs.length := by omega
  exact ⟨xs[k], List.getElem_mem hk, atI_nat (List.getElem?_eq_getElem hk)⟩
/-- an item of a list at a drawn place -/
theorem r_pickL {p : Addr} {xs : List V} {i : Int} (h : H p = some (.lst xs)) (h0 : 0 ≤ i) (h1 : i < xs.length) (q : ∀ v, v ∈ xs → Q v H) : rIx K (.ref p) (.int i) H Q := by
  obtain ⟨v, m, e⟩ := atI_in h0 h1
  exact r_ixL h e (q v m)
theorem r_setL {p : Addr} {xs ys : List V} {k : Int} {j : Nat} {v : V} {Q : Hp → Prop} (h : H p = some (.lst xs)) (e : ixN xs.length k = some j) (e2 : xs.set j v = ys) (q : Q (upd H p (.lst ys))) :
    rSetL (.ref p) (.int k) v H Q := ⟨p, xs, k, j, rfl, rfl, h, e, e2 ▸ q⟩
theorem r_setAt {p : Addr} {xs : List V} {k : Int} {v : V} {Q : Hp → Prop} (h : H p = some (.lst xs)) (h0 : 0 ≤ k) (h1 : k < xs.length) (q : Q (upd H p (.lst (xs.set k.toNat v)))) :
    rSetL (.ref p) (.int k) v H Q := ⟨p, xs, k, k.toNat, rfl, rfl, h, by unfold ixN; rw [if_pos h0, if_pos h1], q⟩
theorem iteT_of {c : Bool} {A B : Prop} (e : c = true) (h : A) : if c = true then A else B := by rw [e]; exact iteT h
theorem iteF_of {c : Bool} {A B : Prop} (e : c = false) (h : B) : if c = true then A else B := by rw [e]; exact iteF h
theorem r_conv {a b : Bool} (e : a = b) (q : Q (.bl a) H) : Q (.bl b) H := e ▸ q
theorem r_itup {te : TE} {R : It → Hp → Prop} (q : te σ H fun x H1 => ∃ a, x = .ref a ∧ (∃ xs, SqT K H1 a xs) ∧ R (Itt K a) H1) : iTup K te σ H R := q
theorem r_ilst {te : TE} {R : It → Hp → Prop} (q : te σ H fun x H1 => ∃ a, x = .ref a ∧ (∃ xs, SqL K H1 a xs) ∧ R (Itl K a) H1) : iList K te σ H R := q
theorem r_atT {a : Addr} {xs : List V} {R : Addr → Prop} (h : H a = some (.tup xs)) (q : R a) : ∃ b, V.ref a = .ref b ∧ (∃ xs, SqT K H b xs) ∧ R b := ⟨a, rfl, ⟨xs, SqT.of h⟩, q⟩
theorem r_atL {a : Addr} {xs : List V} {R : Addr → Prop} (h : H a = some (.lst xs)) (q : R a) : ∃ b, V.ref a = .ref b ∧ (∃ xs, SqL K H b xs) ∧ R b := ⟨a, rfl, ⟨xs, SqL.of h⟩, q⟩
theorem r_irng1 {ta : TA} {R : It → Hp → Prop} (q : ta σ H fun vs H1 => ∃ j : Int, vs = [.int j] ∧ -(2 ^ 62) ≤ j ∧ j < 2 ^ 62 ∧ R (Itr 0 j.toNat) H1) : iRng1 ta σ H R := q
theorem r_rng {i : Int} {R : Int → Prop} (h : -(2 ^ 62) ≤ i) (h' : i < 2 ^ 62) (q : R i) : ∃ j : Int, [V.int i] = [.int j] ∧ -(2 ^ 62) ≤ j ∧ j < 2 ^ 62 ∧ R j := ⟨i, rfl, h, h', q⟩
theorem r_append {l : Addr} {xs : List V} {y : V} (h : H l = some (.lst xs)) (e : xs.length < 1000) (q : Q .non (upd H l (.lst (xs ++ [y])))) :
    rAppend (.ref l) [y] H Q := ⟨l, xs, y, rfl, rfl, h, Nat.lt_of_lt_of_le e (by decide), q⟩
theorem r_bm {T : String} {r : V → List V → Hp → VK → Prop} {to : TE} {t : TA}
    (q : to σ H fun x H1 => tyV K T x H1 ∧ t σ H1 fun xs H2 => r x xs H2 Q) : tBM K T r to t σ H Q := q
theorem r_bm0 {T : String} {r : V → List V → Hp → VK → Prop} {to : TE}
    (q : to σ H fun x H1 => tyV K T x H1 ∧ r x [] H1 Q) : tBM0 K T r to σ H Q := q
theorem r_tyL {l : Addr} {xs : List V} {P : Prop} (h : H l = some (.lst xs)) (q : P) : tyV K "list" (.ref l) H ∧ P :=
  ⟨Or.inl ⟨rfl, _, SqL.of h⟩, q⟩
theorem r_tyS {z : Str} {P : Prop} (q : P) : tyV K "str" (.str z) H ∧ P := ⟨rfl, q⟩
end
/-! ### operators of several kinds of things -/
theorem opOr {X : Cx} {f : Value → Value → Sem Value} {r r' : R2} (h : OpR X f r) (h' : OpR X f r') :
    OpR X f (fun x y H Q => r x y H Q ∨ r' x y H Q) := by
  intro pins s σ H x y v u Q I rx ry q
  rcases q with q | q
  · exact h pins s σ H x y v u Q I rx ry q
  · exact h' pins s σ H x y v u Q I rx ry q
theorem callOr {X : Cx} {f : Value} {r r' : List V → Hp → VK → Prop} (h : CallR X f r) (h' : CallR X f r') :
    CallR X f (fun xs H Q => r xs H Q ∨ r' xs H Q) := by
  intro pins s σ H xs us Q I rx q
  rcases q with q | q
  · exact h pins s σ H xs us Q I rx q
  · exact h' pins s σ H xs us Q I rx q
def rAddS : R2 := fun x y H Q => ∃ i j, x = .str i ∧ y = .str j ∧ i.length + j.length ≤ sizeLine ∧ Q (.str (i ++ j)) H
/-- + -/
def rPlus (K : PySem.W.Frag) : R2 := fun x y H Q => rI0 (fun i j => .int (i + j)) x y H Q ∨ (rAddS x y H Q ∨ (rCat x y H Q ∨ rCatA K x y H Q))
theorem op_plus {X : Cx} : OpR X (binaryOp .Add) (rPlus X.K) := opOr op_add (opOr op_add_str (opOr op_cat op_catA))
/-- * -/
def rTimes (K : PySem.W.Frag) : R2 := fun x y H Q => rI CMulW (fun i j => .int (i * j)) x y H Q ∨ (rRep x y H Q ∨ rRepT K x y H Q)
theorem op_times {X : Cx} : OpR X (binaryOp .Mult) (rTimes X.K) := opOr op_mulW (opOr op_rep op_repT)
/-- == and != -/
def rSame (K : PySem.W.Frag) : R2 := fun x y H Q => rEq x y H Q ∨ rEqD K x y H Q
def rUnlike (K : PySem.W.Frag) : R2 := fun x y H Q => rNe x y H Q ∨ rNeD K x y H Q
theorem op_same {X : Cx} (hu : X.A.units + 64 < cLine) : OpR X (compareOp .Eq) (rSame X.K) := opOr op_eq (op_eqD hu)
theorem op_unlike {X : Cx} (hu : X.A.units + 64 < cLine) : OpR X (compareOp .NotEq) (rUnlike X.K) := opOr op_ne (op_neD hu)
/-- // -/
def rDiv : R2 := rI CDivW fun i j => .int (i / j)
def rMod : R2 := rI (fun _ j => 0 < j) fun i j => .int (i % j)
theorem op_div {X : Cx} : OpR X (binaryOp .FloorDiv) rDiv := op_fdivW
theorem op_rest {X : Cx} : OpR X (binaryOp .Mod) rMod := op_mod
def rPow : R2 := rI CPow fun i j => .int (i ^ j.toNat)
theorem op_power {X : Cx} : OpR X (binaryOp .Pow) rPow := op_pow
def rLen (K : PySem.W.Frag) : List V → Hp → VK → Prop := fun xs H Q => ∃ x n, xs = [x] ∧ LenV K x H n ∧ Q (.int n) H
theorem call_size {X : Cx} : CallR X (.builtin "len") (rLen X.K) := call_len
def rMin2 : List V → Hp → VK → Prop := fun xs H Q => ∃ i j, xs = [.int i, .int j] ∧ Q (.int (if j < i then j else i)) H
def rMax2 : List V → Hp → VK → Prop := fun xs H Q => ∃ i j, xs = [.int i, .int j] ∧ Q (.int (if j > i then j else i)) H
theorem call_least {X : Cx} (hc : X.calm = true) : CallR X (.builtin "min") rMin2 := call_min2 hc
theorem call_most {X : Cx} (hc : X.calm = true) : CallR X (.builtin "max") rMax2 := call_max2 hc
def rListOf (K : PySem.W.Frag) : List V → Hp → VK → Prop := fun xs H Q => ∃ p ys, xs = [.ref p] ∧ (SqL K H p ys ∨ SqT K H p ys) ∧ ∀ l, H l = none → Q (.ref l) (upd H l (.lst ys))
theorem call_listed {X : Cx} : CallR X (.type "list") (rListOf X.K) := call_list_of
def rTupOf (K : PySem.W.Frag) : List V → Hp → VK → Prop := fun xs H Q => ∃ p ys, xs = [.ref p] ∧ ((SqL K H p ys ∧ ∀ l, H l = none → Q (.ref l) (upd H l (.tup ys))) ∨ (SqT K H p ys ∧ Q (.ref p) H))
theorem call_tupled {X : Cx} : CallR X (.type "tuple") (rTupOf X.K) := call_tuple_of
def rSlS : V → Option Int → Option Int → Hp → VK → Prop := fun x lo hi H Q => ∃ z : Str, x = .str z ∧ z.length ≤ sizeLine ∧ Q (.str (cutS z lo hi)) H
def rCut (K : PySem.W.Frag) : V → Option Int → Option Int → Hp → VK → Prop := fun x lo hi H Q => rSlL K x lo hi H Q ∨ (rSlA K x lo hi H Q ∨ rSlS x lo hi H Q)
theorem sl_cut {X : Cx} : SlR X (rCut X.K) := sl_list.or (sl_tupA.or sl_str)
def rInsert : V → List V → Hp → VK → Prop := fun x vs H Q => ∃ (l : Addr) (xs : List V) (i : Int) (y : V), x = .ref l ∧ vs = [.int i, y] ∧ H l = some (.lst xs) ∧ xs.length < sizeLine ∧ 0 ≤ i ∧ i < 2 ^ 63 ∧
    Q .non (upd H l (.lst (xs.take i.toNat ++ [y] ++ xs.drop i.toNat)))
theorem mt_ins {X : Cx} : MtR X "list.insert" rInsert := mt_insert
def rUpper : V → List V → Hp → VK → Prop := fun x xs H Q => ∃ a, x = .str a ∧ xs = [] ∧ a.length ≤ 5592405 ∧ Q (.str (Txt.upper a)) H
theorem mt_up {X : Cx} : MtR X "str.upper" rUpper := mt_upper
def rJoin (K : PySem.W.Frag) : V → List V → Hp → VK → Prop := fun x xs H Q => ∃ a p, ∃ ys : List Str, x = .str a ∧ xs = [.ref p] ∧ (SqL K H p (ys.map V.str) ∨ SqT K H p (ys.map V.str)) ∧
    (ys.map (·.length)).sum + ys.length * a.length ≤ 16777216 ∧ Q (.str (Txt.join a ys)) H
theorem mt_joined {X : Cx} : MtR X "str.join" (rJoin X.K) := mt_join
/-- the name of a kind -/
def kindD : PyData → String
  | .none => "NoneType" | .bool _ => "bool" | .int _ => "int" | .str _ => "str"
  | .list _ => "list" | .tuple _ => "tuple" | .dict _ => "dict"
theorem Dt.kind {K : PySem.W.Frag} {H : Hp} {p : Addr} {v : V} {d : PyData} (h : Dt H p v d) : TyX K H v (.type (kindD d)) := by
  cases h with
  | non => exact .base .non
  | bl b => exact .base (.bl b)
  | int i => exact .base (.int i)
  | str x => exact .base (.str x)
  | lst _ e _ => exact .base (.lst e)
  | tup _ e _ => exact .base (.tup e)
  | dct _ e _ => exact .base (.dK e)
/-- isinstance(x, T) of data -/
def isD (T : String) : PyData → Bool
  | .none => T == "NoneType" | .bool _ => T == "bool" || T == "int" | .int _ => T == "int" | .str _ => T == "str"
  | .list _ => T == "list" | .tuple _ => T == "tuple" | .dict _ => T == "dict"
theorem kit_isD {K : PySem.W.Frag} (d : PyData) {T : String} (hT : T = "int" ∨ T = "bool" ∨ T = "str" ∨ T = "tuple" ∨ T = "list" ∨ T = "dict") :
    PySem.W.kitOne K (.type (kindD d)) (.type T) = some (isD T d) := by
  refine kit_ty ?_
  rcases hT with h | h | h | h | h | h <;> subst h <;> cases d <;> simp only [kindD, isD] <;> decide +kernel
section
variable {K : PySem.W.Frag} {H : Hp} {Q : VK} {σ : L2.St}
theorem r_isi {p : Addr} {x : V} {d : PyData} {T : String} {b : Bool} (hd : Dt H p x d) (hT : T = "int" ∨ T = "bool" ∨ T = "str" ∨ T = "tuple" ∨ T = "list" ∨ T = "dict")
    (e : isD T d = b) (q : Q (.bl b) H) : rIsi K [x, .ty T] H Q := ⟨x, .ty T, _, .type T, _, rfl, .ty T, hd.kind, e ▸ kit_isD d hT, q⟩
theorem r_plusI {i j : Int} (q : Q (.int (i + j)) H) : rPlus K (.int i) (.int j) H Q := .inl ⟨i, j, rfl, rfl, q⟩
theorem r_plusS {i j : Str} (h : i.length + j.length ≤ sizeLine) (q : Q (.str (i ++ j)) H) : rPlus K (.str i) (.str j) H Q := .inr (.inl ⟨i, j, rfl, rfl, h, q⟩)
theorem r_plusL {l b : Addr} {xs zs : List V} (h : H l = some (.lst xs)) (h' : H b = some (.lst zs)) (e : xs.length + zs.length ≤ 1000)
    (q : ∀ p, H p = none → Q (.ref p) (upd H p (.lst (xs ++ zs)))) : rPlus K (.ref l) (.ref b) H Q := .inr (.inr (.inl ⟨l, b, xs, zs, rfl, rfl, h, h', Nat.le_trans e (by decide), q⟩))
theorem r_plusT {l b : Addr} {xs zs : List V} (h : H l = some (.tup xs)) (h' : H b = some (.tup zs)) (e : xs.length + zs.length ≤ sizeLine)
    (q0 : xs = [] → Q (.ref b) H) (q1 : xs ≠ [] → zs = [] → Q (.ref l) H) (q2 : xs ≠ [] → zs ≠ [] → ∀ p, H p = none → Q (.ref p) (upd H p (.tup (xs ++ zs)))) :
    rPlus K (.ref l) (.ref b) H Q := .inr (.inr (.inr ⟨l, b, xs, zs, rfl, rfl, SqT.of h, SqT.of h', e, q0, q1, q2⟩))
theorem r_timesI {i j : Int} (h : i.natAbs < 2 ^ 200) (h' : j.natAbs < 2 ^ 200) (q : Q (.int (i * j)) H) : rTimes K (.int i) (.int j) H Q :=
  .inl ⟨i, j, rfl, rfl, wide_mul h h' (by decide) (by decide) (by decide), q⟩
theorem big_of {i : Int} {b : Nat} (h : i.natAbs ≤ 2 ^ b) (hb : b < 200) : i.natAbs < 2 ^ 200 :=
  Nat.lt_of_le_of_lt h (Nat.pow_lt_pow_right (by decide) hb)
theorem r_timesL {l : Addr} {k : Int} {xs : List V} (h : H l = some (.lst xs)) (h0 : 0 ≤ k) (h1 : k ≤ 1000) (h2 : xs.length ≤ 1000)
    (q : ∀ p, H p = none → Q (.ref p) (upd H p (.lst (List.replicate k.toNat xs).flatten))) : rTimes K (.ref l) (.int k) H Q := by
  refine .inr (.inl ⟨l, k, xs, rfl, rfl, h, by omega, by omega, ?_, q⟩)
  have : xs.length * k.toNat ≤ 1000 * 1000 := Nat.mul_le_mul h2 (by omega)
  exact Nat.le_trans this (by decide)
theorem r_sameI {i j : Int} (q : Q (.bl (decide (i = j))) H) : rSame K (.int i) (.int j) H Q := .inl (r_eqI q)
theorem r_sameS {i j : Str} (q : Q (.bl (decide (i = j))) H) : rSame K (.str i) (.str j) H Q := .inl (r_eqS q)
theorem r_unlikeI {i j : Int} (q : Q (.bl (!decide (i = j))) H) : rUnlike K (.int i) (.int j) H Q := .inl (r_neI q)
theorem r_unlikeS {i j : Str} (q : Q (.bl (!decide (i = j))) H) : rUnlike K (.str i) (.str j) H Q := .inl (r_neS q)
theorem r_div {i j : Int} (h : 0 < j) (h' : j < 2 ^ 200) (q : Q (.int (i / j)) H) : rDiv (.int i) (.int j) H Q :=
  ⟨i, j, rfl, rfl, wide_div h (b := 200) (by have e : (j.natAbs : Int) = j := Int.natAbs_of_nonneg (Int.le_of_lt h); exact Int.ofNat_lt.mp (by rw [e]; exact_mod_cast h')) (by decide) (by decide), q⟩
theorem r_mod {i j : Int} (h : 0 < j) (q : Q (.int (i % j)) H) : rMod (.int i) (.int j) H Q := ⟨i, j, rfl, rfl, h, q⟩
theorem r_pow {i j : Int} (h : 0 ≤ j) (h' : j ≤ 1000000) (h2 : i.natAbs < 2 ^ 64) (q : Q (.int (i ^ j.toNat)) H) : rPow (.int i) (.int j) H Q := ⟨i, j, rfl, rfl, ⟨h, h', h2⟩, q⟩
theorem r_lenL {p : Addr} {xs : List V} (h : H p = some (.lst xs)) (q : Q (.int xs.length) H) : rLen K [.ref p] H Q := ⟨_, _, rfl, .inl ⟨xs, SqL.of h, rfl⟩, q⟩
theorem r_lenT {p : Addr} {xs : List V} (h : H p = some (.tup xs)) (q : Q (.int xs.length) H) : rLen K [.ref p] H Q := ⟨_, _, rfl, .inr ⟨xs, SqT.of h, rfl⟩, q⟩
theorem r_lenK {p : Addr} {xs : List V} (h : SqL K H p xs) (q : Q (.int xs.length) H) : rLen K [.ref p] H Q := ⟨_, _, rfl, .inl ⟨xs, h, rfl⟩, q⟩
theorem r_lenS {z : Str} (h : z.length ≤ sizeLine) (q : Q (.int z.length) H) : rLen K [.str z] H Q := ⟨_, _, rfl, ⟨h, rfl⟩, q⟩
theorem r_min2 {i j : Int} (q : Q (.int (if j < i then j else i)) H) : rMin2 [.int i, .int j] H Q := ⟨i, j, rfl, q⟩
theorem r_max2 {i j : Int} (q : Q (.int (if j > i then j else i)) H) : rMax2 [.int i, .int j] H Q := ⟨i, j, rfl, q⟩
theorem r_listL {p : Addr} {xs : List V} (h : H p = some (.lst xs)) (q : ∀ l, H l = none → Q (.ref l) (upd H l (.lst xs))) : rListOf K [.ref p] H Q := ⟨p, xs, rfl, .inl (SqL.of h), q⟩
theorem r_listT {p : Addr} {xs : List V} (h : H p = some (.tup xs)) (q : ∀ l, H l = none → Q (.ref l) (upd H l (.lst xs))) : rListOf K [.ref p] H Q := ⟨p, xs, rfl, .inr (SqT.of h), q⟩
theorem r_tupL {p : Addr} {xs : List V} (h : H p = some (.lst xs)) (q : ∀ l, H l = none → Q (.ref l) (upd H l (.tup xs))) : rTupOf K [.ref p] H Q := ⟨p, xs, rfl, .inl ⟨SqL.of h, q⟩⟩
theorem r_tupT {p : Addr} {xs : List V} (h : H p = some (.tup xs)) (q : Q (.ref p) H) : rTupOf K [.ref p] H Q := ⟨p, xs, rfl, .inr ⟨SqT.of h, q⟩⟩
theorem r_ins {l : Addr} {xs : List V} {i : Int} {y : V} (h : H l = some (.lst xs)) (e : xs.length < 100000) (h0 : 0 ≤ i) (h1 : i < 2 ^ 63)
    (q : Q .non (upd H l (.lst (xs.take i.toNat ++ [y] ++ xs.drop i.toNat)))) : rInsert (.ref l) [.int i, y] H Q := ⟨l, xs, i, y, rfl, rfl, h, Nat.lt_of_lt_of_le e (by decide), h0, h1, q⟩
theorem seq_ix {i : Int} {n : Nat} (h0 : 0 ≤ i) (h1 : i < n) : seqIndex? i n = some i.toNat := by
  have : ixN n i = some i.toNat := by
    unfold ixN
    rw [if_pos h0, if_pos h1]
  exact (ixN_seq this).1
theorem r_popAt {l : Addr} {xs : List V} {i : Int} (h : H l = some (.lst xs)) (h0 : 0 ≤ i) (h1 : i < xs.length) (hs : i < 2 ^ 63)
    (q : ∀ y, xs[i.toNat]? = some y → Q y (upd H l (.lst (xs.eraseIdx i.toNat)))) : rPopAt (.ref l) [.int i] H Q := by
  have hk : i.toNat < xs.length := by omega
  exact ⟨l, xs, i, i.toNat, xs[i.toNat], rfl, rfl, h, by omega, hs, seq_ix h0 h1, List.getElem?_eq_getElem hk, q _ (List.getElem?_eq_getElem hk)⟩
theorem r_upper {z : Str} (h : z.length ≤ 5592405) (q : Q (.str (Txt.upper z)) H) : rUpper (.str z) [] H Q := ⟨z, rfl, rfl, h, q⟩
theorem r_sl {r : V → Option Int → Option Int → Hp → VK → Prop} {te : TE} {tl th : TO} (q : te σ H fun x H1 => tl σ H1 fun l H2 => th σ H2 fun u H3 => r x l u H3 Q) : tSl r te tl th σ H Q := q
theorem r_nopart {Q : Option Int → Hp → Prop} (q : Q none H) : tNoPart σ H Q := q
theorem r_part {t : TE} {Q : Option Int → Hp → Prop} (q : t σ H fun x H1 => ∃ i, x = .int i ∧ Q (some i) H1) : tPart t σ H Q := q
theorem r_isint {i : Int} {Q : Int → Prop} (q : Q i) : ∃ k, V.int i = .int k ∧ Q k := ⟨i, rfl, q⟩
theorem r_cutS {z : Str} {lo hi : Option Int} (h : z.length ≤ sizeLine) (q : Q (.str (cutS z lo hi)) H) : rCut K (.str z) lo hi H Q := .inr (.inr ⟨z, rfl, h, q⟩)
theorem r_cutL {a : Addr} {xs : List V} {lo hi : Option Int} (h : H a = some (.lst xs)) (q : ∀ p, H p = none → Q (.ref p) (upd H p (.lst (cutV xs lo hi)))) : rCut K (.ref a) lo hi H Q :=
  .inl ⟨a, xs, rfl, SqL.of h, q⟩
theorem r_cutT {a : Addr} {xs : List V} {lo hi : Option Int} (h : H a = some (.tup xs))
    (q1 : HT.sIx xs.length 0 lo = 0 ∧ HT.sIx xs.length xs.length hi = xs.length → Q (.ref a) H)
    (q2 : ¬ (HT.sIx xs.length 0 lo = 0 ∧ HT.sIx xs.length xs.length hi = xs.length) → ∀ p, H p = none → Q (.ref p) (upd H p (.tup (cutV xs lo hi)))) : rCut K (.ref a) lo hi H Q :=
  .inr (.inl ⟨a, xs, rfl, SqT.of h, q1, q2⟩)
theorem r_repr {p : Addr} {x : V} {d : PyData} (hd : Dt H p x d) (f : Fit 60 60000 d) (q : Q (.str d.shown) H) : rRepr p [x] H Q := ⟨x, d, rfl, hd, f, q⟩
theorem r_all {a : Addr} {bs : List Bool} (h : H a = some (.lst (bs.map V.bl))) (q : Q (.bl (bs.all id)) H) : rAll K [.ref a] H Q := ⟨a, bs, rfl, SqL.of h, q⟩
theorem r_sorted {a : Addr} {ns : List Int} (h : H a = some (.lst (ns.map V.int))) (e : ns.length < 64)
    (q : ∀ (ns' : List Int) (p : Addr), ns'.Perm ns → ns'.Pairwise (· ≤ ·) → H p = none → Q (.ref p) (upd H p (.lst (ns'.map V.int)))) : rSorted K [.ref a] H Q :=
  ⟨a, ns, rfl, SqL.of h, e, q⟩
end
/-! ### looking things up -/
section
variable {H H' H0 : Hp} {p q : Addr} {o u : HO}
theorem g_new (hq : H q = some u) (n : H p = none) : upd H p o q = some u := by
  rw [upd_ne (ne_of_none hq n)]; exact hq
theorem g_other (ne : q ≠ p) (hq : H q = some u) : upd H p o q = some u := by rw [upd_ne ne]; exact hq
theorem g_same (s : Same H0 H) (hq : H0 q = some u) : H q = some u := s _ _ hq
theorem g_keep (k : Keep p H0 H) (ne : q ≠ p) (hq : H0 q = some u) : H q = some u := k _ _ ne hq
theorem n_new (h : H q = some u) (n : H p = none) : q ≠ p := ne_of_none h n
theorem n_new' (n : H p = none) (h : H q = some u) : p ≠ q := (ne_of_none h n).symm
theorem Keep.free (k : Keep p H0 H) (ne : q ≠ p) (n : H q = none) : H0 q = none := by
  cases e : H0 q with
  | none => rfl
  | some v => rw [k _ _ ne e] at n; cases n
theorem upd_free (n : upd H p o q = none) : q ≠ p ∧ H q = none := by
  by_cases e : q = p
  · rw [e, upd_same] at n; cases n
  · rw [upd_ne e] at n; exact ⟨e, n⟩
end
end Cm
namespace Cm
open PySem PySem.Spec PyProof.Rows L2
theorem at_start {N : List Str} {vs : List V} {σ : L2.St} {t : TS} {D : Ends} {H : Hp} (e : L2.start N vs = σ) (q : t D σ H) : t D (L2.start N vs) H := by
  rw [e]; exact q
theorem pe_gint {X : Cx} {x : Str} {i : Int} {pos : Pos} (hg : Gl X x) (hm : ∃ t, X.mg x = some (.int i t)) (hd : (x == ("__debug__" : Str)) = false := by decide) :
    PE X (.Name x pos) (tC (.int i)) := by
  obtain ⟨t, e⟩ := hm
  exact pe_glob hg e ⟨t, rfl⟩ hd
end Cm
set_option Elab.async false
set_option linter.all false
set_option maxRecDepth 100000
set_option maxHeartbeats 4000000
/-! ## 4. Data within bounds -/
namespace Cm
open PySem PySem.Spec PyProof.Rows L2
mutual
/-- no number above N, all signs plain -/
def okD (N : Nat) : PyData → Bool
  | .int i => decide (i.natAbs ≤ N)
  | .str x => x.cps.toList.all fun c => decide (c < 128)
  | .list xs | .tuple xs => okAll N xs
  | .dict kvs => okKv N kvs
  | .none | .bool _ => true
def okAll (N : Nat) : List PyData → Bool
  | [] => true
  | x :: xs => okD N x && okAll N xs
def okKv (N : Nat) : List (PyData × PyData) → Bool
  | [] => true
  | (a, b) :: r => okD N a && okD N b && okKv N r
end
theorem okAll_iff {N : Nat} : ∀ {ds : List PyData}, okAll N ds = true ↔ ∀ d ∈ ds, okD N d = true
  | [] => by simp [okAll]
  | d :: ds => by simp [okAll, okAll_iff (ds := ds)]
theorem depthAll_iff {m : Nat} : ∀ {ds : List PyData}, PyData.depthAll ds ≤ m ↔ ∀ d ∈ ds, d.depth ≤ m
  | [] => by simp [PyData.depthAll]
  | d :: ds => by
    have := depthAll_iff (m := m) (ds := ds)
    simp only [PyData.depthAll, List.mem_cons, forall_eq_or_imp, ← this]
    omega
theorem bulkAll_append : ∀ (a b : List PyData), PyData.bulkAll (a ++ b) = PyData.bulkAll a + PyData.bulkAll b
  | [], b => by simp [PyData.bulkAll]
  | x :: a, b => by
    have := bulkAll_append a b
    simp only [List.cons_append, PyData.bulkAll, this]
    omega
theorem bulkAll_mem : ∀ {ds : List PyData} {d : PyData}, d ∈ ds → d.bulk + 1 ≤ PyData.bulkAll ds
  | x :: ds, d, h => by
    simp only [PyData.bulkAll]
    rcases List.mem_cons.mp h with e | h
    · rw [e]; omega
    · have := bulkAll_mem h; omega
theorem bulkAll_set : ∀ {ds : List PyData} {i : Nat} {d e : PyData}, ds[i]? = some d → PyData.bulkAll (ds.set i e) + d.bulk = PyData.bulkAll ds + e.bulk
  | [], i, d, e, h => by simp at h
  | x :: ds, 0, d, e, h => by
    have h' : x = d := Option.some.inj h
    subst h'
    simp only [List.set_cons_zero, PyData.bulkAll]; omega
  | x :: ds, i + 1, d, e, h => by
    have := bulkAll_set (ds := ds) (i := i) (d := d) (e := e) h
    simp only [List.set_cons_succ, PyData.bulkAll]; omega
theorem bulkAll_erase : ∀ (ds : List PyData) (i : Nat), PyData.bulkAll (ds.eraseIdx i) ≤ PyData.bulkAll ds
  | [], i => by simp [PyData.bulkAll]
  | x :: ds, 0 => by simp only [List.eraseIdx_cons_zero, PyData.bulkAll]; omega
  | x :: ds, i + 1 => by
    have := bulkAll_erase ds i
    simp only [List.eraseIdx_cons_succ, PyData.bulkAll]; omega
theorem bulkAll_take_drop (ds : List PyData) (i : Nat) : PyData.bulkAll (ds.take i) + PyData.bulkAll (ds.drop i) = PyData.bulkAll ds := by
  rw [← bulkAll_append, List.take_append_drop]
theorem bulkAll_reverse : ∀ (ds : List PyData), PyData.bulkAll ds.reverse = PyData.bulkAll ds
  | [] => rfl
  | x :: ds => by
    rw [List.reverse_cons, bulkAll_append, bulkAll_reverse ds]
    simp only [PyData.bulkAll]; omega
theorem bulk_length : ∀ (ds : List PyData), ds.length ≤ PyData.bulkAll ds
  | [] => Nat.le_refl _
  | x :: ds => by
    have := bulk_length ds
    simp only [List.length_cons, PyData.bulkAll]; omega
/-- within bounds: numbers, depth, size -/
structure Ft (N m b : Nat) (d : PyData) : Prop where
  ok : okD N d = true
  dp : d.depth ≤ m
  bk : d.bulk ≤ b
structure FtAll (N m b : Nat) (ds : List PyData) : Prop where
  ok : ∀ d ∈ ds, okD N d = true
  dp : ∀ d ∈ ds, d.depth ≤ m
  bk : PyData.bulkAll ds ≤ b
theorem okD_mono {N M : Nat} (h : N ≤ M) : ∀ d : PyData, okD N d = true → okD M d = true := by
  intro d
  refine PyData.rec (motive_1 := fun d => okD N d = true → okD M d = true) (motive_2 := fun ds => okAll N ds = true → okAll M ds = true)
    (motive_3 := fun kvs => okKv N kvs = true → okKv M kvs = true) (motive_4 := fun p => okD N p.1 = true ∧ okD N p.2 = true → okD M p.1 = true ∧ okD M p.2 = true)
    ?_ ?_ ?_ ?_ ?_ ?_ ?_ ?_ ?_ ?_ ?_ ?_ d
  · intro _; rfl
  · intro _ _; rfl
  · intro i h'
    simp only [okD, decide_eq_true_eq] at *; omega
  · intro x h'
    simp only [okD] at *; exact h'
  · intro xs ih h'
    simp only [okD] at *; exact ih h'
  · intro xs ih h'
    simp only [okD] at *; exact ih h'
  · intro xs ih h'
    simp only [okD] at *; exact ih h'
  · intro _; rfl
  · intro x xs i1 i2 h'
    simp only [okAll, Bool.and_eq_true] at *; exact ⟨i1 h'.1, i2 h'.2⟩
  · intro _; rfl
  · intro x xs i1 i2 h'
    obtain ⟨a, b⟩ := x
    simp only [okKv, Bool.and_eq_true] at *
    exact ⟨i1 h'.1, i2 h'.2⟩
  · intro a b i1 i2 h'
    exact ⟨i1 h'.1, i2 h'.2⟩
theorem Ft.mono {N M m n b c : Nat} {d : PyData} (f : Ft N m b d) (h1 : N ≤ M) (h2 : m ≤ n) (h3 : b ≤ c) : Ft M n c d :=
  ⟨okD_mono h1 _ f.ok, Nat.le_trans f.dp h2, Nat.le_trans f.bk h3⟩
theorem FtAll.mono {N M m n b c : Nat} {ds : List PyData} (f : FtAll N m b ds) (h1 : N ≤ M) (h2 : m ≤ n) (h3 : b ≤ c) : FtAll M n c ds :=
  ⟨fun d h => okD_mono h1 _ (f.ok d h), fun d h => Nat.le_trans (f.dp d h) h2, Nat.le_trans f.bk h3⟩
theorem Ft.all {N m b : Nat} {ds : List PyData} (f : Ft N (m + 1) b (.tuple ds)) : FtAll N m b ds := by
  obtain ⟨h1, h2, h3⟩ := f
  simp only [okD, PyData.depth, PyData.bulk] at *
  exact ⟨okAll_iff.mp h1, depthAll_iff.mp (by omega), h3⟩
theorem Ft.allL {N m b : Nat} {ds : List PyData} (f : Ft N (m + 1) b (.list ds)) : FtAll N m b ds := by
  obtain ⟨h1, h2, h3⟩ := f
  simp only [okD, PyData.depth, PyData.bulk] at *
  exact ⟨okAll_iff.mp h1, depthAll_iff.mp (by omega), h3⟩
theorem Ft.tup_pos {N m b : Nat} {ds : List PyData} (f : Ft N m b (.tuple ds)) : 0 < m := by
  have := f.dp
  simp only [PyData.depth] at this; omega
theorem FtAll.tup {N m b : Nat} {ds : List PyData} (f : FtAll N m b ds) : Ft N (m + 1) b (.tuple ds) := by
  refine ⟨?_, ?_, ?_⟩
  · simp only [okD]; exact okAll_iff.mpr f.ok
  · simp only [PyData.depth]; have := depthAll_iff.mpr f.dp; omega
  · simp only [PyData.bulk]; exact f.bk
theorem FtAll.lst {N m b : Nat} {ds : List PyData} (f : FtAll N m b ds) : Ft N (m + 1) b (.list ds) := by
  refine ⟨?_, ?_, ?_⟩
  · simp only [okD]; exact okAll_iff.mpr f.ok
  · simp only [PyData.depth]; have := depthAll_iff.mpr f.dp; omega
  · simp only [PyData.bulk]; exact f.bk
theorem FtAll.mem {N m b : Nat} {ds : List PyData} {d : PyData} (f : FtAll N m b ds) (h : d ∈ ds) : Ft N m (b - 1) d :=
  ⟨f.ok d h, f.dp d h, by have := bulkAll_mem h; have := f.bk; omega⟩
theorem FtAll.nil {N m b : Nat} : FtAll N m b [] := ⟨(fun _ h => nomatch h), (fun _ h => nomatch h), Nat.zero_le _⟩
theorem FtAll.cons {N m b c : Nat} {d : PyData} {ds : List PyData} (f : Ft N m b d) (g : FtAll N m c ds) : FtAll N m (b + 1 + c) (d :: ds) := by
  refine ⟨fun e h => ?_, fun e h => ?_, ?_⟩
  · rcases List.mem_cons.mp h with h | h
    · rw [h]; exact f.ok
    · exact g.ok e h
  · rcases List.mem_cons.mp h with h | h
    · rw [h]; exact f.dp
    · exact g.dp e h
  · have := f.bk; have := g.bk
    simp only [PyData.bulkAll]; omega
theorem FtAll.append {N m b c : Nat} {ds es : List PyData} (f : FtAll N m b ds) (g : FtAll N m c es) : FtAll N m (b + c) (ds ++ es) := by
  refine ⟨fun e h => ?_, fun e h => ?_, ?_⟩
  · rcases List.mem_append.mp h with h | h
    · exact f.ok e h
    · exact g.ok e h
  · rcases List.mem_append.mp h with h | h
    · exact f.dp e h
    · exact g.dp e h
  · rw [bulkAll_append]; have := f.bk; have := g.bk; omega
theorem FtAll.sub {N m b : Nat} {ds es : List PyData} (f : FtAll N m b ds) (h : ∀ d ∈ es, d ∈ ds) (hb : PyData.bulkAll es ≤ PyData.bulkAll ds) : FtAll N m b es :=
  ⟨fun e he => f.ok e (h e he), fun e he => f.dp e (h e he), Nat.le_trans hb f.bk⟩
theorem FtAll.take {N m b : Nat} {ds : List PyData} (f : FtAll N m b ds) (i : Nat) : FtAll N m b (ds.take i) :=
  f.sub (fun d h => List.mem_of_mem_take h) (by have := bulkAll_take_drop ds i; omega)
theorem FtAll.drop {N m b : Nat} {ds : List PyData} (f : FtAll N m b ds) (i : Nat) : FtAll N m b (ds.drop i) :=
  f.sub (fun d h => List.mem_of_mem_drop h) (by have := bulkAll_take_drop ds i; omega)
theorem FtAll.erase {N m b : Nat} {ds : List PyData} (f : FtAll N m b ds) (i : Nat) : FtAll N m b (ds.eraseIdx i) :=
  f.sub (fun d h => List.mem_of_mem_eraseIdx h) (bulkAll_erase ds i)
theorem FtAll.reverse {N m b : Nat} {ds : List PyData} (f : FtAll N m b ds) : FtAll N m b ds.reverse :=
  f.sub (fun d h => List.mem_reverse.mp h) (by rw [bulkAll_reverse]; exact Nat.le_refl _)
theorem FtAll.insert {N m b c : Nat} {ds : List PyData} {d : PyData} (f : FtAll N m b ds) (g : Ft N m c d) (i : Nat) : FtAll N m (b + c + 1) (ds.take i ++ [d] ++ ds.drop i) := by
  refine ⟨fun e h => ?_, fun e h => ?_, ?_⟩
  · simp only [List.mem_append, List.mem_singleton] at h
    rcases h with (h | h) | h
    · exact f.ok e (List.mem_of_mem_take h)
    · rw [h]; exact g.ok
    · exact f.ok e (List.mem_of_mem_drop h)
  · simp only [List.mem_append, List.mem_singleton] at h
    rcases h with (h | h) | h
    · exact f.dp e (List.mem_of_mem_take h)
    · rw [h]; exact g.dp
    · exact f.dp e (List.mem_of_mem_drop h)
  · rw [bulkAll_append, bulkAll_append]
    have h1 := bulkAll_take_drop ds i
    have h2 := f.bk
    have h3 := g.bk
    simp only [PyData.bulkAll]; omega
theorem FtAll.set {N m b c : Nat} {ds : List PyData} {d e : PyData} {i : Nat} (f : FtAll N m b ds) (h : ds[i]? = some d) (g : Ft N m c e) (hc : c ≤ d.bulk + b + 20) : FtAll N m (2 * b + 20) (ds.set i e) := by
  refine ⟨fun x hx => ?_, fun x hx => ?_, ?_⟩
  · rcases List.mem_or_eq_of_mem_set hx with q | q
    · exact f.ok x q
    · rw [q]; exact g.ok
  · rcases List.mem_or_eq_of_mem_set hx with q | q
    · exact f.dp x q
    · rw [q]; exact g.dp
  · have h1 := bulkAll_set (e := e) h
    have h2 := f.bk
    have h3 := g.bk
    omega
theorem Ft.int {N m b : Nat} {i : Int} (h : i.natAbs ≤ N) : Ft N m b (.int i) := ⟨by simp [okD, h], Nat.zero_le _, Nat.zero_le _⟩
theorem Ft.bl {N m b : Nat} {i : Bool} : Ft N m b (.bool i) := ⟨rfl, Nat.zero_le _, Nat.zero_le _⟩
theorem Ft.non {N m b : Nat} : Ft N m b .none := ⟨rfl, Nat.zero_le _, Nat.zero_le _⟩
theorem Ft.str {N m b : Nat} {x : Str} (h : ∀ c ∈ x.cps.toList, c < 128) (hb : x.length ≤ b) : Ft N m b (.str x) :=
  ⟨by simpa only [okD, List.all_eq_true, decide_eq_true_eq] using h, Nat.zero_le _, hb⟩
theorem leaf_int {i : Int} {N : Nat} (h : i.natAbs ≤ N) (hN : N < 2 ^ 200) : (PyData.shown (.int i)).length ≤ 250 ∧ i.natAbs.log2 < 1920 := by
  have h1 : i.natAbs < 2 ^ 200 := Nat.lt_of_le_of_lt h hN
  have h2 : i.natAbs.log2 < 200 := PySem.Flt.log2_lt_of (by decide) h1
  have h3 := int_text_length_le (a := i) (k := 200) (by decide) h2
  refine ⟨?_, by omega⟩
  simp only [PyData.shown]
  rw [show ((toString i : String) : Str).length = (toString i).length from PySem.ofString_length _]
  omega
theorem ok_leaves {N : Nat} (hN : N < 2 ^ 200) (d : PyData) : okD N d = true → d.leavesShort 250 = true ∧ d.showable = true := by
  refine PyData.rec (motive_1 := fun d => okD N d = true → d.leavesShort 250 = true ∧ d.showable = true) (motive_2 := fun ds => okAll N ds = true → PyData.leavesShortAll 250 ds = true ∧ PyData.showableAll ds = true)
    (motive_3 := fun kvs => okKv N kvs = true → PyData.leavesShortKv 250 kvs = true ∧ PyData.showableKv kvs = true)
    (motive_4 := fun p => okD N p.1 = true ∧ okD N p.2 = true → (p.1.leavesShort 250 = true ∧ p.1.showable = true) ∧ (p.2.leavesShort 250 = true ∧ p.2.showable = true))
    ?_ ?_ ?_ ?_ ?_ ?_ ?_ ?_ ?_ ?_ ?_ ?_ d
  · intro _; exact ⟨rfl, rfl⟩
  · intro _ _; exact ⟨rfl, rfl⟩
  · intro i h'
    simp only [okD, decide_eq_true_eq] at h'
    have := leaf_int h' hN
    simp only [PyData.leavesShort, PyData.showable, decide_eq_true_eq]
    exact this
  · intro x h'
    simp only [okD, List.all_eq_true, decide_eq_true_eq] at h'
    refine ⟨?_, rfl⟩
    simp only [PyData.leavesShort, List.all_eq_true, decide_eq_true_eq]
    intro c hc
    exact Nat.lt_trans (h' c hc) (by decide)
  · intro xs ih h'
    simp only [okD] at h'
    simp only [PyData.leavesShort, PyData.showable]; exact ih h'
  · intro xs ih h'
    simp only [okD] at h'
    simp only [PyData.leavesShort, PyData.showable]; exact ih h'
  · intro xs ih h'
    simp only [okD] at h'
    simp only [PyData.leavesShort, PyData.showable]; exact ih h'
  · intro _; exact ⟨rfl, rfl⟩
  · intro x xs i1 i2 h'
    simp only [okAll, Bool.and_eq_true] at h'
    simp only [PyData.leavesShortAll, PyData.showableAll, Bool.and_eq_true]
    exact ⟨⟨(i1 h'.1).1, (i2 h'.2).1⟩, (i1 h'.1).2, (i2 h'.2).2⟩
  · intro _; exact ⟨rfl, rfl⟩
  · intro x xs i1 i2 h'
    obtain ⟨a, b⟩ := x
    simp only [okKv, Bool.and_eq_true] at h'
    simp only [PyData.leavesShortKv, PyData.showableKv, Bool.and_eq_true]
    have q1 := i1 h'.1
    have q2 := i2 h'.2
    exact ⟨⟨⟨q1.1.1, q1.2.1⟩, q2.1⟩, ⟨q1.1.2, q1.2.2⟩, q2.2⟩
  · intro a b i1 i2 h'
    exact ⟨i1 h'.1, i2 h'.2⟩
theorem Ft.fit {N m b : Nat} {d : PyData} (f : Ft N m b d) (hN : N < 2 ^ 200) (hm : m ≤ 60) (hb : b ≤ 60000) : Fit 60 60000 d :=
  have h := ok_leaves hN d f.ok
  ⟨h.1, h.2, Nat.le_trans f.dp hm, Nat.le_trans f.bk hb⟩
end Cm
set_option Elab.async false
set_option linter.all false
set_option maxRecDepth 100000
set_option maxHeartbeats 4000000
/-! ## 5. Tuples: == with the empty one, times 0 and 1, turned about -/
namespace Cm
open PySem PySem.Spec PyProof.Rows L2
section
variable {X : Cx}
/-- t == () -/
def rEqNo : R2 := fun x y H Q => ∃ a b xs, x = .ref a ∧ y = .ref b ∧ H a = some (.tup xs) ∧ H b = some (.tup []) ∧ Q (.bl (decide (xs = []))) H
theorem IsTup.isTuple' {h : Heap} {a : Addr} {its : Array Value} (t : IsTup h a its) : h.IsTuple a its := t
theorem op_eqNo (hu : X.A.units + 64 < cLine) : OpR X (compareOp .Eq) rEqNo := by
  intro pins s σ H x y v u Q I rx ry h
  obtain ⟨a, b, xs, rfl, rfl, ha, hb, q⟩ := h
  cases rx
  cases ry
  obtain ⟨its, r1, p1, _⟩ := I.tuple (SqT.of ha)
  obtain ⟨its2, r2, p2, _⟩ := I.tuple (SqT.of hb)
  cases r2
  refine SeqAt.eq_tupleAt (e := fun _ => true) (IsTup.isTuple' p1) (IsTup.isTuple' p2) (by omega) (fun j _ h2 => absurd h2 (Nat.not_lt_zero _)) ?_
  refine ⟨.bl (decide (xs = [])), H, I, ?_, q⟩
  show Value.bool _ = Value.bool _
  have e : its.length = xs.length := r1.length.symm
  cases xs with
  | nil =>
    have : its = [] := List.eq_nil_of_length_eq_zero e
    subst this
    rfl
  | cons y ys =>
    cases its with
    | nil => cases e
    | cons z zs => simp
/-- t * 0, t * 1 -/
def rRepT01 : R2 := fun x y H Q => ∃ l k xs, x = .ref l ∧ y = .int k ∧ H l = some (.tup xs) ∧ xs ≠ [] ∧
  ((k = 0 ∧ ∀ p, H p = none → Q (.ref p) (upd H p (.tup []))) ∨ (k = 1 ∧ Q (.ref l) H))
theorem tuple_mul0 (l : Addr) (items : Array Value) (n : Nat) (dd : Option Addr) (sl : Array (Option Value)) (u : Tok) (c1 : items.isEmpty = false) :
    Meets (Builtin.«tuple.__mul__» ⟨[.ref l, .int 0 u], []⟩) (fun _ R s => s.heap.get? l = some { cls := .type "tuple", dict := dd, data := .seq items n, slots := sl } ∧
      R (.ok (.ret (Value.ref s.heap.objs.size))) { s with heap := s.heap.push { cls := Value.type "tuple", data := Data.seq #[] }, toks := s.toks }) :=
  .of_wp fun prog w A R s h => by
    obtain ⟨hp, g, d, tk, os⟩ := s
    obtain ⟨hl, h⟩ := h
    have f1 := AutoSeq1.idx_int
    wp_walk using wpAny_loadPart' hl
    repeat (first
      | (refine wpAny_ite_false (decide_eq_false (by first | decide | simp [c1])) ?_; wp_walk using wpAny_loadPart' hl)
      | (refine wpAny_ite_true (decide_eq_true (by first | decide | simp [c1])) ?_; wp_walk using wpAny_loadPart' hl))
    exact ⟨_, rfl, h⟩
theorem tuple_mul1 (l : Addr) (items : Array Value) (n : Nat) (dd : Option Addr) (sl : Array (Option Value)) (u : Tok) :
    Meets (Builtin.«tuple.__mul__» ⟨[.ref l, .int 1 u], []⟩) (fun _ R s => s.heap.get? l = some { cls := .type "tuple", dict := dd, data := .seq items n, slots := sl } ∧
      R (.ok (.ret (Value.ref l))) { s with toks := s.toks }) :=
  .of_wp fun prog w A R s h => by
    obtain ⟨hp, g, d, tk, os⟩ := s
    obtain ⟨hl, h⟩ := h
    have f1 := AutoSeq1.idx_int
    wp_walk using wpAny_loadPart' hl
    repeat (first
      | (refine wpAny_ite_false (decide_eq_false (by first | decide | simp)) ?_; wp_walk using wpAny_loadPart' hl)
      | (refine wpAny_ite_true (decide_eq_true (by first | decide | simp)) ?_; wp_walk using wpAny_loadPart' hl))
    exact ⟨_, rfl, h⟩
theorem op_repT01 : OpR X (binaryOp .Mult) rRepT01 := by
  intro pins s σ H x y v u Q I rx ry h
  obtain ⟨l, k, xs, rfl, rfl, hT, hne, hk⟩ := h
  cases rx
  obtain ⟨t, rfl⟩ := ry
  obtain ⟨its, r, ⟨⟨cls, dd, data, sl⟩, ho, hc, n, hd⟩, hs⟩ := I.tuple (SqT.of hT)
  simp only at hc hd
  subst hc hd
  have hi : its.toArray.isEmpty = false := by
    cases its with
    | nil =>
      cases r
      exact absurd rfl hne
    | cons a b => rfl
  rcases hk with ⟨rfl, q⟩ | ⟨rfl, q⟩
  · refine wpAny_binaryOp_repeat_ref (T := "tuple") (U := "int") (by decide) ⟨_, ho, rfl⟩ (fun s' => typeIs_int s' 0 t) noFill_tuple_mul F.fills_int_mul F.slot_int_rmul repeat_tuple F.slot_int_index.lookup
      (call_meets F.slot_int_rmul (typeIs_int s 0 t) F.entry_int_rmul (F.args_int_rmul_2 _ _) (int_rmul_tuple 0 t l its.toArray n dd sl)
        ⟨ho, rfl, ⟨_, ho, rfl⟩, call_meets F.slot_tuple_mul ⟨_, ho, rfl⟩ F.entry_tuple_mul (F.args_tuple_mul_2 _ _) (tuple_mul0 l its.toArray n dd sl t hi) ⟨ho, ?_⟩⟩)
    refine ⟨.ref s.heap.objs.size, _, I.laid (t' := s.toks) (o := .tup []) (fun b ob q => Heap.get?_push_of_some _ q) (Nat.le_refl _) ?_, rfl, q _ (I.hok.fresh (Nat.le_refl _))⟩
    exact ⟨Nat.zero_le _, [], .nil, IsTup.new _ _⟩
  · refine wpAny_binaryOp_repeat_ref (T := "tuple") (U := "int") (by decide) ⟨_, ho, rfl⟩ (fun s' => typeIs_int s' 1 t) noFill_tuple_mul F.fills_int_mul F.slot_int_rmul repeat_tuple F.slot_int_index.lookup
      (call_meets F.slot_int_rmul (typeIs_int s 1 t) F.entry_int_rmul (F.args_int_rmul_2 _ _) (int_rmul_tuple 1 t l its.toArray n dd sl)
        ⟨ho, rfl, ⟨_, ho, rfl⟩, call_meets F.slot_tuple_mul ⟨_, ho, rfl⟩ F.entry_tuple_mul (F.args_tuple_mul_2 _ _) (tuple_mul1 l its.toArray n dd sl t) ⟨ho, ?_⟩⟩)
    exact ⟨.ref l, H, I.tok _, rfl, q⟩
/-! ### t[::-1] -/
theorem turned_applied {A : Around} {E : Value → Shared → Prop} {s : Shared} {sl : Addr} {vs : Value} {n : Nat} {Q : Int × Int × Nat → Shared → Prop} (hs : s.heap.IsSliceOf sl .none .none vs) (ps : IsPart vs (some (-1)))
    (h : Q ((n : Int) - 1, -1, n) s) : wpAny (model X.prog X.w) A (Builtin.Slice.sliceApplied (.ref sl) (pure (n : Int))) Q E s := by
  obtain ⟨os, hos, hcs, hds⟩ := id hs
  unfold Builtin.Slice.sliceApplied Builtin.Slice.sliceFields
  refine wpAny_bind (wpAny_bind (wpAny_field hos hds (x := .none) rfl (wpAny_bind (wpAny_field hos hds (x := .none) rfl (wpAny_bind (wpAny_field hos hds (x := vs) rfl (wpAny_pure ?_)))))))
  refine wpAny_bind (HT.slicePart_ ps ?_)
  show wpAny _ _ (if ((-1 : Int) == 0) = true then _ else _) _ _ s
  rw [if_neg (by decide)]
  refine wpAny_bind (HT.slicePart_ .none (wpAny_bind (HT.slicePart_ .none (wpAny_bind (wpAny_pure ?_)))))
  have e : Builtin.Slice.slicePlaces ((n : Int) - 1) (-1) (-1) = n := by
    unfold Builtin.Slice.slicePlaces
    rw [if_neg (by decide)]
    by_cases h0 : n = 0
    · subst h0; decide
    · rw [if_pos (by omega)]
      have : ((n : Int) - 1 - (-1) - 1) / (-(-1)) + 1 = (n : Int) := by
        rw [show (-(-1) : Int) = 1 from rfl, Int.ediv_one]; omega
      rw [this]; simp
  show wpAny _ _ (pure ((n : Int) - 1, (-1 : Int), Builtin.Slice.slicePlaces ((n : Int) - 1) (-1) (-1))) _ _ s
  rw [e]
  exact wpAny_pure h
theorem turned_pick (xs : List Value) : ((List.range xs.toArray.size).filterMap fun (k : Nat) => xs.toArray[(((xs.toArray.size : Nat) : Int) - 1 + (k : Int) * (-1)).toNat]?).toArray = xs.reverse.toArray := by
  congr 1
  rw [List.size_toArray]
  have g : ∀ (ys : List Value), (List.range ys.length).filterMap (fun k => ys[k]?) = ys := by
    intro ys
    induction ys with
    | nil => rfl
    | cons y ys ih =>
      rw [List.length_cons, List.range_succ_eq_map, List.filterMap_cons]
      simp only [List.getElem?_cons_zero, List.filterMap_map]
      congr 1
  have h := g xs.reverse
  rw [List.length_reverse] at h
  rw [← h]
  have cong : ∀ (l : List Nat) (f g : Nat → Option Value), (∀ k ∈ l, f k = g k) → l.filterMap f = l.filterMap g := by
    intro l f g e
    induction l with
    | nil => rfl
    | cons a l ih =>
      have e1 := e a List.mem_cons_self
      have e2 := ih fun k hk => e k (List.mem_cons_of_mem _ hk)
      simp only [List.filterMap_cons, e1, e2]
  refine cong _ _ _ fun k hk => ?_
  have hk' : k < xs.length := List.mem_range.mp hk
  rw [List.getElem?_reverse hk']
  have : (((xs.length : Nat) : Int) - 1 + (k : Int) * (-1)).toNat = xs.length - 1 - k := by omega
  rw [this]
  simp
theorem getItem_turned {A : Around} {E : Value → Shared → Prop} {s : Shared} {t sl : Addr} {items : List Value} {vs : Value} {Q : Value → Shared → Prop} (ht : IsTup s.heap t items.toArray) (hs : s.heap.IsSliceOf sl .none .none vs) (ps : IsPart vs (some (-1)))
    (h : Q (.ref s.heap.objs.size) { s with heap := s.heap.push { cls := .type "tuple", data := .seq items.reverse.toArray } })
    (hsz : items.length ≤ sizeLine) : wpAny (model X.prog X.w) A (getItem (.ref t) (.ref sl)) Q E s := by
  have room : sizeOk (.seq items.reverse.toArray) := by
    show items.reverse.toArray.size ≤ sizeLine
    rw [List.size_toArray, List.length_reverse]; exact hsz
  obtain ⟨os, hos, hcs, hds⟩ := id hs
  have hTs : s.TypeIs (.ref sl) "slice" := ⟨os, hos, hcs⟩
  unfold getItem
  try with_reducible refine wpAny_holding ?_
  first | refine wpAny_bind (wpAny_pure ?_) | skip
  refine wpAny_bind (wpAny_sequenceKey ht.typeIs (by decide) ?_)
  refine wpAny_bind (wpAny_callSpecial?_slot (name := Str.ofString "__getitem__") ht.typeIs PyProof.Rows.slot_tuple_getitem
    (wpAny_call_entry PyProof.Rows.slot_tuple_getitem ht.typeIs entry_tuple_getitem ?_ (args_tuple_getitem _ _)))
  show wpAny _ _ (Builtin.Tuple.tupleItemsOf (.ref t) >>= _) _ _ s
  refine wpAny_bind (tupleItemsOf_ ht ?_)
  refine wpAny_bind (wpAny_typeOf hTs ?_)
  rw [if_pos (by decide)]
  refine wpAny_bind (turned_applied (X := X) hs ps ?_)
  show wpAny _ _ (if ((((items.toArray.size : Nat) : Int) - 1 == 0) && ((-1 : Int) == 1) && (items.toArray.size == items.toArray.size)) = true then _ else _) _ _ s
  rw [if_neg (by simp), turned_pick]
  first
    | exact wpAny_bind (m := Builtin.Tuple.tupleExact _) (wpAny_newObj_type (wpAny_pure ⟨_, rfl, wpAny_pure h⟩) room)
    | exact wpAny_bind (m := Builtin.Tuple.tupleExact _) (wpAny_newObj_type (wpAny_bind (wpAny_pure (wpAny_pure ⟨_, rfl, wpAny_pure h⟩))) room)
    | exact wpAny_bind (wpAny_bind (m := Builtin.Tuple.tupleExact _) (wpAny_newObj_type (wpAny_pure (wpAny_pure ⟨_, rfl, wpAny_pure h⟩)) room))
    | exact wpAny_bind (wpAny_bind (m := Builtin.Tuple.tupleExact _) (wpAny_newObj_type (wpAny_pure ⟨_, rfl, wpAny_pure h⟩) room))
def tRevT (te : TE) : TE := fun σ H Q => te σ H fun x H1 => ∃ a xs, x = .ref a ∧ H1 a = some (.tup xs) ∧ ∀ p, H1 p = none → Q (.ref p) (upd H1 p (.tup xs.reverse))
theorem pe_rev {e : Expr} {te : TE} {k : Nat} {p1 p2 p3 pos : Pos} (he : PE X e te) : PE X (.Subscript e (.Slice none none (some (.UnaryOp .USub (.Constant (.int 1) k p1) p2)) p3) pos) (tRevT te) := by
  constructor
  intro pins s σ H Q I h
  refine Subscript_ (thn (he.run pins s σ H _ I h) ?_)
  rintro v s1 ⟨x, H1, I1, r1, a, xs, ex, hx, q⟩
  subst ex
  cases r1
  have hst : PO X (some (.UnaryOp .USub (.Constant (.int 1) k p1) p2)) (tPart (tUn (rU fun i => .int (-i)) (tC (.int 1)))) := po_some (pe_un un_neg pe_int)
  refine wpAny_Slice (thn (po_none.run pins s1 σ H1 (fun o H2 => o = none ∧ H2 = H1) I1 ⟨rfl, rfl⟩) ?_)
  rintro vl s2 ⟨l, H2, I2, pl, el, e2⟩
  subst el e2
  refine thn (po_none.run pins s2 σ H2 (fun o H3 => o = none ∧ H3 = H2) I2 ⟨rfl, rfl⟩) ?_
  rintro vu s3 ⟨u, H3, I3, pu, eu, e3⟩
  subst eu e3
  refine thn (hst.run pins s3 σ H3 (fun o H4 => o = some (-1) ∧ H4 = H3) I3 ⟨1, rfl, -1, rfl, rfl, rfl⟩) ?_
  rintro vs s4 ⟨o, H4, I4, ps, eo, e4⟩
  subst eo e4
  cases pl
  cases pu
  have I5 : Inv X pins σ H4 { s4 with heap := s4.heap.push { cls := .type "slice", data := .fields #[.none, .none, vs] } } :=
    I4.kept (t' := s4.toks) fun b ob q => Heap.get?_push_of_some _ q
  obtain ⟨its, r, ht, hz⟩ := I5.tuple (SqT.of hx)
  have hlen := r.length
  show wpAny (model X.prog X.w) X.A (subscriptTail e (.Slice none none (some (.UnaryOp .USub (.Constant (.int 1) k p1) p2)) p3) (.ref a) (.ref s4.heap.objs.size)) (EP X pins σ Q) X.xe _
  refine tail_any (ops := [.ref a, .ref s4.heap.objs.size]) ht.typeIs (PyProof.Rows.slot_tuple_getitem.lookup) ?_ (by with_unfolding_all rfl)
  refine getItem_turned ht (Heap.IsSliceOf.new _ _ _ vs) ps ?_ (by omega)
  refine ⟨.ref _, _, I5.laid (t' := s4.toks) (o := .tup xs.reverse) (fun b ob q => Heap.get?_push_of_some _ q) (Nat.le_refl _) ?_, rfl, q _ (I5.hok.fresh (Nat.le_refl _))⟩
  exact ⟨by rw [List.length_reverse]; exact hz, _, r.reverse, IsTup.new _ _⟩
end
section
variable {K : PySem.W.Frag} {H : Hp} {Q : VK} {σ : L2.St}
theorem r_rev {te : TE} (q : te σ H fun x H1 => ∃ a xs, x = .ref a ∧ H1 a = some (.tup xs) ∧ ∀ p, H1 p = none → Q (.ref p) (upd H1 p (.tup xs.reverse))) : tRevT te σ H Q := q
theorem r_isT {a : Addr} {xs : List V} {P : Addr → List V → Prop} (h : H a = some (.tup xs)) (q : P a xs) : ∃ b ys, V.ref a = .ref b ∧ H b = some (.tup ys) ∧ P b ys := ⟨a, xs, rfl, h, q⟩
theorem r_eqNo {a b : Addr} {xs : List V} (h : H a = some (.tup xs)) (h' : H b = some (.tup [])) (q : Q (.bl (decide (xs = []))) H) : rEqNo (.ref a) (.ref b) H Q := ⟨a, b, xs, rfl, rfl, h, h', q⟩
end
end Cm
namespace Cm
open PySem PySem.Spec PyProof.Rows L2
section
variable {K : PySem.W.Frag} {H : Hp} {Q : VK} {σ : L2.St}
theorem r_dnew (q : ∀ p, H p = none → Q (.ref p) (upd H p (.dK []))) : tDNewK σ H Q := q
theorem r_disp1 {i j : Int} (q : ∀ p, H p = none → Q (.ref p) (upd H p (.dK [(Sum.inl i, .int j)]))) : tDisp [(tC (.int i), tC (.int j))] σ H Q := by
  intro p hp
  refine ⟨upd_same, [(Sum.inl i, .int j)], rfl, (by show 1 ≤ 15; decide), ?_⟩
  rw [upd_upd]
  exact q p hp
end
end Cm
namespace Cm
open PySem PySem.Spec PyProof.Rows L2
section
variable {K : PySem.W.Frag} {H : Hp} {Q : VK} {p : Addr} {x y z v : V} {xs : List V} {R : Hp → Prop}
theorem r_ixL0 (h : H p = some (.lst (x :: xs))) (q : Q x H) : rIx K (.ref p) (.int 0) H Q := r_ixL h (atI_nat (j := 0) rfl) q
theorem r_ixL1 (h : H p = some (.lst (x :: y :: xs))) (q : Q y H) : rIx K (.ref p) (.int 1) H Q := r_ixL h (atI_nat (j := 1) rfl) q
theorem r_ixL2 (h : H p = some (.lst (x :: y :: z :: xs))) (q : Q z H) : rIx K (.ref p) (.int 2) H Q := r_ixL h (atI_nat (j := 2) rfl) q
theorem r_ixT0 (h : H p = some (.tup (x :: xs))) (q : Q x H) : rIx K (.ref p) (.int 0) H Q := r_ixT h (atI_nat (j := 0) rfl) q
theorem r_ixT1 (h : H p = some (.tup (x :: y :: xs))) (q : Q y H) : rIx K (.ref p) (.int 1) H Q := r_ixT h (atI_nat (j := 1) rfl) q
theorem r_ixT2 (h : H p = some (.tup (x :: y :: z :: xs))) (q : Q z H) : rIx K (.ref p) (.int 2) H Q := r_ixT h (atI_nat (j := 2) rfl) q
theorem r_setL0 (h : H p = some (.lst (x :: xs))) (q : R (upd H p (.lst (v :: xs)))) : rSetL (.ref p) (.int 0) v H R :=
  r_setAt h (by decide) (by simp only [List.length_cons]; omega) q
theorem r_setL1 (h : H p = some (.lst (x :: y :: xs))) (q : R (upd H p (.lst (x :: v :: xs)))) : rSetL (.ref p) (.int 1) v H R :=
  r_setAt h (by decide) (by simp only [List.length_cons]; omega) q
theorem r_setL2 (h : H p = some (.lst (x :: y :: z :: xs))) (q : R (upd H p (.lst (x :: y :: v :: xs)))) : rSetL (.ref p) (.int 2) v H R :=
  r_setAt h (by decide) (by simp only [List.length_cons]; omega) q
end
end Cm
namespace Cm
open PySem PySem.Spec PyProof.Rows L2
/-- nothing is known to stand at q -/
structure Fre (H : Hp) (q : Addr) : Prop where
  no : H q = none
section
variable {H H' H0 : Hp} {p q : Addr} {o u : HO}
theorem r_free {Q : Addr → Prop} (h : ∀ p, Fre H p → Q p) : ∀ p, H p = none → Q p := fun p n => h p ⟨n⟩
theorem Keep.newF (k : Keep p H H') (n : Fre H' q) : Keep p H (upd H' q o) := k.new n.no
theorem Keep.overF (k : Keep p H H') (n : Fre H q) : Keep p H (upd H' q o) := k.over n.no
theorem Keep.freeF (k : Keep p H0 H) (ne : q ≠ p) (n : Fre H q) : Fre H0 q := ⟨k.free ne n.no⟩
theorem Same.newF (k : Same H H') (n : Fre H' q) : Same H (upd H' q o) := Same.new k n.no
theorem Same.overF (k : Same H H') (n : Fre H q) : Same H (upd H' q o) := Same.over k n.no
theorem Same.freeF (k : Same H0 H) (n : Fre H q) : Fre H0 q := ⟨k.free n.no⟩
theorem Fre.of (n : Fre (upd H p o) q) : Fre H q := ⟨(upd_free n.no).2⟩
theorem g_newF (n : Fre H p) (hq : H q = some u) : upd H p o q = some u := g_new hq n.no
end
end Cm
namespace Cm
open PySem PySem.Spec PyProof.Rows L2
/-- what stands there is such data -/
inductive DtC (H : Hp) (p : Addr) : HO → PyData → Prop
  | tup {xs : List V} {ds : List PyData} : DtAll H p xs ds → DtC H p (.tup xs) (.tuple ds)
  | lst {xs : List V} {ds : List PyData} : DtAll H p xs ds → DtC H p (.lst xs) (.list ds)
  | dct {kvs : List (Key × V)} : (∀ x ∈ kvs, ∃ i, x.2 = V.int i) → DtC H p (.dK kvs) (.dict (kvs.map pairD))
theorem Dt.there {H : Hp} {p a : Addr} {o : HO} {d : PyData} (n : a ≠ p) (h : H a = some o) (c : DtC H p o d) : Dt H p (.ref a) d := by
  cases c with
  | tup x => exact .tup n h x
  | lst x => exact .lst n h x
  | dct x => exact .dct n h x
end Cm
namespace Cm
open PySem PySem.Spec PyProof.Rows L2
section
variable {K : PySem.W.Frag} {H : Hp} {Q : VK} {p : Addr} {xs : List V} {i : Int}
theorem r_pickI (h : H p = some (.lst xs)) (h0 : 0 ≤ i) (h1 : i < xs.length) (b : ∀ v ∈ xs, ∃ z, v = V.int z) (q : ∀ z, V.int z ∈ xs → Q (.int z) H) : rIx K (.ref p) (.int i) H Q :=
  r_pickL h h0 h1 fun v hv => by
    obtain ⟨z, rfl⟩ := b v hv
    exact q z hv
theorem r_pickS (h : H p = some (.lst xs)) (h0 : 0 ≤ i) (h1 : i < xs.length) (b : ∀ v ∈ xs, ∃ z, v = V.str z) (q : ∀ z, V.str z ∈ xs → Q (.str z) H) : rIx K (.ref p) (.int i) H Q :=
  r_pickL h h0 h1 fun v hv => by
    obtain ⟨z, rfl⟩ := b v hv
    exact q z hv
end
end Cm
namespace Cm
open PySem PySem.Spec PyProof.Rows L2
section
variable {K : PySem.W.Frag} {H : Hp} {σ : L2.St} {D : Ends}
theorem r_for {wi : TI} {g : TG} {tb : TS} (q : wi σ H fun J H1 => ∃ W : Nat → Nat → L2.St → Hp → Prop, (∃ m, W 0 m σ H1) ∧ ∀ i m σ H, W i m σ H →
    (J.stop i H ∧ D.nx σ H) ∨ (J.go i H ∧ ∃ N : L2.St → Hp → Prop, (∀ σ' H', N σ' H' → ∃ m', m' < m ∧ W (i + 1) m' σ' H') ∧ ∀ x H', J.yld i H x H' → g x σ H' fun σ2 H2 => tb { nx := N, rt := D.rt, bk := D.nx, ct := N } σ2 H2)) : tFor wi g tb D σ H := q
end
end Cm
namespace Cm
open PySem PySem.Spec PyProof.Rows L2
section
variable {K : PySem.W.Frag} {σ : L2.St} {H : Hp} {g : TG} {tb : TS} {nx : L2.St → Hp → Prop} {rt : VK}
theorem for_rng {lo : Int} {n : Nat} (Pv : Nat → L2.St → Hp → Prop) (h0 : Pv 0 σ H)
    (hs : ∀ i σ H, i < n → Pv i σ H → g (.int (lo + i)) σ H fun σ2 H2 => tb { nx := Pv (i + 1), rt := rt, bk := nx, ct := Pv (i + 1) } σ2 H2) (hd : ∀ σ H, Pv n σ H → nx σ H) :
    ∃ W : Nat → Nat → L2.St → Hp → Prop, (∃ m, W 0 m σ H) ∧ ∀ i m σ H, W i m σ H →
      ((Itr lo n).stop i H ∧ nx σ H) ∨ ((Itr lo n).go i H ∧ ∃ N : L2.St → Hp → Prop, (∀ σ' H', N σ' H' → ∃ m', m' < m ∧ W (i + 1) m' σ' H') ∧ ∀ x H', (Itr lo n).yld i H x H' → g x σ H' fun σ2 H2 => tb { nx := N, rt := rt, bk := nx, ct := N } σ2 H2) :=
  for_range (D := { nx := nx, rt := rt }) Pv h0 hs hd
theorem for_lst {a : Addr} {xs : List V} (Pv : Nat → L2.St → Hp → Prop) (h0 : Pv 0 σ H) (hl : ∀ i σ H, i ≤ xs.length → Pv i σ H → SqL K H a xs)
    (hs : ∀ i x σ H, xs[i]? = some x → Pv i σ H → g x σ H fun σ2 H2 => tb { nx := Pv (i + 1), rt := rt, bk := nx, ct := Pv (i + 1) } σ2 H2) (hd : ∀ σ H, Pv xs.length σ H → nx σ H) :
    ∃ W : Nat → Nat → L2.St → Hp → Prop, (∃ m, W 0 m σ H) ∧ ∀ i m σ H, W i m σ H →
      ((Itl K a).stop i H ∧ nx σ H) ∨ ((Itl K a).go i H ∧ ∃ N : L2.St → Hp → Prop, (∀ σ' H', N σ' H' → ∃ m', m' < m ∧ W (i + 1) m' σ' H') ∧ ∀ x H', (Itl K a).yld i H x H' → g x σ H' fun σ2 H2 => tb { nx := N, rt := rt, bk := nx, ct := N } σ2 H2) :=
  for_list (D := { nx := nx, rt := rt }) Pv h0 hl hs hd
end
end Cm
namespace Cm
open PySem PySem.Spec PyProof.Rows L2
theorem n_newF {H : Hp} {p q : Addr} {u : HO} (n : Fre H p) (h : H q = some u) : q ≠ p := ne_of_none h n.no
theorem n_newF' {H : Hp} {p q : Addr} {u : HO} (n : Fre H p) (h : H q = some u) : p ≠ q := (ne_of_none h n.no).symm
end Cm
namespace Cm
open PySem PySem.Spec PyProof.Rows L2
/-- a part of the heap that stands apart from p and f -/
structure Reg (R H : Hp) (p f : Addr) : Prop where
  sub : Same R H
  np : R p = none
  nf : R f = none
section
variable {R H H' : Hp} {p f q t : Addr} {o : HO}
theorem Reg.nil : Reg (fun _ => none) H p f := ⟨(fun _ _ h => by cases h), rfl, rfl⟩
theorem Reg.keep (r : Reg R H p f) (k : Keep p H H') : Reg R H' p f :=
  ⟨fun b o h => k b o (ne_of_none h r.np) (r.sub b o h), r.np, r.nf⟩
theorem Reg.new (r : Reg R H p f) (n : Fre H q) : Reg R (upd H q o) p f := ⟨Same.new r.sub n.no, r.np, r.nf⟩
theorem Reg.put (r : Reg R H p f) : Reg R (upd H f o) p f :=
  ⟨fun b u h => by rw [upd_ne (ne_of_none h r.nf)]; exact r.sub b u h, r.np, r.nf⟩
theorem Reg.add (r : Reg R H p f) (h : H t = some o) (ntp : t ≠ p) (ntf : t ≠ f) : Reg (upd R t o) H p f ∧ Same R (upd R t o) := by
  refine ⟨⟨fun b u e => ?_, by rw [upd_ne ntp.symm]; exact r.np, by rw [upd_ne ntf.symm]; exact r.nf⟩, fun b u e => ?_⟩
  · by_cases hb : b = t
    · subst hb
      rw [upd_same] at e
      cases e
      exact h
    · rw [upd_ne hb] at e
      exact r.sub b u e
  · by_cases hb : b = t
    · subst hb
      have := r.sub _ _ e
      rw [h] at this
      cases this
      exact upd_same
    · rw [upd_ne hb]
      exact e
end
end Cm
namespace Cm
open PySem PySem.Spec PyProof.Rows L2
section
variable {K : PySem.W.Frag} {H H1 : Hp} {Q : VK} {σ : L2.St} {D : Addr}
theorem r_lc {wi : TI} {g : TG} {tt : TT} {te : TE} {vs : List Nat} (q : wi σ H fun J H1 => ∀ D, H1 D = none → ∃ W : Nat → Nat → Hp → Prop, (∃ m, W 0 m (upd H1 D (.lst []))) ∧ ∀ i m H, W i m H →
    (J.stop i H ∧ Q (.ref D) H) ∨ (J.go i H ∧ ∃ Nx : Hp → Prop, (∀ H', Nx H' → ∃ m', m' < m ∧ W (i + 1) m' H') ∧ ∀ x H', J.yld i H x H' → g x (wipe σ vs) H' fun σ2 H2 => wipe σ2 vs = wipe σ vs ∧ tt σ2 H2 fun b H3 =>
      if b = true then te σ2 H3 fun y H4 => ∃ acc, H4 D = some (.lst acc) ∧ acc.length < sizeLine ∧ Nx (upd H4 D (.lst (acc ++ [y]))) else Nx H3)) : tLc wi g tt te vs σ H Q := q
theorem r_wipe {σ' : L2.St} {vs : List Nat} {P : Prop} (e : wipe σ' vs = wipe σ vs) (q : P) : wipe σ' vs = wipe σ vs ∧ P := ⟨e, q⟩
theorem r_yes {Q : Bool → Hp → Prop} (q : Q true H) : tYes σ H Q := q
theorem lc_close {ys : List V} {i : Nat} {y : V} (e : ys[i]? = some y) (hn : ys.length ≤ 1000) : ∃ acc, (upd H1 D (.lst (ys.take i))) D = some (.lst acc) ∧ acc.length < sizeLine ∧
    upd (upd H1 D (.lst (ys.take i))) D (.lst (acc ++ [y])) = upd H1 D (.lst (ys.take (i + 1))) := by
  obtain ⟨hi, he⟩ := List.getElem?_eq_some_iff.mp e
  refine ⟨_, upd_same, ?_, ?_⟩
  · have : (ys.take i).length ≤ 1000 := by rw [List.length_take]; omega
    exact Nat.lt_of_le_of_lt this (by decide)
  · rw [upd_upd, List.take_succ_eq_append_getElem hi, he]
theorem ints_dp : ∀ (ns : List Int), DpAll K H (ns.map V.int) (ns.map PyData.int)
  | [] => .nil
  | n :: ns => .cons (.int n) (ints_dp ns)
theorem ints_eqv : ∀ (a b : List Int), PyData.eqvAll (a.map PyData.int) (b.map PyData.int) = decide (a = b)
  | [], [] => rfl
  | [], _ :: _ => rfl
  | _ :: _, [] => rfl
  | x :: a, y :: b => by
    rw [List.map_cons, List.map_cons]
    simp only [PyData.eqvAll, PyData.eqv, ints_eqv a b, List.cons.injEq]
    by_cases h : x = y <;> simp [h]
theorem ints_lay : ∀ (a : List Int), PyData.canLayAll0 (a.map PyData.int) = true ∧ PyData.depthAll (a.map PyData.int) = 0
  | [] => ⟨rfl, rfl⟩
  | x :: a => by
    have h := ints_lay a
    rw [List.map_cons]
    refine ⟨?_, ?_⟩
    · simp only [PyData.canLayAll0, PyData.canLay0, Bool.true_and]; exact h.1
    · simp only [PyData.depthAll, PyData.depth, h.2]; rfl
theorem ints_shaped (a : List Int) : SeqAt.shaped (.list (a.map PyData.int)) = true := by
  have h := ints_lay a
  unfold SeqAt.shaped
  simp only [PyData.canLay0, PyData.depth, h.1, h.2]
  decide
theorem r_sameInts {a b : Addr} {ns ms : List Int} (h : H a = some (.lst (ns.map V.int))) (h' : H b = some (.lst (ms.map V.int))) (q : Q (.bl (decide (ns = ms))) H) : rSame K (.ref a) (.ref b) H Q := by
  refine .inr ⟨.list (ns.map .int), .list (ms.map .int), .lst (SqL.of h) (ints_dp ns), .lst (SqL.of h') (ints_dp ms), ints_shaped ns, ints_shaped ms, ?_⟩
  have e : PyData.eqv (.list (ns.map PyData.int)) (.list (ms.map PyData.int)) = decide (ns = ms) := by
    simp only [PyData.eqv]; exact ints_eqv ns ms
  rw [e]
  exact q
end
theorem fit_bools {a b : Bool} : Fit 60 60000 (.list [.bool a, .bool b]) := ⟨rfl, rfl, Nat.le_of_ble_eq_true rfl, Nat.le_of_ble_eq_true rfl⟩
end Cm
namespace Cm
open PySem PySem.Spec PyProof.Rows L2
def top (i : Nat) : Stmt := PySem.Challenge.pw_classmarks_k01_works_known.main.body.getD i (.Pass ⟨0, 0, 0, 0⟩)
structure Tx (K : PySem.W.Frag) (mg : Str → Option Value) where
  f_has_parts : Addr
  fd_has_parts : FuncData
  F_has_parts : Fun K "has_parts" "has_parts" (top 1) f_has_parts fd_has_parts
  b_has_parts : Binds K fd_has_parts ["thing", "least", "most"] []
  m_has_parts : mg "has_parts" = some (.ref f_has_parts)
  f_never_falls : Addr
  fd_never_falls : FuncData
  F_never_falls : Fun K "never_falls" "never_falls" (top 2) f_never_falls fd_never_falls
  b_never_falls : Binds K fd_never_falls ["numbers"] []
  m_never_falls : mg "never_falls" = some (.ref f_never_falls)
  f_is_whole_from : Addr
  fd_is_whole_from : FuncData
  F_is_whole_from : Fun K "is_whole_from" "is_whole_from" (top 4) f_is_whole_from fd_is_whole_from
  b_is_whole_from : Binds K fd_is_whole_from ["thing", "least"] []
  m_is_whole_from : mg "is_whole_from" = some (.ref f_is_whole_from)
  f_is_whole_in : Addr
  fd_is_whole_in : FuncData
  F_is_whole_in : Fun K "is_whole_in" "is_whole_in" (top 5) f_is_whole_in fd_is_whole_in
  b_is_whole_in : Binds K fd_is_whole_in ["thing", "least", "most"] []
  m_is_whole_in : mg "is_whole_in" = some (.ref f_is_whole_in)
  f_is_day : Addr
  fd_is_day : FuncData
  F_is_day : Fun K "is_day" "is_day" (top 10) f_is_day fd_is_day
  b_is_day : Binds K fd_is_day ["thing"] []
  m_is_day : mg "is_day" = some (.ref f_is_day)
  f_is_work : Addr
  fd_is_work : FuncData
  F_is_work : Fun K "is_work" "is_work" (top 11) f_is_work fd_is_work
  b_is_work : Binds K fd_is_work ["thing"] []
  m_is_work : mg "is_work" = some (.ref f_is_work)
  f_are_works : Addr
  fd_are_works : FuncData
  F_are_works : Fun K "are_works" "are_works" (top 12) f_are_works fd_are_works
  b_are_works : Binds K fd_are_works ["thing"] []
  m_are_works : mg "are_works" = some (.ref f_are_works)
  f__law_cell_at : Addr
  fd__law_cell_at : FuncData
  F__law_cell_at : Fun K "_law_cell_at" "_law_cell_at" (top 14) f__law_cell_at fd__law_cell_at
  b__law_cell_at : Binds K fd__law_cell_at ["_law_script", "_law_k"] []
  m__law_cell_at : mg "_law_cell_at" = some (.ref f__law_cell_at)
  f__law_state : Addr
  fd__law_state : FuncData
  F__law_state : Fun K "_law_state" "_law_state" (top 15) f__law_state fd__law_state
  b__law_state : Binds K fd__law_state ["_law_script", "_law_k"] []
  m__law_state : mg "_law_state" = some (.ref f__law_state)
  f__law_take : Addr
  fd__law_take : FuncData
  F__law_take : Fun K "_law_take" "_law_take" (top 16) f__law_take fd__law_take
  b__law_take : Binds K fd__law_take ["_law_state_here", "_law_many"] []
  m__law_take : mg "_law_take" = some (.ref f__law_take)
  f__law_works : Addr
  fd__law_works : FuncData
  F__law_works : Fun K "_law_works" "_law_works" (top 17) f__law_works fd__law_works
  b__law_works : Binds K fd__law_works ["_law_state_here", "_law_most"] []
  m__law_works : mg "_law_works" = some (.ref f__law_works)
  f__law_odd : Addr
  fd__law_odd : FuncData
  F__law_odd : Fun K "_law_odd" "_law_odd" (top 18) f__law_odd fd__law_odd
  b__law_odd : Binds K fd__law_odd ["_law_state_here"] []
  m__law_odd : mg "_law_odd" = some (.ref f__law_odd)
  f__law_whole : Addr
  fd__law_whole : FuncData
  F__law_whole : Fun K "_law_whole" "_law_whole" (top 19) f__law_whole fd__law_whole
  b__law_whole : Binds K fd__law_whole ["_law_thing"] []
  m__law_whole : mg "_law_whole" = some (.ref f__law_whole)
  f__law_between : Addr
  fd__law_between : FuncData
  F__law_between : Fun K "_law_between" "_law_between" (top 20) f__law_between fd__law_between
  b__law_between : Binds K fd__law_between ["_law_thing", "_law_low", "_law_high"] []
  m__law_between : mg "_law_between" = some (.ref f__law_between)
  f__law_spoilt : Addr
  fd__law_spoilt : FuncData
  F__law_spoilt : Fun K "_law_spoilt" "_law_spoilt" (top 21) f__law_spoilt fd__law_spoilt
  b__law_spoilt : Binds K fd__law_spoilt ["_law_state_here", "_law_thing", "_law_deep"] []
  m__law_spoilt : mg "_law_spoilt" = some (.ref f__law_spoilt)
  f__law_is_work : Addr
  fd__law_is_work : FuncData
  F__law_is_work : Fun K "_law_is_work" "_law_is_work" (top 22) f__law_is_work fd__law_is_work
  b__law_is_work : Binds K fd__law_is_work ["_law_thing"] []
  m__law_is_work : mg "_law_is_work" = some (.ref f__law_is_work)
  f__law_are_works : Addr
  fd__law_are_works : FuncData
  F__law_are_works : Fun K "_law_are_works" "_law_are_works" (top 23) f__law_are_works fd__law_are_works
  b__law_are_works : Binds K fd__law_are_works ["_law_thing"] []
  m__law_are_works : mg "_law_are_works" = some (.ref f__law_are_works)
  f__law_same : Addr
  fd__law_same : FuncData
  F__law_same : Fun K "_law_same" "_law_same" (top 24) f__law_same fd__law_same
  b__law_same : Binds K fd__law_same ["_law_found", "_law_due"] []
  m__law_same : mg "_law_same" = some (.ref f__law_same)
  f__law_right : Addr
  fd__law_right : FuncData
  F__law_right : Fun K "_law_right" "_law_right" (top 25) f__law_right fd__law_right
  b__law_right : Binds K fd__law_right ["_law_thing"] []
  m__law_right : mg "_law_right" = some (.ref f__law_right)
  f__law_bounds : Addr
  fd__law_bounds : FuncData
  F__law_bounds : Fun K "_law_bounds" "_law_bounds" (top 26) f__law_bounds fd__law_bounds
  b__law_bounds : Binds K fd__law_bounds ["_law_state_here"] []
  m__law_bounds : mg "_law_bounds" = some (.ref f__law_bounds)
  f_law : Addr
  fd_law : FuncData
  F_law : Fun K "law" "law" (top 27) f_law fd_law
  b_law : Binds K fd_law ["_law_script"] []
  m_law : mg "law" = some (.ref f_law)
  m_LAST_DAY : ∃ t, mg "LAST_DAY" = some (.int 200 t)
  m_MOST_POINTS : ∃ t, mg "MOST_POINTS" = some (.int 100 t)
  m_MOST_WORKS : ∃ t, mg "MOST_WORKS" = some (.int 12 t)
  m_all : mg "all" = none
  m_bool : mg "bool" = none
  m_int : mg "int" = none
  m_isinstance : mg "isinstance" = none
  m_len : mg "len" = none
  m_list : mg "list" = none
  m_max : mg "max" = none
  m_min : mg "min" = none
  m_range : mg "range" = none
  m_repr : mg "repr" = none
  m_sorted : mg "sorted" = none
  m_str : mg "str" = none
  m_tuple : mg "tuple" = none
/-! ### what the defs tell, as functions of data -/
def betweenD (lo hi : Int) : PyData → Bool
  | .int i => decide (lo ≤ i ∧ i ≤ hi)
  | _ => false
def fromD (lo : Int) : PyData → Bool
  | .int i => decide (lo ≤ i)
  | _ => false
def partsD (lo hi : Int) : PyData → Bool
  | .tuple ds => decide (lo ≤ (ds.length : Int) ∧ (ds.length : Int) ≤ hi)
  | _ => false
def wholeD : PyData → Bool
  | .int _ => true
  | _ => false
def workD : PyData → Bool
  | .tuple [a, b, c] => betweenD 0 200 a && (betweenD 1 100 b && isD "bool" c)
  | _ => false
def dayD : PyData → Int
  | .tuple (.int i :: _) => i
  | _ => 0
def worksD : PyData → Bool
  | .tuple ds => decide (1 ≤ ds.length ∧ ds.length ≤ 12) && (ds.all workD && decide ((ds.map dayD).Pairwise (· ≤ ·)))
  | _ => false
/-! ### the promises -/
def sp_is_whole_in (_ : PySem.W.Frag) : Sp := fun vs H Q _ => ∃ (p : Addr) (v : V) (d : PyData) (lo hi : Int), vs = [v, .int lo, .int hi] ∧ Dt H p v d ∧ Q (.bl (betweenD lo hi d)) H
def sp_is_whole_from (_ : PySem.W.Frag) : Sp := fun vs H Q _ => ∃ (p : Addr) (v : V) (d : PyData) (lo : Int), vs = [v, .int lo] ∧ Dt H p v d ∧ Q (.bl (fromD lo d)) H
def sp_has_parts (_ : PySem.W.Frag) : Sp := fun vs H Q _ => ∃ (p : Addr) (v : V) (d : PyData) (lo hi : Int), vs = [v, .int lo, .int hi] ∧ Dt H p v d ∧ Q (.bl (partsD lo hi d)) H
def sp_never_falls (_ : PySem.W.Frag) : Sp := fun vs H Q _ => ∃ (a : Addr) (ns : List Int), vs = [.ref a] ∧ H a = some (.lst (ns.map V.int)) ∧ ns.length < 64 ∧ ∀ H', Same H H' → Q (.bl (decide (ns.Pairwise (· ≤ ·)))) H'
def sp__law_between (K : PySem.W.Frag) : Sp := sp_is_whole_in K
def sp_is_day (_ : PySem.W.Frag) : Sp := fun vs H Q _ => ∃ (p : Addr) (v : V) (d : PyData), vs = [v] ∧ Dt H p v d ∧ Q (.bl (betweenD 0 200 d)) H
def sp__law_whole (_ : PySem.W.Frag) : Sp := fun vs H Q _ => ∃ (p : Addr) (v : V) (d : PyData), vs = [v] ∧ Dt H p v d ∧ Q (.bl (wholeD d)) H
def sp_is_work (_ : PySem.W.Frag) : Sp := fun vs H Q _ => ∃ (p : Addr) (v : V) (d : PyData), vs = [v] ∧ Dt H p v d ∧ Q (.bl (workD d)) H
def sp__law_is_work (K : PySem.W.Frag) : Sp := sp_is_work K
def sp_are_works (_ : PySem.W.Frag) : Sp := fun vs H Q _ => ∃ (p : Addr) (v : V) (d : PyData), vs = [v] ∧ Dt H p v d ∧ ∀ H', Same H H' → Q (.bl (worksD d)) H'
def sp__law_are_works (K : PySem.W.Frag) : Sp := sp_are_works K
section
variable {K : PySem.W.Frag} {H : Hp} {Q : VK} {E : XK} {p : Addr} {v : V} {d : PyData} {lo hi : Int}
theorem c_is_whole_in (h : Dt H p v d) (q : Q (.bl (betweenD lo hi d)) H) : sp_is_whole_in K ([v, .int lo, .int hi] ++ []) H Q E := ⟨p, v, d, lo, hi, rfl, h, q⟩
theorem c__law_between (h : Dt H p v d) (q : Q (.bl (betweenD lo hi d)) H) : sp__law_between K ([v, .int lo, .int hi] ++ []) H Q E := ⟨p, v, d, lo, hi, rfl, h, q⟩
theorem c_is_whole_from (h : Dt H p v d) (q : Q (.bl (fromD lo d)) H) : sp_is_whole_from K ([v, .int lo] ++ []) H Q E := ⟨p, v, d, lo, rfl, h, q⟩
theorem c_has_parts (h : Dt H p v d) (q : Q (.bl (partsD lo hi d)) H) : sp_has_parts K ([v, .int lo, .int hi] ++ []) H Q E := ⟨p, v, d, lo, hi, rfl, h, q⟩
theorem c_never_falls {a : Addr} {ns : List Int} (h : H a = some (.lst (ns.map V.int))) (l : ns.length < 64) (q : ∀ H', Same H H' → Q (.bl (decide (ns.Pairwise (· ≤ ·)))) H') : sp_never_falls K ([.ref a] ++ []) H Q E := ⟨a, ns, rfl, h, l, q⟩
theorem c_is_day (h : Dt H p v d) (q : Q (.bl (betweenD 0 200 d)) H) : sp_is_day K ([v] ++ []) H Q E := ⟨p, v, d, rfl, h, q⟩
theorem c__law_whole (h : Dt H p v d) (q : Q (.bl (wholeD d)) H) : sp__law_whole K ([v] ++ []) H Q E := ⟨p, v, d, rfl, h, q⟩
theorem c_is_work (h : Dt H p v d) (q : Q (.bl (workD d)) H) : sp_is_work K ([v] ++ []) H Q E := ⟨p, v, d, rfl, h, q⟩
theorem c__law_is_work (h : Dt H p v d) (q : Q (.bl (workD d)) H) : sp__law_is_work K ([v] ++ []) H Q E := ⟨p, v, d, rfl, h, q⟩
theorem c_are_works (h : Dt H p v d) (q : ∀ H', Same H H' → Q (.bl (worksD d)) H') : sp_are_works K ([v] ++ []) H Q E := ⟨p, v, d, rfl, h, q⟩
theorem c__law_are_works (h : Dt H p v d) (q : ∀ H', Same H H' → Q (.bl (worksD d)) H') : sp__law_are_works K ([v] ++ []) H Q E := ⟨p, v, d, rfl, h, q⟩
end

/-! ### draws -/
/-- a row of draws stands at p -/
def Dr (p : Addr) (H : Hp) : Prop := ∃ a b : Int, H p = some (.lst [.int a, .int b]) ∧ 0 ≤ a ∧ 0 ≤ b ∧ b < 2 ^ 40
theorem Dr.new {p q : Addr} {H : Hp} {o : HO} (d : Dr p H) (n : Fre H q) : Dr p (upd H q o) := by
  obtain ⟨a, b, h, r⟩ := d
  exact ⟨a, b, g_new h n.no, r⟩
theorem Dr.other {p q : Addr} {H : Hp} {o : HO} (d : Dr p H) (n : p ≠ q) : Dr p (upd H q o) := by
  obtain ⟨a, b, h, r⟩ := d
  exact ⟨a, b, g_other n h, r⟩
theorem Dr.same {p : Addr} {H H' : Hp} (s : Same H H') (d : Dr p H) : Dr p H' := by
  obtain ⟨a, b, h, r⟩ := d
  exact ⟨a, b, s _ _ h, r⟩
theorem Dr.at {p : Addr} {H : Hp} (d : Dr p H) : ∃ o, H p = some o := by
  obtain ⟨a, b, h, r⟩ := d
  exact ⟨_, h⟩
theorem Dr.ne {p q : Addr} {H : Hp} (d : Dr p H) (n : Fre H q) : q ≠ p := by
  obtain ⟨o, h⟩ := d.at
  exact (ne_of_none h n.no).symm
theorem r_pickK {K : PySem.W.Frag} {H : Hp} {Q : VK} {p : Addr} {ns : List Int} {i : Int} (h : SqL K H p (ns.map V.int)) (h0 : 0 ≤ i) (h1 : i < (ns.map V.int).length) (q : ∀ z, z ∈ ns → Q (.int z) H) : rIx K (.ref p) (.int i) H Q := by
  obtain ⟨v, m, e⟩ := atI_in h0 h1
  obtain ⟨z, hz, rfl⟩ := List.mem_map.mp m
  exact .inl ⟨p, _, i, _, rfl, rfl, h, e, q z hz⟩
def sp__law_cell_at (K : PySem.W.Frag) : Sp := fun vs H Q _ => ∃ (a : Addr) (ns : List Int) (k : Int), vs = [.ref a, .int k] ∧ SqL K H a (ns.map V.int) ∧ 0 ≤ k ∧ ∀ i, Q (.int i) H
def sp__law_state (K : PySem.W.Frag) : Sp := fun vs H Q _ => ∃ (a : Addr) (ns : List Int) (k : Int), vs = [.ref a, .int k] ∧ SqL K H a (ns.map V.int) ∧ 0 ≤ k ∧
  ∀ p H', Fre H p → Same H H' → Dr p H' → Q (.ref p) H'
def sp__law_take (_ : PySem.W.Frag) : Sp := fun vs H Q _ => ∃ (p : Addr) (n : Int), vs = [.ref p, .int n] ∧ Dr p H ∧ 0 < n ∧ n < 2 ^ 60 ∧
  ∀ r H', 0 ≤ r → r < n → Keep p H H' → Dr p H' → Q (.int r) H'
/-- the region R, and what came between H and H' -/
def Un (R H H' : Hp) : Hp := fun b => match R b with
  | some o => some o
  | none => match H b with
    | none => H' b
    | some _ => none
/-- no region -/
def N0 : Hp := fun _ => none
theorem Un.sub {p : Addr} {R H H' : Hp} (k : Keep p R H) (l : Keep p H H') : Keep p (Un R H H') H' := by
  intro b o nb h
  unfold Un at h
  cases hR : R b with
  | some u => rw [hR] at h; exact l _ _ nb (k _ _ nb (hR.trans h))
  | none =>
    rw [hR] at h
    cases hH : H b with
    | some u => rw [hH] at h; cases h
    | none => rw [hH] at h; exact h
theorem Un.reg {p : Addr} {R H H' : Hp} : Keep p R (Un R H H') := by
  intro b o nb h
  unfold Un
  rw [h]
theorem Un.keep {p : Addr} {S R H H1 H2 Hf : Hp} (s : Same S R) (kR : Keep p R H) (k : Keep p H H1) (n : ∀ b o, H1 b = none → H2 b = some o → Hf b = some o) : Keep p (Un S H1 H2) (Un R H Hf) := by
  intro b o nb h
  unfold Un at *
  cases hS : S b with
  | some u =>
    rw [hS] at h
    rw [s _ _ hS]
    exact h
  | none =>
    rw [hS] at h
    cases h1 : H1 b with
    | some u => rw [h1] at h; cases h
    | none =>
      rw [h1] at h
      have hH : H b = none := by
        cases e : H b with
        | none => rfl
        | some u => rw [k _ _ nb e] at h1; cases h1
      have hR : R b = none := by
        cases e : R b with
        | none => rfl
        | some u => rw [kR _ _ nb e] at hH; cases hH
      rw [hR, hH]
      exact n _ _ h1 h
theorem N0.same {R : Hp} : Same N0 R := fun _ _ h => by cases h
theorem N0.keep {p : Addr} {R : Hp} : Keep p N0 R := fun _ _ _ h => by cases h
theorem Dt.thereU {H H' : Hp} {p a : Addr} {o : HO} {d : PyData} (n : a ≠ p) (f : Fre H a) (h : H' a = some o) (c : DtC (Un N0 H H') p o d) : Dt (Un N0 H H') p (.ref a) d := by
  refine Dt.there n ?_ c
  unfold Un N0
  rw [f.no]
  exact h
/-- drawn data: some data within these bounds, in the region R or new -/
def Drawn_ (p : Addr) (R H : Hp) (N m b : Nat) (Q : VK) : Prop := ∀ v d H', Keep p H H' → Dr p H' → Dt (Un R H H') p v d → Ft N m b d → Q v H'
def sp__law_odd (_ : PySem.W.Frag) : Sp := fun vs H Q _ => ∃ (p : Addr), vs = [.ref p] ∧ Dr p H ∧ Drawn_ p N0 H (10 ^ 30) 3 10 Q
def sp__law_works (_ : PySem.W.Frag) : Sp := fun vs H Q _ => ∃ (p : Addr) (n : Int), vs = [.ref p, .int n] ∧ Dr p H ∧ 0 < n ∧ n ≤ 12 ∧
  ∀ t x xs ds H', Keep p H H' → Dr p H' → t ≠ p → H' t = some (.tup (x :: xs)) → DtAll H' p (x :: xs) ds → FtAll (10 ^ 30) 3 100 ds → Q (.ref t) H'
def sp_spoilt (n : Nat) (_ : PySem.W.Frag) : Sp := fun vs H Q _ => ∃ (p : Addr) (v : V) (d : PyData) (R : Hp) (N m b : Nat), vs = [.ref p, v, .int n] ∧ Dr p H ∧ Keep p R H ∧ Dt R p v d ∧ Ft N m b d ∧
  10 ^ 30 ≤ N ∧ N ≤ 2 ^ 190 ∧ b ≤ 10000 ∧ Drawn_ p R H (N + 201) (m + 4) (2 * b + 20) Q
def sp__law_spoilt (K : PySem.W.Frag) : Sp := fun vs H Q E => ∃ i, i ≤ 2 ∧ sp_spoilt i K vs H Q E
def sp__law_same (_ : PySem.W.Frag) : Sp := fun vs H Q _ => ∃ (p : Addr) (v u : V) (d e : PyData), vs = [v, u] ∧ Dt H p v d ∧ Dt H p u e ∧ Fit 60 60000 d ∧ Fit 60 60000 e ∧ Q (.bl (decide (d.shown = e.shown))) H
def sp__law_right (_ : PySem.W.Frag) : Sp := fun vs H Q _ => ∃ (p : Addr) (v : V) (d : PyData), vs = [v] ∧ Dt H p v d ∧ Fit 60 60000 d ∧ (∃ o, H p = some o) ∧ ∀ H', Same H H' → Q (.bl true) H'
def sp__law_bounds (_ : PySem.W.Frag) : Sp := fun vs H Q _ => ∃ (p : Addr), vs = [.ref p] ∧ Dr p H ∧
  ∀ t xs ds H', Fre H t → Keep p H H' → Dr p H' → t ≠ p → H' t = some (.lst xs) → xs.length ≤ 40 → DtAll H' p xs ds → FtAll (10 ^ 30) 6 1000 ds → Q (.ref t) H'
def sp_law (K : PySem.W.Frag) : Sp := fun vs H Q _ => ∃ (a : Addr) (ns : List Int), vs = [.ref a] ∧ SqL K H a (ns.map V.int) ∧ ns.length ≤ 63 ∧ ∀ H', Q (.bl true) H'
section
variable {K : PySem.W.Frag} {H : Hp} {Q : VK} {E : XK} {p a : Addr} {v u : V} {d e : PyData} {n k : Int} {ns : List Int} {N m b : Nat}
theorem c__law_cell_at (h : SqL K H a (ns.map V.int)) (h0 : 0 ≤ k) (q : ∀ i, Q (.int i) H) : sp__law_cell_at K ([.ref a, .int k] ++ []) H Q E := ⟨a, ns, k, rfl, h, h0, q⟩
theorem c__law_state (h : SqL K H a (ns.map V.int)) (h0 : 0 ≤ k) (q : ∀ p H', Fre H p → Same H H' → Dr p H' → Q (.ref p) H') : sp__law_state K ([.ref a, .int k] ++ []) H Q E := ⟨a, ns, k, rfl, h, h0, q⟩
theorem c__law_take (h : Dr p H) (h0 : 0 < n) (h1 : n < 2 ^ 60) (q : ∀ r H', 0 ≤ r → r < n → Keep p H H' → Dr p H' → Q (.int r) H') : sp__law_take K ([.ref p, .int n] ++ []) H Q E := ⟨p, n, rfl, h, h0, h1, q⟩
theorem c__law_odd (h : Dr p H) (q : ∀ v d H', Keep p H H' → Dr p H' → Dt (Un N0 H H') p v d → Dt H' p v d → Ft (10 ^ 30) 3 10 d → Q v H') : sp__law_odd K ([.ref p] ++ []) H Q E :=
  ⟨p, rfl, h, fun v d H' k dr t f => q v d H' k dr t (t.keep (Un.sub N0.keep k)) f⟩
theorem c__law_works (h : Dr p H) (h0 : 0 < n) (h1 : n ≤ 12) (q : ∀ t x xs ds H', Keep p H H' → Dr p H' → t ≠ p → H' t = some (.tup (x :: xs)) → DtAll H' p (x :: xs) ds → FtAll (10 ^ 30) 3 100 ds → Q (.ref t) H') :
    sp__law_works K ([.ref p, .int n] ++ []) H Q E := ⟨p, n, rfl, h, h0, h1, q⟩
theorem c__law_spoilt (h : Dr p H) (hd : Dt H p v d) (f : Ft N m b d) (n0 : 0 ≤ n) (n2 : n ≤ 2) (h1 : 10 ^ 30 ≤ N) (h2 : N ≤ 2 ^ 190) (h5 : b ≤ 10000)
    (q : ∀ v d H', Keep p H H' → Dr p H' → Dt H' p v d → Ft (N + 201) (m + 4) (2 * b + 20) d → Q v H') : sp__law_spoilt K ([.ref p, v, .int n] ++ []) H Q E := by
  obtain ⟨j, rfl⟩ := Int.eq_ofNat_of_zero_le n0
  exact ⟨j, by omega, p, v, d, H, N, m, b, rfl, h, Keep.refl p H, hd, f, h1, h2, h5, fun v d H' k dr t f => q v d H' k dr (t.keep (Un.sub (Keep.refl p H) k)) f⟩
/-- the address that data keeps apart from -/
structure Mark (p : Addr) : Prop where
theorem c__law_same (_ : Mark p) (hd : Dt H p v d) (he : Dt H p u e) (f : Fit 60 60000 d) (g : Fit 60 60000 e) (q : Q (.bl (decide (d.shown = e.shown))) H) : sp__law_same K ([v, u] ++ []) H Q E := ⟨p, v, u, d, e, rfl, hd, he, f, g, q⟩
theorem c__law_right (hd : Dt H p v d) (f : Fit 60 60000 d) (ho : ∃ o, H p = some o) (q : ∀ H', Same H H' → Q (.bl true) H') : sp__law_right K ([v] ++ []) H Q E := ⟨p, v, d, rfl, hd, f, ho, q⟩
theorem c__law_bounds (h : Dr p H) (q : ∀ t xs ds H', Fre H t → Keep p H H' → Dr p H' → t ≠ p → H' t = some (.lst xs) → xs.length ≤ 40 → DtAll H' p xs ds → FtAll (10 ^ 30) 6 1000 ds → Q (.ref t) H') : sp__law_bounds K ([.ref p] ++ []) H Q E := ⟨p, rfl, h, q⟩
end
local macro_rules | `(tactic| walk_at "N0") => `(tactic| first
  | assumption
  | (refine Ne.symm ?_; assumption))
local macro_rules | `(tactic| walk_at "GG") => `(tactic| first
  | assumption
  | with_reducible exact upd_same
  | ((first
    | ((with_reducible refine' g_newF ?n ?h); (case n => assumption))
    | ((with_reducible refine' g_other ?n ?h); (case n => walk_at "N0"))
    | (refine' g_keep ?k ?n ?h; (case k => assumption); (case n => walk_at "N0"))
    | (refine' g_same ?s ?h; (case s => assumption))); (case h => walk_at "GG")))
local macro_rules | `(tactic| walk_at "NE") => `(tactic| first
  | walk_at "N0"
  | (refine' n_newF ?n ?h; (case n => assumption); (case h => walk_at "GG"))
  | (refine' n_newF' ?n ?h; (case n => assumption); (case h => walk_at "GG")))
local macro_rules | `(tactic| walk_at "FR") => `(tactic| first
  | assumption
  | (refine' Fre.of ?n; (case n => assumption))
  | (refine' Keep.freeF ?k ?ne ?n; (case n => assumption); (case k => walk_at "KP"); (case ne => walk_at "NE"))
  | (refine' Same.freeF ?k ?n; (case n => assumption); (case k => walk_at "SM")))
local macro_rules | `(tactic| walk_at "KP") => `(tactic| first
  | assumption
  | with_reducible exact Keep.refl _ _
  | ((first
    | ((with_reducible refine' Keep.newF ?k ?n); (case n => assumption))
    | (with_reducible refine' Keep.put ?k)
    | ((with_reducible refine' Keep.overF ?k ?n); (case n => walk_at "FR"))
    | (refine' Keep.trans ?k ?b; (case b => assumption))
    | (refine' Keep.trans ?k (Keep.of ?b); (case b => assumption))); (case k => walk_at "KP")))
local macro_rules | `(tactic| walk_at "SM") => `(tactic| first
  | assumption
  | with_reducible exact Same.refl _
  | ((first
    | ((with_reducible refine' Same.newF ?k ?n); (case n => assumption))
    | ((with_reducible refine' Same.overF ?k ?n); (case n => walk_at "FR"))
    | (refine' Same.trans ?k ?b; (case b => assumption))); (case k => walk_at "SM")))
local macro_rules | `(tactic| walk_at "G") => `(tactic| first
  | assumption
  | with_reducible exact upd_same
  | ((first
    | ((with_reducible refine' g_newF ?n ?h); (case n => assumption))
    | ((with_reducible refine' g_other ?n ?h); (case n => walk_at "NE"))
    | (refine' g_keep ?k ?n ?h; (case k => assumption); (case n => walk_at "NE"))
    | (refine' g_same ?s ?h; (case s => assumption))); (case h => walk_at "G")))
local macro_rules | `(tactic| walk_at "DT") => `(tactic| first
  | assumption
  | with_reducible exact Dt.int _
  | with_reducible exact Dt.str _
  | with_reducible exact Dt.bl _
  | with_reducible exact Dt.non
  | (refine' Dt.keep ?k ?h; (case h => assumption); (case k => walk_at "KP")))
local macro_rules | `(tactic| walk_at "DD") => `(tactic| first
  | walk_at "DT"
  | (refine' Dt.there ?n ?h ?c; (case n => walk_at "NE"); (case h => walk_at "G"); (case c => first
    | ((with_reducible refine' DtC.tup ?a); (case a => walk_at "DA"))
    | ((with_reducible refine' DtC.lst ?a); (case a => walk_at "DA"))
    | ((with_reducible refine' DtC.dct ?a); (case a => simp)))))
local macro_rules | `(tactic| walk_at "DA") => `(tactic| first
  | assumption
  | with_reducible exact DtAll.nil
  | ((with_reducible refine' DtAll.cons ?a ?b); (case a => walk_at "DD"); (case b => walk_at "DA")))
local macro_rules | `(tactic| walk_at "RG") => `(tactic| first
  | assumption
  | ((first
    | ((with_reducible refine' Reg.new ?r ?n); (case n => assumption))
    | (with_reducible refine' Reg.put ?r)
    | (refine' Reg.keep ?r ?k; (case k => assumption))); (case r => walk_at "RG")))
local macro_rules | `(tactic| walk_at "AR") => `(tactic| first
  | assumption
  | omega
  | decide
  | (simp only [List.length_map, List.length_append, List.length_cons, List.length_nil, List.length_set, List.length_reverse]; omega))
local macro_rules | `(tactic| walk_at "KD") => `(tactic| first | exact Or.inl rfl | exact Or.inr (Or.inl rfl) | exact Or.inr (Or.inr (Or.inl rfl)) | exact Or.inr (Or.inr (Or.inr (Or.inl rfl))) | exact Or.inr (Or.inr (Or.inr (Or.inr (Or.inl rfl)))) | exact Or.inr (Or.inr (Or.inr (Or.inr (Or.inr rfl)))))
local macro_rules | `(tactic| walk_at "S") => `(tactic| first
  | ((with_reducible refine' r_var ?h ?_); (case h => rfl))
  | with_reducible refine' r_c ?_
  | with_reducible refine' r_op ?_
  | with_reducible refine' r_cons ?_
  | with_reducible refine' r_nil ?_
  | with_reducible refine' r_cb ?_
  | with_reducible refine' r_call ?_
  | with_reducible refine' r_rI0 ?_
  | with_reducible refine' r_plusI ?_
  | with_reducible refine' r_isbl ?_
  | with_reducible refine' r_isint ?_
  | with_reducible refine' r_sameI ?_
  | with_reducible refine' r_unlikeI ?_
  | with_reducible refine' r_sameS ?_
  | with_reducible refine' r_unlikeS ?_
  | with_reducible refine' r_rU ?_
  | with_reducible refine' r_un ?_
  | with_reducible refine' r_tup ?_
  | with_reducible refine' r_lst ?_
  | ((with_reducible refine' r_small ?h ?_); (case h => walk_at "AR"))
  | with_reducible refine' r_if ?_
  | with_reducible refine' r_test ?_
  | with_reducible refine' r_B ?_
  | with_reducible refine' r_and ?_
  | with_reducible refine' r_or ?_
  | with_reducible refine' r_not ?_
  | with_reducible refine' r_andV ?_
  | with_reducible refine' r_orV ?_
  | with_reducible refine' r_notV ?_
  | with_reducible refine' r_chain ?_
  | with_reducible refine' iteT ?_
  | with_reducible refine' iteF ?_
  | with_reducible refine' r_next ?_
  | with_reducible refine' r_seq ?_
  | with_reducible refine' r_ret ?_
  | with_reducible refine' r_retN ?_
  | with_reducible refine' r_drop ?_
  | with_reducible refine' r_ifS ?_
  | with_reducible refine' r_asg ?_
  | with_reducible refine' r_break ?_
  | with_reducible refine' r_cont ?_
  | ((with_reducible refine' r_gname ?h ?_); (case h => first | (simp only [wipe, List.map_cons, List.map_nil, List.set_cons_zero, List.set_cons_succ]; rfl) | rfl))
  | with_reducible refine' r_gsub ?_
  | with_reducible refine' r_gnil ?_
  | with_reducible refine' r_gcons ?_
  | with_reducible refine' r_for ?_
  | with_reducible refine' r_lc ?_
  | ((with_reducible refine' r_wipe ?h ?_); (case h => rfl))
  | with_reducible refine' r_yes ?_
  | ((with_reducible refine' r_repr ?h ?f ?_); (case h => walk_at "DD"); (case f => walk_at "FT"))
  | with_reducible refine' r_par ?_
  | with_reducible refine' r_par3 ?_
  | with_reducible refine' r_two ?_
  | with_reducible refine' r_three ?_
  | with_reducible refine' r_sl ?_
  | with_reducible refine' r_nopart ?_
  | with_reducible refine' r_part ?_
  | with_reducible refine' r_bm ?_
  | with_reducible refine' r_bm0 ?_
  | with_reducible refine' r_tyS ?_
  | with_reducible refine' r_min2 ?_
  | with_reducible refine' r_rev ?_
  | ((with_reducible refine' r_isT ?h ?_); (case h => walk_at "G"))
  | ((with_reducible refine' r_eqNo ?h ?k ?_); (case h => walk_at "G"); (case k => walk_at "G"))
  | with_reducible refine' r_itup ?_
  | with_reducible refine' r_ilst ?_
  | ((with_reducible refine' r_atT ?h ?_); (case h => walk_at "G"))
  | with_reducible refine' r_dnew ?_
  | with_reducible refine' r_disp1 ?_
  | ((with_reducible refine' r_plusL ?h ?k ?e ?_); (case h => walk_at "G"); (case k => walk_at "G"); (case e => walk_at "AR"))
  | ((with_reducible refine' r_atL ?h ?_); (case h => walk_at "G"))
  | with_reducible refine' r_irng1 ?_
  | ((with_reducible refine' r_rng ?h ?k ?_); (case h => walk_at "AR"); (case k => walk_at "AR"))
  | with_reducible refine' r_max2 ?_
  | ((with_reducible refine' r_mod ?h ?_); (case h => walk_at "AR"))
  | ((with_reducible refine' r_div ?h ?k ?_); (case h => walk_at "AR"); (case k => walk_at "AR"))
  | ((with_reducible refine' r_pow ?h ?k ?m ?_); (case h => decide); (case k => decide); (case m => decide))
  | ((with_reducible refine' r_timesI ?h ?k ?_); (case h => walk_at "AR"); (case k => walk_at "AR"))
  | ((with_reducible refine' r_ixL0 ?h ?_); (case h => walk_at "G"))
  | ((with_reducible refine' r_ixL1 ?h ?_); (case h => walk_at "G"))
  | ((with_reducible refine' r_ixL2 ?h ?_); (case h => walk_at "G"))
  | ((with_reducible refine' r_ixT0 ?h ?_); (case h => walk_at "G"))
  | ((with_reducible refine' r_ixT1 ?h ?_); (case h => walk_at "G"))
  | ((with_reducible refine' r_ixT2 ?h ?_); (case h => walk_at "G"))
  | ((with_reducible refine' r_setL0 ?h ?_); (case h => walk_at "G"))
  | ((with_reducible refine' r_setL1 ?h ?_); (case h => walk_at "G"))
  | ((with_reducible refine' r_setL2 ?h ?_); (case h => walk_at "G"))
  | ((with_reducible refine' r_pickI ?h ?k ?l ?b ?_); (case h => walk_at "G"); (case k => walk_at "AR"); (case l => walk_at "AR"); (case b => (simp; done)); intro z hz; simp only [List.mem_cons, V.int.injEq, List.not_mem_nil, or_false] at hz)
  | ((with_reducible refine' r_pickS ?h ?k ?l ?b ?_); (case h => walk_at "G"); (case k => walk_at "AR"); (case l => walk_at "AR"); (case b => (simp; done)); intro z hz; simp only [List.mem_cons, V.str.injEq, List.not_mem_nil, or_false] at hz)
  | ((with_reducible refine' r_tyL ?h ?_); (case h => walk_at "G"))
  | ((with_reducible refine' r_append ?h ?e ?_); (case h => walk_at "G"); (case e => walk_at "AR"))
  | ((with_reducible refine' r_isi ?h ?e ?f ?_); (case h => walk_at "DT"); (case e => walk_at "KD"); (case f => first | exact (rfl : _ = true) | exact (rfl : _ = false) | rfl))
  | ((with_reducible refine' r_lenL ?h ?_); (case h => walk_at "G"))
  | ((with_reducible refine' r_lenT ?h ?_); (case h => walk_at "G"))
  | ((with_reducible refine' r_lenK ?h ?_); (case h => assumption))
  | ((with_reducible refine' r_listL ?h ?_); (case h => walk_at "G"))
  | ((with_reducible refine' r_listT ?h ?_); (case h => walk_at "G"))
  | ((with_reducible refine' r_tupL ?h ?_); (case h => walk_at "G"))
  | ((with_reducible refine' r_gtup ?h ?e ?_); (case h => walk_at "G"); (case e => rfl))
  | ((with_reducible refine' r_free ?_); intro _ _)
  | ((with_reducible refine' iteT_of ?h ?_); (case h => rfl))
  | ((with_reducible refine' iteF_of ?h ?_); (case h => rfl))
  | ((with_reducible refine' r_ite ?_ ?_) <;> intro hc <;> (try simp only [decide_eq_true_eq, decide_eq_false_iff_not, Bool.not_eq_true', Bool.not_eq_false', Bool.not_eq_true, Bool.not_eq_false, Bool.not_true, Bool.not_false, Bool.true_eq_false, Bool.false_eq_true, Int.not_lt, Int.not_le] at hc) <;> (try (exfalso; omega)))
  | simp only [List.set_cons_zero, List.set_cons_succ]
  | dsimp only)
local macro_rules | `(tactic| walk_at "D0") => `(tactic| first
  | assumption
  | ((with_reducible refine' Dr.new ?a ?n); (case n => assumption); (case a => walk_at "D0"))
  | ((with_reducible refine' Dr.other ?a ?n); (case n => first | assumption | (refine Ne.symm ?_; assumption)); (case a => walk_at "D0")))
local macro_rules | `(tactic| walk_at "N0") => `(tactic| first
  | assumption
  | (refine Ne.symm ?_; assumption)
  | (refine' Dr.ne ?d ?n; (case n => assumption); (case d => walk_at "D0"))
  | (refine Ne.symm ?_; refine' Dr.ne ?d ?n; (case n => assumption); (case d => walk_at "D0")))
local macro_rules | `(tactic| walk_at "DR") => `(tactic| first
  | assumption
  | ((first
    | ((with_reducible refine' Dr.new ?a ?n); (case n => assumption))
    | ((with_reducible refine' Dr.other ?a ?n); (case n => walk_at "N0"))
    | (refine' Dr.same ?s ?a; (case s => assumption))); (case a => walk_at "DR")))
local macro_rules | `(tactic| walk_at "S") => `(tactic| first
  | ((with_reducible refine' c_is_whole_in ?h ?_); (case h => walk_at "DT"))
  | ((with_reducible refine' c_is_whole_from ?h ?_); (case h => walk_at "DT"))
  | ((with_reducible refine' c_has_parts ?h ?_); (case h => walk_at "DT"))
  | ((with_reducible refine' c__law_between ?h ?_); (case h => walk_at "DT"))
  | ((with_reducible refine' c_is_day ?h ?_); (case h => walk_at "DT"))
  | ((with_reducible refine' c__law_whole ?h ?_); (case h => walk_at "DT"))
  | ((with_reducible refine' c_is_work ?h ?_); (case h => walk_at "DT"))
  | ((with_reducible refine' c__law_is_work ?h ?_); (case h => walk_at "DT"))
  | ((with_reducible refine' c_are_works ?h ?_); (case h => walk_at "DT"); intro _ _)
  | ((with_reducible refine' c__law_are_works ?h ?_); (case h => walk_at "DT"); intro _ _)
  | ((with_reducible refine' c__law_cell_at ?h ?k ?_); (case h => assumption); (case k => walk_at "AR"); intro _)
  | ((with_reducible refine' c__law_state ?h ?k ?_); (case h => assumption); (case k => walk_at "AR"); intro _ _ _ _ _)
  | ((with_reducible refine' c__law_take ?h ?k ?l ?_); (case h => walk_at "DR"); (case k => walk_at "AR"); (case l => walk_at "AR"); intro _ _ _ _ _ _)
  | ((with_reducible refine' c__law_odd ?h ?_); (case h => walk_at "DR"); intro _ _ _ _ _ _ _ _)
  | ((with_reducible refine' c__law_works ?h ?k ?l ?_); (case h => walk_at "DR"); (case k => walk_at "AR"); (case l => walk_at "AR"); intro _ _ _ _ _ _ _ _ _ _ _)
  | ((with_reducible refine' c__law_bounds ?h ?_); (case h => walk_at "DR"); intro _ _ _ _ _ _ _ _ _ _ _ _)
  | ((with_reducible refine' c__law_same ?m ?h ?k ?f ?g ?_); (case m => assumption); (case h => walk_at "DD"); (case k => walk_at "DD"); (case f => walk_at "FT"); (case g => walk_at "FT"))
  | ((with_reducible refine' c__law_right ?h ?f ?g ?_); (case h => walk_at "DT"); (case f => walk_at "FT"); (case g => exact Dr.at (by walk_at "DR")); intro _ _))
local macro_rules | `(tactic| walk_at "FT") => `(tactic| first
  | assumption
  | exact fit_bools
  | (refine' Ft.fit ?f ?a ?b ?c; (case f => assumption); (case a => first | decide | omega); (case b => first | decide | omega); (case c => first | decide | omega)))
section
variable {P : Program} {w : World} {K : PySem.W.Frag} {mg : Str → Option Value} {base : Heap}
theorem sc_is_whole_from : FnScope ["thing", "least"] ["thing", "least"] (defScope (top 4)) := ⟨rfl, rfl, rfl, by decide +kernel, rfl, by decide +kernel, by decide +kernel⟩
theorem ok_is_whole_from (T : Tx K mg)  :
    Fg P w K mg base CX0 1 T.f_is_whole_from T.fd_is_whole_from ["thing", "least"] (sp_is_whole_from K) := by
  refine fg_of0 T.F_is_whole_from sc_is_whole_from (fun vs H Q E h => ?_) (fun cdv A outer s H vs Q E hr hg h => ?_)
  · obtain ⟨p, v, d, lo, rfl, _⟩ := h
    rfl
  · obtain ⟨p, v, d, lo, rfl, hd, q⟩ := h
    refine ⟨_, (pss_one (ps_ret (pe_and (pe_callB (r := rIsi K) call_isi (by rfl) T.m_isinstance (by decide +kernel) (pa_cons (pv 0) (pa_cons (pe_bltn (v := .ty "int") (by rfl) T.m_int (by decide +kernel) rfl) pa_nil))) (pe_and (pe_not (pe_callB (r := rIsi K) call_isi (by rfl) T.m_isinstance (by decide +kernel) (pa_cons (pv 0) (pa_cons (pe_bltn (v := .ty "bool") (by rfl) T.m_bool (by decide +kernel) rfl) pa_nil)))) (pe_one (pe_cmpR op_le (pv 1) (pv 0) (nomark _))))))), ?_⟩
    refine at_start (show L2.start _ [_, _] = [some _, some _] from rfl) ?_
    have hd0 := hd
    cases hd
    all_goals repeat' (walk_at "S")
    all_goals (refine r_conv ?_ q; simp_all [fromD])
theorem sc_has_parts : FnScope ["thing", "least", "most"] ["thing", "least", "most"] (defScope (top 1)) := ⟨rfl, rfl, rfl, by decide +kernel, rfl, by decide +kernel, by decide +kernel⟩
theorem ok_has_parts (T : Tx K mg)  :
    Fg P w K mg base CX0 1 T.f_has_parts T.fd_has_parts ["thing", "least", "most"] (sp_has_parts K) := by
  refine fg_of0 T.F_has_parts sc_has_parts (fun vs H Q E h => ?_) (fun cdv A outer s H vs Q E hr hg h => ?_)
  · obtain ⟨p, v, d, lo, hi, rfl, _⟩ := h
    rfl
  · obtain ⟨p, v, d, lo, hi, rfl, hd, q⟩ := h
    refine ⟨_, (pss_one (ps_ret (pe_and (pe_callB (r := rIsi K) call_isi (by rfl) T.m_isinstance (by decide +kernel) (pa_cons (pv 0) (pa_cons (pe_bltn (v := .ty "tuple") (by rfl) T.m_tuple (by decide +kernel) rfl) pa_nil))) (pe_one (pe_chain op_le op_le (pv 1) (pe_callB (r := rLen K) call_size (by rfl) T.m_len (by decide +kernel) (pa_cons (pv 0) pa_nil)) (pv 2)))))), ?_⟩
    refine at_start (show L2.start _ [_, _, _] = [some _, some _, some _] from rfl) ?_
    have hd0 := hd
    cases hd
    case tup a xs ds n e ha =>
      have lds := ha.length
      repeat' (walk_at "S")
      all_goals (refine r_conv ?_ q; simp only [partsD]; first | (simp_all; done) | (simp_all; omega))
    all_goals repeat' (walk_at "S")
    all_goals (refine r_conv ?_ q; rfl)
theorem sc_is_whole_in : FnScope ["thing", "least", "most"] ["thing", "least", "most"] (defScope (top 5)) := ⟨rfl, rfl, rfl, by decide +kernel, rfl, by decide +kernel, by decide +kernel⟩
theorem ok_is_whole_in (T : Tx K mg) (G_is_whole_from : Fg P w K mg base CX0 1 T.f_is_whole_from T.fd_is_whole_from ["thing", "least"] (sp_is_whole_from K)) :
    Fg P w K mg base CX0 2 T.f_is_whole_in T.fd_is_whole_in ["thing", "least", "most"] (sp_is_whole_in K) := by
  refine fg_of0 T.F_is_whole_in sc_is_whole_in (fun vs H Q E h => ?_) (fun cdv A outer s H vs Q E hr hg h => ?_)
  · obtain ⟨p, v, d, lo, hi, rfl, _⟩ := h
    rfl
  · obtain ⟨p, v, d, lo, hi, rfl, hd, q⟩ := h
    refine ⟨_, (pss_one (ps_ret (pe_and (pg_call G_is_whole_from (hr.mono (by decide)) hg rfl T.m_is_whole_from T.F_is_whole_from.kp T.b_is_whole_from .nil pass0 (pa_cons (pv 0) (pa_cons (pv 1) pa_nil))) (pe_one (pe_cmpR op_le (pv 0) (pv 2) (nomark _)))))), ?_⟩
    refine at_start (show L2.start _ [_, _, _] = [some _, some _, some _] from rfl) ?_
    have hd0 := hd
    cases hd
    all_goals repeat' (walk_at "S")
    all_goals (refine r_conv ?_ q; first | (simp_all [betweenD, fromD]; done) | (simp_all [betweenD, fromD]; omega))
theorem sc__law_whole : FnScope ["_law_thing"] ["_law_thing"] (defScope (top 19)) := ⟨rfl, rfl, rfl, by decide +kernel, rfl, by decide +kernel, by decide +kernel⟩
theorem ok__law_whole (T : Tx K mg)  :
    Fg P w K mg base CX0 1 T.f__law_whole T.fd__law_whole ["_law_thing"] (sp__law_whole K) := by
  refine fg_of0 T.F__law_whole sc__law_whole (fun vs H Q E h => ?_) (fun cdv A outer s H vs Q E hr hg h => ?_)
  · obtain ⟨p, v, d, rfl, _⟩ := h
    rfl
  · obtain ⟨p, v, d, rfl, hd, q⟩ := h
    refine ⟨_, (pss_one (ps_ret (pe_and (pe_callB (r := rIsi K) call_isi (by rfl) T.m_isinstance (by decide +kernel) (pa_cons (pv 0) (pa_cons (pe_bltn (v := .ty "int") (by rfl) T.m_int (by decide +kernel) rfl) pa_nil))) (pe_one (pe_not (pe_callB (r := rIsi K) call_isi (by rfl) T.m_isinstance (by decide +kernel) (pa_cons (pv 0) (pa_cons (pe_bltn (v := .ty "bool") (by rfl) T.m_bool (by decide +kernel) rfl) pa_nil)))))))), ?_⟩
    refine at_start (show L2.start _ [_] = [some _] from rfl) ?_
    have hd0 := hd
    cases hd
    all_goals repeat' (walk_at "S")
    all_goals (refine r_conv ?_ q; simp_all [wholeD])
theorem sc__law_between : FnScope ["_law_thing", "_law_low", "_law_high"] ["_law_thing", "_law_low", "_law_high"] (defScope (top 20)) := ⟨rfl, rfl, rfl, by decide +kernel, rfl, by decide +kernel, by decide +kernel⟩
theorem ok__law_between (T : Tx K mg) (G__law_whole : Fg P w K mg base CX0 1 T.f__law_whole T.fd__law_whole ["_law_thing"] (sp__law_whole K)) :
    Fg P w K mg base CX0 2 T.f__law_between T.fd__law_between ["_law_thing", "_law_low", "_law_high"] (sp__law_between K) := by
  refine fg_of0 T.F__law_between sc__law_between (fun vs H Q E h => ?_) (fun cdv A outer s H vs Q E hr hg h => ?_)
  · obtain ⟨p, v, d, lo, hi, rfl, _⟩ := h
    rfl
  · obtain ⟨p, v, d, lo, hi, rfl, hd, q⟩ := h
    refine ⟨_, (pss_one (ps_ret (pe_and (pg_call G__law_whole (hr.mono (by decide)) hg rfl T.m__law_whole T.F__law_whole.kp T.b__law_whole .nil pass0 (pa_cons (pv 0) pa_nil)) (pe_one (pe_chain op_le op_le (pv 1) (pv 0) (pv 2)))))), ?_⟩
    refine at_start (show L2.start _ [_, _, _] = [some _, some _, some _] from rfl) ?_
    have hd0 := hd
    cases hd
    all_goals repeat' (walk_at "S")
    all_goals (refine r_conv ?_ q; first | (simp_all [betweenD]; done) | (simp_all [betweenD]; omega))
theorem sc_is_day : FnScope ["thing"] ["thing"] (defScope (top 10)) := ⟨rfl, rfl, rfl, by decide +kernel, rfl, by decide +kernel, by decide +kernel⟩
theorem ok_is_day (T : Tx K mg) (G_is_whole_in : Fg P w K mg base CX0 2 T.f_is_whole_in T.fd_is_whole_in ["thing", "least", "most"] (sp_is_whole_in K)) :
    Fg P w K mg base CX0 3 T.f_is_day T.fd_is_day ["thing"] (sp_is_day K) := by
  refine fg_of0 T.F_is_day sc_is_day (fun vs H Q E h => ?_) (fun cdv A outer s H vs Q E hr hg h => ?_)
  · obtain ⟨p, v, d, rfl, _⟩ := h
    rfl
  · obtain ⟨p, v, d, rfl, hd, q⟩ := h
    refine ⟨_, (pss_one (ps_ret (pg_call G_is_whole_in (hr.mono (by decide)) hg rfl T.m_is_whole_in T.F_is_whole_in.kp T.b_is_whole_in .nil pass0 (pa_cons (pv 0) (pa_cons pe_int (pa_cons (pe_gint rfl T.m_LAST_DAY) pa_nil)))))), ?_⟩
    refine at_start (show L2.start _ [_] = [some _] from rfl) ?_
    repeat' (walk_at "S")
    exact q
theorem workD_len {ds : List PyData} (h : ds.length ≠ 3) : workD (.tuple ds) = false := by
  match ds, h with
  | [], _ => rfl
  | [_], _ => rfl
  | [_, _], _ => rfl
  | [_, _, _], h => exact absurd rfl h
  | _ :: _ :: _ :: _ :: _, _ => rfl
theorem three {xs : List V} {ds : List PyData} {H : Hp} {p : Addr} (h : DtAll H p xs ds) (e : xs.length = 3) :
    ∃ x y z a b c, xs = [x, y, z] ∧ ds = [a, b, c] ∧ Dt H p x a ∧ Dt H p y b ∧ Dt H p z c := by
  match h, e with
  | .cons h1 (.cons h2 (.cons h3 .nil)), _ => exact ⟨_, _, _, _, _, _, rfl, rfl, h1, h2, h3⟩
theorem sc_is_work : FnScope ["thing", "day", "most", "extra"] ["thing"] (defScope (top 11)) := ⟨rfl, rfl, rfl, by decide +kernel, rfl, by decide +kernel, by decide +kernel⟩
theorem ok_is_work (T : Tx K mg) (G_has_parts : Fg P w K mg base CX0 1 T.f_has_parts T.fd_has_parts ["thing", "least", "most"] (sp_has_parts K)) (G_is_day : Fg P w K mg base CX0 3 T.f_is_day T.fd_is_day ["thing"] (sp_is_day K)) (G_is_whole_in : Fg P w K mg base CX0 2 T.f_is_whole_in T.fd_is_whole_in ["thing", "least", "most"] (sp_is_whole_in K)) :
    Fg P w K mg base CX0 4 T.f_is_work T.fd_is_work ["thing"] (sp_is_work K) := by
  refine fg_of0 T.F_is_work sc_is_work (fun vs H Q E h => ?_) (fun cdv A outer s H vs Q E hr hg h => ?_)
  · obtain ⟨p, v, d, rfl, _⟩ := h
    rfl
  · obtain ⟨p, v, d, rfl, hd, q⟩ := h
    refine ⟨_, (pss_cons (ps_if (pt_not (pt_val (pg_call G_has_parts (hr.mono (by decide)) hg rfl T.m_has_parts T.F_has_parts.kp T.b_has_parts .nil pass0 (pa_cons (pv 0) (pa_cons pe_int (pa_cons pe_int pa_nil))))))
    (pss_one (ps_ret pe_bl))
    pss_nil)
    (pss_cons (ps_asg (pv 0) (pg_tup rfl (pgs_cons (pg_name (i := 1) sc_is_work.nd rfl (by first | exact Or.inl rfl | exact Or.inr rfl)) (pgs_cons (pg_name (i := 2) sc_is_work.nd rfl (by first | exact Or.inl rfl | exact Or.inr rfl)) (pgs_cons (pg_name (i := 3) sc_is_work.nd rfl (by first | exact Or.inl rfl | exact Or.inr rfl)) pgs_nil)))))
    (pss_one (ps_ret (pe_and (pg_call G_is_day (hr.mono (by decide)) hg rfl T.m_is_day T.F_is_day.kp T.b_is_day .nil pass0 (pa_cons (pv 1) pa_nil)) (pe_and (pg_call G_is_whole_in (hr.mono (by decide)) hg rfl T.m_is_whole_in T.F_is_whole_in.kp T.b_is_whole_in .nil pass0 (pa_cons (pv 2) (pa_cons pe_int (pa_cons (pe_gint rfl T.m_MOST_POINTS) pa_nil)))) (pe_one (pe_callB (r := rIsi K) call_isi (by rfl) T.m_isinstance (by decide +kernel) (pa_cons (pv 3) (pa_cons (pe_bltn (v := .ty "bool") (by rfl) T.m_bool (by decide +kernel) rfl) pa_nil)))))))))), ?_⟩
    refine at_start (show L2.start _ [_] = [some _, none, none, none] from rfl) ?_
    have hd0 := hd
    cases hd
    case tup a xs ds n e ha =>
      by_cases hl : xs.length = 3
      · obtain ⟨x, y, z, d1, d2, d3, rfl, rfl, h1, h2, h3⟩ := three ha hl
        repeat' (walk_at "S")
        all_goals first
          | (refine r_conv ?_ q; simp_all [workD]; done)
          | (exfalso; simp_all [partsD]; done)
      · have hp : partsD 3 3 (.tuple ds) = false := by
          have := ha.length
          simp only [partsD, decide_eq_false_iff_not]
          omega
        have hw := workD_len (ds := ds) (by rw [← ha.length]; exact hl)
        repeat' (walk_at "S")
        all_goals first
          | (refine r_conv ?_ q; simp_all; done)
          | (exfalso; simp_all; done)
    all_goals repeat' (walk_at "S")
    all_goals (refine r_conv ?_ q; simp_all [workD])
theorem sc__law_is_work : FnScope ["_law_thing"] ["_law_thing"] (defScope (top 22)) := ⟨rfl, rfl, rfl, by decide +kernel, rfl, by decide +kernel, by decide +kernel⟩
theorem ok__law_is_work (T : Tx K mg) (G__law_between : Fg P w K mg base CX0 2 T.f__law_between T.fd__law_between ["_law_thing", "_law_low", "_law_high"] (sp__law_between K)) :
    Fg P w K mg base CX0 3 T.f__law_is_work T.fd__law_is_work ["_law_thing"] (sp__law_is_work K) := by
  refine fg_of0 T.F__law_is_work sc__law_is_work (fun vs H Q E h => ?_) (fun cdv A outer s H vs Q E hr hg h => ?_)
  · obtain ⟨p, v, d, rfl, _⟩ := h
    rfl
  · obtain ⟨p, v, d, rfl, hd, q⟩ := h
    refine ⟨_, (pss_cons (ps_if (PW.pt (pw_or (pt_not (pt_val (pe_callB (r := rIsi K) call_isi (by rfl) T.m_isinstance (by decide +kernel) (pa_cons (pv 0) (pa_cons (pe_bltn (v := .ty "tuple") (by rfl) T.m_tuple (by decide +kernel) rfl) pa_nil))))) (pw_or (pt_cmpR (r := rUnlike K) (op_unlike hr.units) (pe_callB (r := rLen K) call_size (by rfl) T.m_len (by decide +kernel) (pa_cons (pv 0) pa_nil)) pe_int (nomark _)) (pw_or1 (pt_not (pt_val (pg_call G__law_between (hr.mono (by decide)) hg rfl T.m__law_between T.F__law_between.kp T.b__law_between .nil pass0 (pa_cons (pe_ix (r := rIx K) ix_seq (pv 0) pe_int (fun _ _ => rfl)) (pa_cons pe_int (pa_cons pe_int pa_nil))))))))))
    (pss_one (ps_ret pe_bl))
    pss_nil)
    (pss_one (ps_ret (pe_and (pg_call G__law_between (hr.mono (by decide)) hg rfl T.m__law_between T.F__law_between.kp T.b__law_between .nil pass0 (pa_cons (pe_ix (r := rIx K) ix_seq (pv 0) pe_int (fun _ _ => rfl)) (pa_cons pe_int (pa_cons pe_int pa_nil)))) (pe_one (pe_callB (r := rIsi K) call_isi (by rfl) T.m_isinstance (by decide +kernel) (pa_cons (pe_ix (r := rIx K) ix_seq (pv 0) pe_int (fun _ _ => rfl)) (pa_cons (pe_bltn (v := .ty "bool") (by rfl) T.m_bool (by decide +kernel) rfl) pa_nil)))))))), ?_⟩
    refine at_start (show L2.start _ [_] = [some _] from rfl) ?_
    have hd0 := hd
    cases hd
    case tup a xs ds n e ha =>
      by_cases hl : xs.length = 3
      · obtain ⟨x, y, z, d1, d2, d3, rfl, rfl, h1, h2, h3⟩ := three ha hl
        repeat' (walk_at "S")
        all_goals (refine r_conv ?_ q; simp_all [workD])
      · have hw := workD_len (ds := ds) (by rw [← ha.length]; exact hl)
        repeat' (walk_at "S")
        all_goals (refine r_conv ?_ q; simp_all)
    all_goals repeat' (walk_at "S")
    all_goals (refine r_conv ?_ q; simp_all [workD])
end
local macro_rules | `(tactic| walk_at "DD") => `(tactic| (refine' Dt.thereU ?n ?f ?h ?c; (case n => walk_at "NE"); (case f => walk_at "FR"); (case h => walk_at "G"); (case c => first
    | ((with_reducible refine' DtC.tup ?a); (case a => walk_at "DA"))
    | ((with_reducible refine' DtC.lst ?a); (case a => walk_at "DA"))
    | ((with_reducible refine' DtC.dct ?a); (case a => simp)))))
section
variable {P : Program} {w : World} {K : PySem.W.Frag} {mg : Str → Option Value} {base : Heap}
theorem sc__law_cell_at : FnScope ["_law_script", "_law_k"] ["_law_script", "_law_k"] (defScope (top 14)) := ⟨rfl, rfl, rfl, by decide +kernel, rfl, by decide +kernel, by decide +kernel⟩
theorem ok__law_cell_at (T : Tx K mg)  :
    Fg P w K mg base CX0 1 T.f__law_cell_at T.fd__law_cell_at ["_law_script", "_law_k"] (sp__law_cell_at K) := by
  refine fg_of0 T.F__law_cell_at sc__law_cell_at (fun vs H Q E h => ?_) (fun cdv A outer s H vs Q E hr hg h => ?_)
  · obtain ⟨a, ns, k, rfl, _⟩ := h
    rfl
  · obtain ⟨a, ns, k, rfl, hs, h0, q⟩ := h
    refine ⟨_, (pss_cons (ps_if (pt_cmpR op_lt (pv 1) (pe_callB (r := rLen K) call_size (by rfl) T.m_len (by decide +kernel) (pa_cons (pv 0) pa_nil)) (nomark _))
    (pss_one (ps_ret (pe_ix (r := rIx K) ix_seq (pv 0) (pv 1) (fun _ _ => rfl))))
    pss_nil)
    (pss_one (ps_ret pe_int))), ?_⟩
    refine at_start (show L2.start _ [_, _] = [some _, some _] from rfl) ?_
    repeat' (walk_at "S")
    · exact r_pickK hs h0 (by assumption) fun z _ => q z
    · exact q _
theorem sc__law_state : FnScope ["_law_script", "_law_k", "_law_cell"] ["_law_script", "_law_k"] (defScope (top 15)) := ⟨rfl, rfl, rfl, by decide +kernel, rfl, by decide +kernel, by decide +kernel⟩
theorem ok__law_state (T : Tx K mg) (G__law_cell_at : Fg P w K mg base CX0 1 T.f__law_cell_at T.fd__law_cell_at ["_law_script", "_law_k"] (sp__law_cell_at K)) :
    Fg P w K mg base CX0 2 T.f__law_state T.fd__law_state ["_law_script", "_law_k"] (sp__law_state K) := by
  refine fg_of0 T.F__law_state sc__law_state (fun vs H Q E h => ?_) (fun cdv A outer s H vs Q E hr hg h => ?_)
  · obtain ⟨a, ns, k, rfl, _⟩ := h
    rfl
  · obtain ⟨a, ns, k, rfl, hs, h0, q⟩ := h
    refine ⟨_, (pss_cons (ps_set (i := 2) sc__law_state.nd rfl (by first | exact Or.inl rfl | exact Or.inr rfl) (pg_call G__law_cell_at (hr.mono (by decide)) hg rfl T.m__law_cell_at T.F__law_cell_at.kp T.b__law_cell_at .nil pass0 (pa_cons (pv 0) (pa_cons (pv 1) pa_nil))))
    (pss_cons (ps_if (pt_cmpR op_ge (pv 2) (pe_op op_power pe_int pe_int) (nomark _))
    (pss_one (ps_ret (pe_lst (pa_cons (pe_op op_sub (pv 2) (pe_op op_power pe_int pe_int)) (pa_cons (pe_op (r := rPlus K) op_plus (pe_op op_rest (pv 2) pe_int) pe_int) pa_nil)))))
    pss_nil)
    (pss_one (ps_ret (pe_lst (pa_cons pe_int (pa_cons (pe_op (r := rPlus K) op_plus (pe_op op_rest (pv 2) pe_int) pe_int) pa_nil))))))), ?_⟩
    refine at_start (show L2.start _ [_, _] = [some _, some _, none] from rfl) ?_
    repeat' (walk_at "S")
    · rename_i i hc p np
      refine q p _ np (Same.newF (Same.refl H) np) ⟨_, _, upd_same, ?_, ?_, ?_⟩
      · have : (10 : Int) ^ (Int.toNat 18) = 1000000000000000000 := by decide
        omega
      · omega
      · omega
    · rename_i i hc p np
      exact q p _ np (Same.newF (Same.refl H) np) ⟨_, _, upd_same, by omega, by omega, by omega⟩
theorem sc__law_take : FnScope ["_law_state_here", "_law_many", "_law_found", "_law_stirred"] ["_law_state_here", "_law_many"] (defScope (top 16)) := ⟨rfl, rfl, rfl, by decide +kernel, rfl, by decide +kernel, by decide +kernel⟩
theorem ok__law_take (T : Tx K mg)  :
    Fg P w K mg base CX0 1 T.f__law_take T.fd__law_take ["_law_state_here", "_law_many"] (sp__law_take K) := by
  refine fg_of0 T.F__law_take sc__law_take (fun vs H Q E h => ?_) (fun cdv A outer s H vs Q E hr hg h => ?_)
  · obtain ⟨p, n, rfl, _⟩ := h
    rfl
  · obtain ⟨p, n, rfl, ⟨a, b, hp, ha, hb, hc⟩, n0, n1, q⟩ := h
    refine ⟨_, (pss_cons (ps_if (pt_cmpR op_gt (pe_ix (r := rIx K) ix_seq (pv 0) pe_int (fun _ _ => rfl)) pe_int (nomark _))
    (pss_cons (ps_set (i := 2) sc__law_take.nd rfl (by first | exact Or.inl rfl | exact Or.inr rfl) (pe_op op_rest (pe_ix (r := rIx K) ix_seq (pv 0) pe_int (fun _ _ => rfl)) (pv 1)))
    (pss_cons (ps_asg (pe_op op_div (pe_ix (r := rIx K) ix_seq (pv 0) pe_int (fun _ _ => rfl)) (pv 1)) (pg_sub (pv 0) pe_int set_list))
    (pss_one (ps_ret (pv 2)))))
    pss_nil)
    (pss_cons (ps_asg (pe_op op_rest (pe_op (r := rPlus K) op_plus (pe_op (r := rTimes K) op_times (pe_ix (r := rIx K) ix_seq (pv 0) pe_int (fun _ _ => rfl)) pe_int) pe_int) pe_int) (pg_sub (pv 0) pe_int set_list))
    (pss_cons (ps_set (i := 3) sc__law_take.nd rfl (by first | exact Or.inl rfl | exact Or.inr rfl) (pe_op op_rest (pe_op (r := rPlus K) op_plus (pe_op (r := rPlus K) op_plus (pe_op (r := rTimes K) op_times (pe_ix (r := rIx K) ix_seq (pv 0) pe_int (fun _ _ => rfl)) (pe_ix (r := rIx K) ix_seq (pv 0) pe_int (fun _ _ => rfl))) (pe_op (r := rTimes K) op_times pe_int (pe_ix (r := rIx K) ix_seq (pv 0) pe_int (fun _ _ => rfl)))) pe_int) pe_int))
    (pss_cons (ps_set (i := 3) sc__law_take.nd rfl (by first | exact Or.inl rfl | exact Or.inr rfl) (pe_op op_rest (pe_op (r := rPlus K) op_plus (pe_op (r := rPlus K) op_plus (pe_op (r := rTimes K) op_times (pv 3) (pv 3)) (pe_op (r := rTimes K) op_times pe_int (pv 3))) pe_int) pe_int))
    (pss_one (ps_ret (pe_op op_rest (pe_op op_div (pv 3) pe_int) (pv 1)))))))), ?_⟩
    refine at_start (show L2.start _ [_, _] = [some _, some _, none, none] from rfl) ?_
    repeat' (walk_at "S")
    · exact q _ _ (Int.emod_nonneg _ (by omega)) (Int.emod_lt_of_pos _ n0) (Keep.set) ⟨_, _, upd_same, Int.ediv_nonneg (by omega) (by omega), hb, hc⟩
    · exact q _ _ (Int.emod_nonneg _ (by omega)) (Int.emod_lt_of_pos _ n0) (Keep.set) ⟨_, _, upd_same, ha, by omega, by omega⟩
theorem sc__law_odd : FnScope ["_law_state_here", "_law_some"] ["_law_state_here"] (defScope (top 18)) := ⟨rfl, rfl, rfl, by decide +kernel, rfl, by decide +kernel, by decide +kernel⟩
theorem ok__law_odd (T : Tx K mg) (G__law_take : Fg P w K mg base CX0 1 T.f__law_take T.fd__law_take ["_law_state_here", "_law_many"] (sp__law_take K)) :
    Fg P w K mg base CX0 2 T.f__law_odd T.fd__law_odd ["_law_state_here"] (sp__law_odd K) := by
  refine fg_of0 T.F__law_odd sc__law_odd (fun vs H Q E h => ?_) (fun cdv A outer s H vs Q E hr hg h => ?_)
  · obtain ⟨p, rfl, _⟩ := h
    rfl
  · obtain ⟨p, rfl, hp, q⟩ := h
    refine ⟨_, (pss_cons (ps_set (i := 1) sc__law_odd.nd rfl (by first | exact Or.inl rfl | exact Or.inr rfl) (pe_lst (pa_cons pe_non (pa_cons pe_bl (pa_cons pe_bl (pa_cons pe_int (pa_cons pe_int (pa_cons (pe_un un_neg pe_int) (pa_cons (pe_op op_power pe_int pe_int) (pa_cons pe_str (pa_cons pe_str (pa_cons pe_str (pa_cons pe_str (pa_cons (pe_tup pa_nil) (pa_cons (pe_lst pa_nil) (pa_cons pe_dnewK (pa_cons (pe_tup (pa_cons pe_int pa_nil)) (pa_cons (pe_lst (pa_cons pe_int pa_nil)) (pa_cons (pe_tup (pa_cons pe_non pa_nil)) (pa_cons (pe_tup (pa_cons (pe_tup pa_nil) pa_nil)) pa_nil))))))))))))))))))))
    (pss_one (ps_ret (pe_ix (r := rIx K) ix_seq (pe_op (r := rPlus K) op_plus (pv 1) (pe_lst (pa_cons pe_str (pa_cons (pe_disp (pps_cons pe_int pe_int pps_nil) (by rfl) (by rfl) (fun z => by cases z) (by decide)) pa_nil)))) (pg_call G__law_take (hr.mono (by decide)) hg rfl T.m__law_take T.F__law_take.kp T.b__law_take .nil pass0 (pa_cons (pv 0) (pa_cons pe_int pa_nil))) (fun _ _ => rfl))))), ?_⟩
    refine at_start (show L2.start _ [_] = [some _, none] from rfl) ?_
    repeat' (walk_at "S")
    rename_i r H2 r0 r1 kp dr
    refine' r_pickL ?h r0 ?l ?q
    case h => walk_at "G"
    case l => walk_at "AR"
    case q =>
      intro v hv
      simp only [List.cons_append, List.nil_append, List.mem_cons, List.not_mem_nil, or_false] at hv
      rcases hv with h | h | h | h | h | h | h | h | h | h | h | h | h | h | h | h | h | h | h | h <;> rw [h]
      all_goals (refine' q _ _ _ ?a dr ?b ?c; (case a => walk_at "KP"); (case b => walk_at "DD"); (case c => exact ⟨by decide +kernel, by decide +kernel, by decide +kernel⟩))
end
theorem ft_work {a b : Int} {c : Bool} (ha0 : a.natAbs ≤ 2000) (hb0 : b.natAbs ≤ 2000) : FtAll (10 ^ 30) 2 4 [.tuple [.int a, .int b, .bool c]] := by
  have ha : a.natAbs ≤ 10 ^ 30 := Nat.le_trans ha0 (by decide)
  have hb : b.natAbs ≤ 10 ^ 30 := Nat.le_trans hb0 (by decide)
  have h3 : FtAll (10 ^ 30) 0 (0 + 1 + (0 + 1 + (0 + 1 + 0))) [.int a, .int b, .bool c] := FtAll.cons (Ft.int ha) (FtAll.cons (Ft.int hb) (FtAll.cons Ft.bl FtAll.nil))
  have h1 : FtAll (10 ^ 30) 1 (0 + 1 + (0 + 1 + (0 + 1 + 0)) + 1 + 0) [.tuple [.int a, .int b, .bool c]] := FtAll.cons h3.tup FtAll.nil
  exact h1.mono (Nat.le_refl _) (by decide) (by decide)
section
variable {P : Program} {w : World} {K : PySem.W.Frag} {mg : Str → Option Value} {base : Heap}
theorem sc__law_works : FnScope ["_law_state_here", "_law_most", "_law_found", "_law_date", "_law_wide", "_law_turn", "_law_got"] ["_law_state_here", "_law_most"] (defScope (top 17)) := ⟨rfl, rfl, rfl, by decide +kernel, rfl, by decide +kernel, by decide +kernel⟩
theorem ok__law_works (T : Tx K mg) (G__law_take : Fg P w K mg base CX0 1 T.f__law_take T.fd__law_take ["_law_state_here", "_law_many"] (sp__law_take K)) :
    Fg P w K mg base CX0 2 T.f__law_works T.fd__law_works ["_law_state_here", "_law_most"] (sp__law_works K) := by
  refine fg_of0 T.F__law_works sc__law_works (fun vs H Q E h => ?_) (fun cdv A outer s H vs Q E hr hg h => ?_)
  · obtain ⟨p, n, rfl, _⟩ := h
    rfl
  · obtain ⟨p, n, rfl, hp, n0, n1, q⟩ := h
    refine ⟨_, (pss_cons (ps_par3 (i := 2) (j := 3) (l := 4) (by rfl) sc__law_works.nd rfl rfl rfl (by decide) (by decide) (by decide) rfl rfl rfl (pa_cons (pe_lst pa_nil) (pa_cons (pg_call G__law_take (hr.mono (by decide)) hg rfl T.m__law_take T.F__law_take.kp T.b__law_take .nil pass0 (pa_cons (pv 0) (pa_cons pe_int pa_nil))) (pa_cons (pe_ix (r := rIx K) ix_seq (pe_lst (pa_cons pe_int (pa_cons pe_int (pa_cons pe_int pa_nil)))) (pg_call G__law_take (hr.mono (by decide)) hg rfl T.m__law_take T.F__law_take.kp T.b__law_take .nil pass0 (pa_cons (pv 0) (pa_cons pe_int pa_nil))) (fun _ _ => rfl)) pa_nil))) (by rfl))
    (pss_cons (ps_for PassesOwn.never rfl (pi_range1 rfl T.m_range (pa_cons (pe_op (r := rPlus K) op_plus pe_int (pg_call G__law_take (hr.mono (by decide)) hg rfl T.m__law_take T.F__law_take.kp T.b__law_take .nil pass0 (pa_cons (pv 0) (pa_cons (pv 1) pa_nil)))) pa_nil)) (pg_name (i := 5) sc__law_works.nd rfl (by first | exact Or.inl rfl | exact Or.inr rfl))
    (pss_cons (ps_set (i := 6) sc__law_works.nd rfl (by first | exact Or.inl rfl | exact Or.inr rfl) (pe_ix (r := rIx K) ix_seq (pe_lst (pa_cons pe_int (pa_cons pe_int (pa_cons (pe_op (r := rPlus K) op_plus pe_int (pg_call G__law_take (hr.mono (by decide)) hg rfl T.m__law_take T.F__law_take.kp T.b__law_take .nil pass0 (pa_cons (pv 0) (pa_cons pe_int pa_nil)))) (pa_cons (pe_op (r := rPlus K) op_plus pe_int (pg_call G__law_take (hr.mono (by decide)) hg rfl T.m__law_take T.F__law_take.kp T.b__law_take .nil pass0 (pa_cons (pv 0) (pa_cons pe_int pa_nil)))) pa_nil))))) (pg_call G__law_take (hr.mono (by decide)) hg rfl T.m__law_take T.F__law_take.kp T.b__law_take .nil pass0 (pa_cons (pv 0) (pa_cons pe_int pa_nil))) (fun _ _ => rfl)))
    (pss_cons (ps_expr (pe_bm PySem.F.plainAttrs_list PySem.F.slot_list_append PySem.F.type_list_append mt_append (pv 2) (pa_cons (pe_tup (pa_cons (pv 3) (pa_cons (pv 6) (pa_cons (pe_cmpR (r := rSame K) (op_same hr.units) (pg_call G__law_take (hr.mono (by decide)) hg rfl T.m__law_take T.F__law_take.kp T.b__law_take .nil pass0 (pa_cons (pv 0) (pa_cons pe_int pa_nil))) pe_int (nomark _)) pa_nil)))) pa_nil)))
    (pss_one (ps_set (i := 3) sc__law_works.nd rfl (by first | exact Or.inl rfl | exact Or.inr rfl) (pe_callB (call_least rfl) (by rfl) T.m_min (by decide +kernel) (pa_cons pe_int (pa_cons (pe_op (r := rPlus K) op_plus (pv 3) (pg_call G__law_take (hr.mono (by decide)) hg rfl T.m__law_take T.F__law_take.kp T.b__law_take .nil pass0 (pa_cons (pv 0) (pa_cons (pv 4) pa_nil)))) pa_nil))))))))
    (pss_one (ps_ret (pe_callTy (r := rTupOf K) call_tupled (by rfl) T.m_tuple (by decide +kernel) (pa_cons (pv 2) pa_nil)))))), ?_⟩
    refine at_start (show L2.start _ [_, _] = [some _, some _, none, none, none, none, none] from rfl) ?_
    repeat' (walk_at "S")
    rename_i f nf r1 H1 a1 a2 k1 d1 m nm r2 H2 b1 b2 k2 d2 z hz r3 H3 c1 c2 k3 d3
    have nfp : f ≠ p := by walk_at "NE"
    refine for_rng (fun i σ H' => ∃ (dt : Int) (tv gv : Option V) (xs : List V) (ds : List PyData) (R : Hp), σ = [some (.ref p), some (.int n), some (.ref f), some (.int dt), some (.int z), tv, gv] ∧ 0 ≤ dt ∧ dt ≤ 1000 ∧
      Keep p H H' ∧ Dr p H' ∧ H' f = some (.lst xs) ∧ xs.length = i ∧ Reg R H' p f ∧ DtAll R p xs ds ∧ FtAll (10 ^ 30) 2 (4 * i) ds)
      ⟨r1, none, none, [], [], _, rfl, a1, by omega, by walk_at "KP", d3, by walk_at "G", rfl, Reg.nil, .nil, .nil⟩ ?_ ?_
    · rintro i σ H' hi ⟨dt, tv, gv, xs, ds, R, rfl, h0, h1, kp, dr, hf, hlen, rg, da, ft⟩
      repeat' (walk_at "S")
      rename_i rA HA eA eB eC eD rB HB fA fB fC fD l5 nl5 rC HC gA gB gC gD zz hzz rD HD iA iB iC iD t nt rE HE jA jB jC jD
      have ntp : t ≠ p := by walk_at "NE"
      have ntf : t ≠ f := by walk_at "NE"
      have rg' : Reg R HE p f := by walk_at "RG"
      obtain ⟨rg2, sm2⟩ := rg'.add (t := t) (o := .tup [.int dt, .int zz, .bl (decide (rD = 0))]) (by walk_at "G") ntp ntf
      refine ⟨_, _, _, xs ++ [.ref t], ds ++ [.tuple [.int dt, .int zz, .bool (decide (rD = 0))]], _, rfl, ?_, ?_, by walk_at "KP", by assumption, by walk_at "G", ?_, rg2, ?_, ?_⟩
      · split <;> omega
      · split <;> omega
      · rw [List.length_append, hlen]; rfl
      · exact DtAll.append (da.keep (Keep.of sm2)) (.cons (Dt.there ntp upd_same (.tup (.cons (.int _) (.cons (.int _) (.cons (.bl _) .nil))))) .nil)
      · exact (FtAll.append ft (ft_work (by omega) (by omega))).mono (Nat.le_refl _) (Nat.le_refl 2) (by omega)
    · rintro σ H' ⟨dt, tv, gv, xs, ds, R, rfl, h0, h1, kp, dr, hf, hlen, rg, da, ft⟩
      repeat' (walk_at "S")
      obtain ⟨x, xs', rfl⟩ : ∃ x xs', xs = x :: xs' := by
        cases xs with
        | nil => simp only [List.length_nil] at hlen; omega
        | cons x xs' => exact ⟨x, xs', rfl⟩
      refine q _ x xs' ds _ (by walk_at "KP") (by walk_at "DR") (by walk_at "NE") (by walk_at "G") (da.keep (Keep.of (Same.newF rg.sub (by assumption)))) (ft.mono (Nat.le_refl _) (by decide) (by omega))
end
theorem work_at {H : Hp} {p : Addr} {x : V} {d : PyData} (h : Dt H p x d) (hw : workD d = true) : ∃ t y z j, x = V.ref t ∧ H t = some (.tup [V.int j, y, z]) ∧ dayD d = j := by
  cases h with
  | tup n e ha =>
    rename_i a xs ds
    match ds, ha, hw with
    | [.int j, b, c], .cons (.int _) (.cons (v := y) h2 (.cons (v := z) h3 .nil)), _ => exact ⟨a, y, z, j, rfl, e, rfl⟩
    | [.none, b, c], _, hw => cases hw
    | [.bool _, b, c], _, hw => cases hw
    | [.str _, b, c], _, hw => cases hw
    | [.list _, b, c], _, hw => cases hw
    | [.tuple _, b, c], _, hw => cases hw
    | [.dict _, b, c], _, hw => cases hw
    | [], _, hw => cases hw
    | [_], _, hw => cases hw
    | [_, _], _, hw => cases hw
    | _ :: _ :: _ :: _ :: _, _, hw => cases hw
  | _ => cases hw
theorem sorted_same {ns ms : List Int} (perm : ms.Perm ns) (pw : ms.Pairwise (· ≤ ·)) : decide (ns.Pairwise (· ≤ ·)) = decide (ns = ms) := by
  by_cases h : ns.Pairwise (· ≤ ·)
  · have e : ns = ms := PySem.W.ksm_same perm.symm h pw
    rw [decide_eq_true h, decide_eq_true e]
  · rw [decide_eq_false h, decide_eq_false]
    intro e
    rw [e] at h
    exact h pw
section
variable {P : Program} {w : World} {K : PySem.W.Frag} {mg : Str → Option Value} {base : Heap}
theorem sc__law_same : FnScope ["_law_found", "_law_due"] ["_law_found", "_law_due"] (defScope (top 24)) := ⟨rfl, rfl, rfl, by decide +kernel, rfl, by decide +kernel, by decide +kernel⟩
theorem ok__law_same (T : Tx K mg)  :
    Fg P w K mg base CX0 1 T.f__law_same T.fd__law_same ["_law_found", "_law_due"] (sp__law_same K) := by
  refine fg_of0 T.F__law_same sc__law_same (fun vs H Q E h => ?_) (fun cdv A outer s H vs Q E hr hg h => ?_)
  · obtain ⟨p, v, u, d, e, rfl, _⟩ := h
    rfl
  · obtain ⟨p, v, u, d, e, rfl, hd, he, f, g, q⟩ := h
    refine ⟨_, (pss_one (ps_ret (pe_cmpR (r := rSame K) (op_same hr.units) (pe_callB (call_repr hg hr.units p) (by rfl) T.m_repr (by decide +kernel) (pa_cons (pv 0) pa_nil)) (pe_callB (call_repr hg hr.units p) (by rfl) T.m_repr (by decide +kernel) (pa_cons (pv 1) pa_nil)) (nomark _)))), ?_⟩
    refine at_start (show L2.start _ [_, _] = [some _, some _] from rfl) ?_
    repeat' (walk_at "S")
    exact q
theorem sc__law_right : FnScope ["_law_thing", "_law_kept", "_law_due"] ["_law_thing"] (defScope (top 25)) := ⟨rfl, rfl, rfl, by decide +kernel, rfl, by decide +kernel, by decide +kernel⟩
theorem ok__law_right (T : Tx K mg) (G__law_are_works : Fg P w K mg base CX0 4 T.f__law_are_works T.fd__law_are_works ["_law_thing"] (sp__law_are_works K)) (G__law_is_work : Fg P w K mg base CX0 3 T.f__law_is_work T.fd__law_is_work ["_law_thing"] (sp__law_is_work K)) (G__law_same : Fg P w K mg base CX0 1 T.f__law_same T.fd__law_same ["_law_found", "_law_due"] (sp__law_same K)) (G_are_works : Fg P w K mg base CX0 5 T.f_are_works T.fd_are_works ["thing"] (sp_are_works K)) (G_is_work : Fg P w K mg base CX0 4 T.f_is_work T.fd_is_work ["thing"] (sp_is_work K)) :
    Fg P w K mg base CX0 6 T.f__law_right T.fd__law_right ["_law_thing"] (sp__law_right K) := by
  refine fg_of0 T.F__law_right sc__law_right (fun vs H Q E h => ?_) (fun cdv A outer s H vs Q E hr hg h => ?_)
  · obtain ⟨p, v, d, rfl, _⟩ := h
    rfl
  · obtain ⟨p, v, d, rfl, hd, f, ⟨o, hp⟩, q⟩ := h
    have mk : Mark p := ⟨⟩
    refine ⟨_, (pss_cons (ps_set (i := 1) sc__law_right.nd rfl (by first | exact Or.inl rfl | exact Or.inr rfl) (pe_callB (call_repr hg hr.units p) (by rfl) T.m_repr (by decide +kernel) (pa_cons (pv 0) pa_nil)))
    (pss_cons (ps_set (i := 2) sc__law_right.nd rfl (by first | exact Or.inl rfl | exact Or.inr rfl) (pe_lst (pa_cons (pg_call G__law_is_work (hr.mono (by decide)) hg rfl T.m__law_is_work T.F__law_is_work.kp T.b__law_is_work .nil pass0 (pa_cons (pv 0) pa_nil)) (pa_cons (pg_call G__law_are_works (hr.mono (by decide)) hg rfl T.m__law_are_works T.F__law_are_works.kp T.b__law_are_works .nil pass0 (pa_cons (pv 0) pa_nil)) pa_nil))))
    (pss_one (ps_ret (pe_and (pg_call G__law_same (hr.mono (by decide)) hg rfl T.m__law_same T.F__law_same.kp T.b__law_same .nil pass0 (pa_cons (pe_lst (pa_cons (pg_call G_is_work (hr.mono (by decide)) hg rfl T.m_is_work T.F_is_work.kp T.b_is_work .nil pass0 (pa_cons (pv 0) pa_nil)) (pa_cons (pg_call G_are_works (hr.mono (by decide)) hg rfl T.m_are_works T.F_are_works.kp T.b_are_works .nil pass0 (pa_cons (pv 0) pa_nil)) pa_nil))) (pa_cons (pv 2) pa_nil))) (pe_one (pe_cmpR (r := rSame K) (op_same hr.units) (pe_callB (call_repr hg hr.units p) (by rfl) T.m_repr (by decide +kernel) (pa_cons (pv 0) pa_nil)) (pv 1) (nomark _)))))))), ?_⟩
    refine at_start (show L2.start _ [_] = [some _, none, none] from rfl) ?_
    repeat' (walk_at "S")
    all_goals first
      | (refine r_conv ?_ (q _ (by walk_at "SM")); simp; done)
      | (exfalso; simp at *; done)
theorem sc_never_falls : FnScope ["numbers"] ["numbers"] (defScope (top 2)) := ⟨rfl, rfl, rfl, by decide +kernel, rfl, by decide +kernel, by decide +kernel⟩
theorem ok_never_falls (T : Tx K mg)  :
    Fg P w K mg base CX0 1 T.f_never_falls T.fd_never_falls ["numbers"] (sp_never_falls K) := by
  refine fg_of0 T.F_never_falls sc_never_falls (fun vs H Q E h => ?_) (fun cdv A outer s H vs Q E hr hg h => ?_)
  · obtain ⟨a, ns, rfl, _⟩ := h
    rfl
  · obtain ⟨a, ns, rfl, ha, hl, q⟩ := h
    refine ⟨_, (pss_one (ps_ret (pe_cmpR (r := rSame K) (op_same hr.units) (pe_callTy (r := rListOf K) call_listed (by rfl) T.m_list (by decide +kernel) (pa_cons (pv 0) pa_nil)) (pe_callB (r := rSorted K) cr_sorted (by rfl) T.m_sorted (by decide +kernel) (pa_cons (pv 0) pa_nil)) (nomark _)))), ?_⟩
    refine at_start (show L2.start _ [_] = [some _] from rfl) ?_
    repeat' (walk_at "S")
    rename_i l nl
    refine r_sorted (ns := ns) (g_newF nl ha) hl ?_
    intro ns' p' perm pw np'
    have fr' : Fre _ p' := ⟨np'⟩
    repeat' (walk_at "S")
    refine r_sameInts (ns := ns) (ms := ns') (g_newF fr' upd_same) upd_same ?_
    refine r_conv ?_ (q _ (Same.newF (Same.newF (Same.refl H) nl) fr'))
    exact sorted_same perm pw
theorem sc_are_works : FnScope ["thing", "part", "work"] ["thing"] (defScope (top 12)) := ⟨rfl, rfl, rfl, by decide +kernel, rfl, by decide +kernel, by decide +kernel⟩
theorem ok_are_works (T : Tx K mg) (G_has_parts : Fg P w K mg base CX0 1 T.f_has_parts T.fd_has_parts ["thing", "least", "most"] (sp_has_parts K)) (G_is_work : Fg P w K mg base CX0 4 T.f_is_work T.fd_is_work ["thing"] (sp_is_work K)) (G_never_falls : Fg P w K mg base CX0 1 T.f_never_falls T.fd_never_falls ["numbers"] (sp_never_falls K)) :
    Fg P w K mg base CX0 5 T.f_are_works T.fd_are_works ["thing"] (sp_are_works K) := by
  refine fg_of0 T.F_are_works sc_are_works (fun vs H Q E h => ?_) (fun cdv A outer s H vs Q E hr hg h => ?_)
  · obtain ⟨p, v, d, rfl, _⟩ := h
    rfl
  · obtain ⟨p, v, d, rfl, hd, q⟩ := h
    refine ⟨_, (pss_cons (ps_if (PW.pt (pw_or (pt_not (pt_val (pg_call G_has_parts (hr.mono (by decide)) hg rfl T.m_has_parts T.F_has_parts.kp T.b_has_parts .nil pass0 (pa_cons (pv 0) (pa_cons pe_int (pa_cons (pe_gint rfl T.m_MOST_WORKS) pa_nil)))))) (pw_or1 (pt_not (pt_val (pe_callB (r := rAll K) (cr_all rfl) (by rfl) T.m_all (by decide +kernel) (pa_cons (pe_lc (own := [("part", 1)]) (g := gName 1) (tt := tYes) rfl sc_are_works.nd (pi_tup (pv 0)) (blkOk_by (N := ["thing", "part", "work"]) (sc := defScope (top 12)) (by decide +kernel)) (fun _ _ _ _ _ => (pg_name (i := 1) sc_are_works.nd rfl (by first | exact Or.inl rfl | exact Or.inr rfl))) (fun _ _ _ _ _ => pts_nil) (fun _ _ _ _ _ => (pg_call G_is_work (hr.mono (by decide)) hg rfl T.m_is_work T.F_is_work.kp T.b_is_work .nil pass0 (pa_cons (pv 1) pa_nil)))) pa_nil)))))))
    (pss_one (ps_ret pe_bl))
    pss_nil)
    (pss_one (ps_ret (pg_call G_never_falls (hr.mono (by decide)) hg rfl T.m_never_falls T.F_never_falls.kp T.b_never_falls .nil pass0 (pa_cons (pe_lc (own := [("work", 2)]) (g := gName 2) (tt := tYes) rfl sc_are_works.nd (pi_tup (pv 0)) (blkOk_by (N := ["thing", "part", "work"]) (sc := defScope (top 12)) (by decide +kernel)) (fun _ _ _ _ _ => (pg_name (i := 2) sc_are_works.nd rfl (by first | exact Or.inl rfl | exact Or.inr rfl))) (fun _ _ _ _ _ => pts_nil) (fun _ _ _ _ _ => (pe_ix (r := rIx K) ix_seq (pv 2) pe_int (fun _ _ => rfl)))) pa_nil))))), ?_⟩
    refine at_start (show L2.start _ [_] = [some _, none, none] from rfl) ?_
    have hd0 := hd
    cases hd
    case tup a xs ds n e ha =>
      have lds := ha.length
      by_cases hl : 1 ≤ xs.length ∧ xs.length ≤ 12
      · have hp : partsD 1 12 (.tuple ds) = true := by
          simp only [partsD, decide_eq_true_eq]
          omega
        repeat' (walk_at "S")
        · exfalso; simp_all
        rename_i c1 D nD
        refine lc_tup (xs := xs) (fun i H' => H' = upd H D (.lst (((ds.map workD).map V.bl).take i))) rfl ?_ ?_ ?_
        · rintro i H' hi rfl
          exact SqT.of (g_newF nD e)
        · rintro i x H' hx rfl
          obtain ⟨d, hd, hxd⟩ := ha.get hx
          have hxd' := hxd.keep (Keep.newF (o := .lst (((ds.map workD).map V.bl).take i)) (Keep.refl p H) nD)
          repeat' (walk_at "S")
          have e1 : ((ds.map workD).map V.bl)[i]? = some (V.bl (workD d)) := by
            rw [List.getElem?_map, List.getElem?_map, hd]; rfl
          have e2 : ((ds.map workD).map V.bl).length ≤ 1000 := by
            rw [List.length_map, List.length_map]; omega
          exact lc_close e1 e2
        · rintro H' rfl
          rw [List.take_of_length_le (by rw [List.length_map, List.length_map]; omega)]
          have hD : upd H D (.lst ((ds.map workD).map V.bl)) D = some (.lst ((ds.map workD).map V.bl)) := upd_same
          repeat' (walk_at "S")
          refine r_all hD ?_
          repeat' (walk_at "S")
          · rename_i hc
            refine r_conv ?_ (q _ (Same.newF (Same.refl H) nD))
            have hw : ds.all workD = false := by simpa [List.all_map] using hc
            simp only [worksD, hw, Bool.false_and, Bool.and_false]
          · rename_i hc D2 nD2
            have hw : ds.all workD = true := by simpa [List.all_map] using hc
            refine lc_tup (xs := xs) (fun i H' => H' = upd (upd H D (.lst ((ds.map workD).map V.bl))) D2 (.lst (((ds.map dayD).map V.int).take i))) rfl ?_ ?_ ?_
            · rintro i H' hi rfl
              exact SqT.of (g_newF nD2 (g_newF nD e))
            · rintro i x H' hx rfl
              obtain ⟨d, hd, hxd⟩ := ha.get hx
              obtain ⟨t, y, z, j, rfl, ht, hj⟩ := work_at hxd (List.all_eq_true.mp hw d (List.mem_of_getElem? hd))
              repeat' (walk_at "S")
              have e1 : ((ds.map dayD).map V.int)[i]? = some (V.int j) := by
                rw [List.getElem?_map, List.getElem?_map, hd, ← hj]; rfl
              have e2 : ((ds.map dayD).map V.int).length ≤ 1000 := by
                rw [List.length_map, List.length_map]; omega
              exact lc_close e1 e2
            · rintro H' rfl
              rw [List.take_of_length_le (by rw [List.length_map, List.length_map]; omega)]
              repeat' (walk_at "S")
              refine c_never_falls (ns := ds.map dayD) upd_same (by rw [List.length_map]; omega) ?_
              intro Hn sn
              refine r_conv ?_ (q _ ((Same.newF (Same.newF (Same.refl H) nD) nD2).trans sn))
              simp only [worksD, hw, Bool.true_and]
              rw [decide_eq_true (show 1 ≤ ds.length ∧ ds.length ≤ 12 by omega), Bool.true_and]
      · have hw : worksD (.tuple ds) = false := by
          simp only [worksD]
          rw [decide_eq_false (by omega)]
          rfl
        have hp : partsD 1 12 (.tuple ds) = false := by
          simp only [partsD, decide_eq_false_iff_not]
          omega
        repeat' (walk_at "S")
        all_goals first
          | (refine r_conv ?_ (q _ (Same.refl _)); exact hw)
          | (exfalso; simp_all; done)
    all_goals repeat' (walk_at "S")
    all_goals (refine r_conv ?_ (q _ (Same.refl _)); rfl)
end
section
variable {P : Program} {w : World} {K : PySem.W.Frag} {mg : Str → Option Value} {base : Heap}
theorem sc__law_are_works : FnScope ["_law_thing", "_law_one", "_law_dates"] ["_law_thing"] (defScope (top 23)) := ⟨rfl, rfl, rfl, by decide +kernel, rfl, by decide +kernel, by decide +kernel⟩
theorem ok__law_are_works (T : Tx K mg) (G__law_is_work : Fg P w K mg base CX0 3 T.f__law_is_work T.fd__law_is_work ["_law_thing"] (sp__law_is_work K)) :
    Fg P w K mg base CX0 4 T.f__law_are_works T.fd__law_are_works ["_law_thing"] (sp__law_are_works K) := by
  refine fg_of0 T.F__law_are_works sc__law_are_works (fun vs H Q E h => ?_) (fun cdv A outer s H vs Q E hr hg h => ?_)
  · obtain ⟨p, v, d, rfl, _⟩ := h
    rfl
  · obtain ⟨p, v, d, rfl, hd, q⟩ := h
    refine ⟨_, (pss_cons (ps_if (PW.pt (pw_or (pt_not (pt_val (pe_callB (r := rIsi K) call_isi (by rfl) T.m_isinstance (by decide +kernel) (pa_cons (pv 0) (pa_cons (pe_bltn (v := .ty "tuple") (by rfl) T.m_tuple (by decide +kernel) rfl) pa_nil))))) (pw_or (pt_not (pt_chain op_le op_le pe_int (pe_callB (r := rLen K) call_size (by rfl) T.m_len (by decide +kernel) (pa_cons (pv 0) pa_nil)) pe_int)) (pw_or1 (pt_not (pt_val (pe_callB (r := rAll K) (cr_all rfl) (by rfl) T.m_all (by decide +kernel) (pa_cons (pe_lc (own := [("_law_one", 1)]) (g := gName 1) (tt := tYes) rfl sc__law_are_works.nd (pi_tup (pv 0)) (blkOk_by (N := ["_law_thing", "_law_one", "_law_dates"]) (sc := defScope (top 23)) (by decide +kernel)) (fun _ _ _ _ _ => (pg_name (i := 1) sc__law_are_works.nd rfl (by first | exact Or.inl rfl | exact Or.inr rfl))) (fun _ _ _ _ _ => pts_nil) (fun _ _ _ _ _ => (pg_call G__law_is_work (hr.mono (by decide)) hg rfl T.m__law_is_work T.F__law_is_work.kp T.b__law_is_work .nil pass0 (pa_cons (pv 1) pa_nil)))) pa_nil))))))))
    (pss_one (ps_ret pe_bl))
    pss_nil)
    (pss_cons (ps_setLc (i := 2) (own := [("_law_one", 1)]) (g := gName 1) (tt := tYes) rfl sc__law_are_works.nd rfl rfl (sw_true rfl rfl rfl (by decide +kernel)) (pi_tup (pv 0)) (blkOk_by (N := ["_law_thing", "_law_one", "_law_dates"]) (sc := defScope (top 23)) (by decide +kernel)) (fun _ _ _ _ _ => (pg_name (i := 1) sc__law_are_works.nd rfl (by first | exact Or.inl rfl | exact Or.inr rfl))) (fun _ _ _ _ _ => pts_nil) (fun _ _ _ _ _ => (pe_ix (r := rIx K) ix_seq (pv 1) pe_int (fun _ _ => rfl))))
    (pss_one (ps_ret (pe_cmpR (r := rSame K) (op_same hr.units) (pv 2) (pe_callB (r := rSorted K) cr_sorted (by rfl) T.m_sorted (by decide +kernel) (pa_cons (pv 2) pa_nil)) (nomark _)))))), ?_⟩
    refine at_start (show L2.start _ [_] = [some _, none, none] from rfl) ?_
    have hd0 := hd
    cases hd
    case tup a xs ds n e ha =>
      have lds := ha.length
      by_cases hl : 1 ≤ xs.length ∧ xs.length ≤ 12
      · repeat' (walk_at "S")
        rename_i c1 c2 D nD
        refine lc_tup (xs := xs) (fun i H' => H' = upd H D (.lst (((ds.map workD).map V.bl).take i))) rfl ?_ ?_ ?_
        · rintro i H' hi rfl
          exact SqT.of (g_newF nD e)
        · rintro i x H' hx rfl
          obtain ⟨d, hd, hxd⟩ := ha.get hx
          have hxd' := hxd.keep (Keep.newF (o := .lst (((ds.map workD).map V.bl).take i)) (Keep.refl p H) nD)
          repeat' (walk_at "S")
          have e1 : ((ds.map workD).map V.bl)[i]? = some (V.bl (workD d)) := by
            rw [List.getElem?_map, List.getElem?_map, hd]; rfl
          have e2 : ((ds.map workD).map V.bl).length ≤ 1000 := by
            rw [List.length_map, List.length_map]; omega
          exact lc_close e1 e2
        · rintro H' rfl
          rw [List.take_of_length_le (by rw [List.length_map, List.length_map]; omega)]
          have hD : upd H D (.lst ((ds.map workD).map V.bl)) D = some (.lst ((ds.map workD).map V.bl)) := upd_same
          repeat' (walk_at "S")
          refine r_all hD ?_
          repeat' (walk_at "S")
          · rename_i hc
            refine r_conv ?_ (q _ (Same.newF (Same.refl H) nD))
            have hw : ds.all workD = false := by simpa [List.all_map] using hc
            simp only [worksD, hw, Bool.false_and, Bool.and_false]
          · rename_i hc D2 nD2
            have hw : ds.all workD = true := by simpa [List.all_map] using hc
            refine lc_tup (xs := xs) (fun i H' => H' = upd (upd H D (.lst ((ds.map workD).map V.bl))) D2 (.lst (((ds.map dayD).map V.int).take i))) rfl ?_ ?_ ?_
            · rintro i H' hi rfl
              exact SqT.of (g_newF nD2 (g_newF nD e))
            · rintro i x H' hx rfl
              obtain ⟨d, hd, hxd⟩ := ha.get hx
              obtain ⟨t, y, z, j, rfl, ht, hj⟩ := work_at hxd (List.all_eq_true.mp hw d (List.mem_of_getElem? hd))
              repeat' (walk_at "S")
              have e1 : ((ds.map dayD).map V.int)[i]? = some (V.int j) := by
                rw [List.getElem?_map, List.getElem?_map, hd, ← hj]; rfl
              have e2 : ((ds.map dayD).map V.int).length ≤ 1000 := by
                rw [List.length_map, List.length_map]; omega
              exact lc_close e1 e2
            · rintro H' rfl
              rw [List.take_of_length_le (by rw [List.length_map, List.length_map]; omega)]
              have hD2 : upd (upd H D (.lst ((ds.map workD).map V.bl))) D2 (.lst ((ds.map dayD).map V.int)) D2 = some (.lst ((ds.map dayD).map V.int)) := upd_same
              repeat' (walk_at "S")
              refine r_sorted hD2 (by rw [List.length_map]; omega) ?_
              intro ns' p' perm pw np'
              have fr' : Fre (upd (upd H D (.lst ((ds.map workD).map V.bl))) D2 (.lst ((ds.map dayD).map V.int))) p' := ⟨np'⟩
              repeat' (walk_at "S")
              refine r_sameInts (ns := ds.map dayD) (ms := ns') (g_newF fr' hD2) upd_same ?_
              refine r_conv ?_ (q _ (Same.newF (Same.newF (Same.newF (Same.refl H) nD) nD2) fr'))
              simp only [worksD, hw, Bool.true_and]
              rw [decide_eq_true (show 1 ≤ ds.length ∧ ds.length ≤ 12 by omega), Bool.true_and]
              exact sorted_same perm pw
      · have hw : worksD (.tuple ds) = false := by
          simp only [worksD]
          rw [decide_eq_false (by omega)]
          rfl
        repeat' (walk_at "S")
        all_goals first
          | (refine r_conv ?_ (q _ (Same.refl _)); exact hw)
          | (exfalso; omega)
    all_goals repeat' (walk_at "S")
    all_goals (refine r_conv ?_ (q _ (Same.refl _)); rfl)
end
section
variable {N m b : Nat} {x y z : Str}
theorem Ft.signs (f : Ft N m b (.str x)) : ∀ c ∈ x.cps.toList, c < 128 := by
  have h := f.ok
  simpa only [okD, List.all_eq_true, decide_eq_true_eq] using h
theorem Ft.strLen (f : Ft N m b (.str x)) : x.length ≤ b := f.bk
theorem Ft.strPlus (hx : ∀ c ∈ x.cps.toList, c < 128) (hy : ∀ c ∈ y.cps.toList, c < 128) (hb : x.length + y.length ≤ b) : Ft N m b (.str (x ++ y)) := by
  refine Ft.str (fun c hc => ?_) ?_
  · have e : (x ++ y).cps.toList = x.cps.toList ++ y.cps.toList := Array.toList_append
    rw [e] at hc
    exact (List.mem_append.mp hc).elim (hx c) (hy c)
  · rw [strLen_append]; exact hb
theorem Ft.strCut {lo hi : Option Int} (hx : ∀ c ∈ x.cps.toList, c < 128) (hb : x.length ≤ b) : Ft N m b (.str (cutS x lo hi)) := by
  refine Ft.str (fun c hc => hx c ?_) (Nat.le_trans (cutS_length x lo hi) hb)
  exact List.mem_of_mem_drop (List.mem_of_mem_take hc)
theorem Ft.strUp (hx : ∀ c ∈ x.cps.toList, c < 128) (hb : x.length ≤ b) : Ft N m b (.str (Txt.upper x)) := by
  rw [upper_ascii hx]
  refine Ft.str (fun c hc => ?_) (by show (x.cps.map up1).size ≤ b; rw [Array.size_map]; exact hb)
  have hc' : c ∈ (x.cps.map up1).toList := hc
  rw [Array.toList_map] at hc'
  obtain ⟨d, hd, rfl⟩ := List.mem_map.mp hc'
  have := hx d hd
  unfold up1
  split <;> omega
theorem DtAll.mem {p : Addr} {H : Hp} {ds : List PyData} {vs : List V} {v : V} (h : DtAll H p vs ds) (hv : v ∈ vs) : ∃ d ∈ ds, Dt H p v d := by
  obtain ⟨i, hi, rfl⟩ := List.getElem_of_mem hv
  obtain ⟨d, e, q⟩ := h.get (List.getElem?_eq_getElem hi)
  exact ⟨d, List.mem_of_getElem? e, q⟩
theorem DtAll.erase {p : Addr} {H : Hp} : ∀ (n : Nat) {ds : List PyData} {vs : List V}, DtAll H p vs ds → DtAll H p (vs.eraseIdx n) (ds.eraseIdx n)
  | _, _, _, .nil => .nil
  | 0, _, _, .cons _ b => b
  | n + 1, _, _, .cons a b => .cons a (DtAll.erase n b)
theorem DtAll.insert {p : Addr} {H : Hp} {v : V} {d : PyData} (h : Dt H p v d) (n : Nat) {ds : List PyData} {vs : List V} (g : DtAll H p vs ds) :
    DtAll H p (vs.take n ++ [v] ++ vs.drop n) (ds.take n ++ [d] ++ ds.drop n) := ((g.take n).append (.cons h .nil)).append (g.drop n)
theorem r_getL {K : PySem.W.Frag} {H : Hp} {Q : VK} {p : Addr} {xs : List V} {i : Int} (h : H p = some (.lst xs)) (h0 : 0 ≤ i) (h1 : i < xs.length) (q : ∀ v, xs[i.toNat]? = some v → Q v H) : rIx K (.ref p) (.int i) H Q := by
  obtain ⟨k, rfl⟩ := Int.eq_ofNat_of_zero_le h0
  have hk : k < xs.length := by omega
  exact r_ixL h (atI_nat (List.getElem?_eq_getElem hk)) (q _ (List.getElem?_eq_getElem hk))
theorem Un.at {p t : Addr} {R H Hf : Hp} {o : HO} (kR : Keep p R H) (n : t ≠ p) (f : Fre H t) (h : Hf t = some o) : Un R H Hf t = some o := by
  unfold Un
  cases e : R t with
  | some u => have g := f.no; rw [kR _ _ n e] at g; cases g
  | none => rw [f.no]; exact h
def New (H1 H2 Hf : Hp) : Prop := ∀ b o, H1 b = none → H2 b = some o → Hf b = some o
theorem New.refl {H1 H2 : Hp} : New H1 H2 H2 := fun _ _ _ h => h
theorem New.new {H1 H2 Hf : Hp} {t : Addr} {o : HO} (n : New H1 H2 Hf) (f : Fre Hf t) : New H1 H2 (upd Hf t o) := fun b u h1 h2 => g_newF f (n b u h1 h2)
theorem New.old {H1 H2 Hf : Hp} {l : Addr} {o u : HO} (n : New H1 H2 Hf) (f : H1 l = some u) : New H1 H2 (upd Hf l o) := fun b v h1 h2 =>
  g_other (fun e => by rw [e, f] at h1; cases h1) (n b v h1 h2)
theorem r_appendB {H : Hp} {Q : VK} {l : Addr} {xs : List V} {y : V} (h : H l = some (.lst xs)) (e : xs.length < 20000) (q : Q .non (upd H l (.lst (xs ++ [y])))) :
    rAppend (.ref l) [y] H Q := ⟨l, xs, y, rfl, rfl, h, Nat.lt_of_lt_of_le e (by decide), q⟩
theorem fin1 {p l t : Addr} {R S H H1 H4 Hl : Hp} {N m b : Nat} {Q : VK} {o0 o1 : HO} {ys : List V} {es : List PyData} (q : Drawn_ p R H (N + 201) (m + 1 + 4) (2 * b + 20) Q) (kR : Keep p R H) (s : Same S R) (d2 : Dr p H1) (fl : Fre H1 l)
    (kA : Keep p H H1) (k4 : Keep p (upd H1 l o0) H4) (d4 : Dr p H4) (e1 : ∀ b, b ≠ l → Hl b = H4 b) (e2 : Hl l = some o1) (fr : Fre Hl t)
    (da : ∀ Hf, Keep p R Hf → Keep p (Un S (upd H1 l o0) H4) Hf → DtAll Hf p ys es) (f : FtAll (N + 201) (m + 4) (2 * b + 20) es) : Q (.ref t) (upd Hl t (.tup ys)) := by
  have nl : l ≠ p := d2.ne fl
  have fH : Fre H l := Keep.freeF kA nl fl
  have kB : Keep p H (upd H1 l o0) := kA.newF fl
  have kC : Keep p H H4 := kB.trans k4
  have kD : Keep p H Hl := fun b o nb h => by
    have : b ≠ l := fun e => by rw [e, fH.no] at h; cases h
    rw [e1 b this]; exact kC b o nb h
  have dl : Dr p Hl := by
    obtain ⟨x, y, h, r⟩ := d4
    exact ⟨x, y, (e1 p nl.symm).trans h, r⟩
  have nt : t ≠ p := dl.ne fr
  have fH2 : Fre H t := Keep.freeF kD nt fr
  have nw : New (upd H1 l o0) H4 Hl := fun b o h1 h2 => by
    have : b ≠ l := fun e => by rw [e, upd_same] at h1; cases h1
    rw [e1 b this]; exact h2
  exact q _ _ _ (kD.newF fr) (dl.new fr) (Dt.there nt (Un.at kR nt fH2 upd_same) (DtC.tup (da _ Un.reg (Un.keep s kR kB (nw.new fr))))) f.tup
end
local macro_rules | `(tactic| walk_at "S") => `(tactic| first
  | ((with_reducible refine' r_plusS ?h ?_); (case h => assumption))
  | ((with_reducible refine' r_cutS ?h ?_); (case h => assumption))
  | ((with_reducible refine' r_upper ?h ?_); (case h => assumption))
  | ((with_reducible refine' r_ins ?h ?e ?k ?l ?_); (case h => walk_at "G"); (case e => walk_at "AR"); (case k => walk_at "AR"); (case l => walk_at "AR"))
  | ((with_reducible refine' r_popAt ?h ?k ?l ?m ?_); (case h => walk_at "G"); (case k => walk_at "AR"); (case l => walk_at "AR"); (case m => walk_at "AR"); intro _ _)
  | ((with_reducible refine' r_setAt ?h ?k ?l ?_); (case h => walk_at "G"); (case k => walk_at "AR"); (case l => walk_at "AR")))
section
variable {P : Program} {w : World} {K : PySem.W.Frag} {mg : Str → Option Value} {base : Heap}
def sp_rec (j : Nat) (K : PySem.W.Frag) : Sp := fun vs H Q E => ∃ i, j = i + 1 ∧ sp_spoilt i K vs H Q E
theorem sc__law_spoilt : FnScope ["_law_state_here", "_law_thing", "_law_deep", "_law_at", "_law_kind", "_law_row"] ["_law_state_here", "_law_thing", "_law_deep"] (defScope (top 21)) := ⟨rfl, rfl, rfl, by decide +kernel, rfl, by decide +kernel, by decide +kernel⟩
theorem ok_spoilt (T : Tx K mg) (G__law_odd : Fg P w K mg base CX0 2 T.f__law_odd T.fd__law_odd ["_law_state_here"] (sp__law_odd K)) (G__law_take : Fg P w K mg base CX0 1 T.f__law_take T.fd__law_take ["_law_state_here", "_law_many"] (sp__law_take K)) (G__law_whole : Fg P w K mg base CX0 1 T.f__law_whole T.fd__law_whole ["_law_thing"] (sp__law_whole K)) (j : Nat) (hj : j ≤ 2) (rec : ∀ i, j = i + 1 → Fg P w K mg base CX0 (i + 3) T.f__law_spoilt T.fd__law_spoilt ["_law_state_here", "_law_thing", "_law_deep"] (sp_spoilt i K)) :
    Fg P w K mg base CX0 (j + 3) T.f__law_spoilt T.fd__law_spoilt ["_law_state_here", "_law_thing", "_law_deep"] (sp_spoilt j K) := by
  refine fg_of0 (k := j + 2) T.F__law_spoilt sc__law_spoilt (fun vs H Q E h => ?_) (fun cdv A outer s H vs Q E hr hg h => ?_)
  · obtain ⟨p, v, d, R, N, m, b, rfl, _⟩ := h
    rfl
  · obtain ⟨p, v, d, R, N, m, b, rfl, hp, kR, hd, ft, n1, n2, b2, q⟩ := h
    have mk : Mark p := ⟨⟩
    have hd0 := hd.keep kR
    have oddq : ∀ v' d' H1 H', Keep p H H1 → Keep p H1 H' → Dr p H' → Dt (Un N0 H1 H') p v' d' → Ft (10 ^ 30) 3 10 d' → Q v' H' := fun v' d' H1 H' a a' b c f =>
      q v' d' H' (a.trans a') b (c.keep (Un.keep N0.same kR a fun _ _ _ h => h)) (f.mono (by omega) (by omega) (by omega))
    have tq : ∀ v' d' H', Keep p H H' → Dr p H' → Dt N0 p v' d' → Ft (N + 201) (m + 4) (2 * b + 20) d' → Q v' H' := fun v' d' H' a b c f =>
      q v' d' H' a b (c.keep N0.keep) f
    have G__law_spoilt : Fg P w K mg base CX0 (j + 2) T.f__law_spoilt T.fd__law_spoilt ["_law_state_here", "_law_thing", "_law_deep"] (sp_rec j K) := by
      cases j with
      | zero => exact ⟨fun vs H Q E h => by obtain ⟨i, e, _⟩ := h; omega, fun A outer s H args us vs Q E _ _ _ _ _ h => by obtain ⟨i, e, _⟩ := h; omega⟩
      | succ i =>
        refine ⟨fun vs H Q E h => ?_, fun A outer s H args us vs Q E a1 a2 a3 a4 a5 h => ?_⟩
        · obtain ⟨i', e, h⟩ := h
          obtain rfl : i = i' := by omega
          exact (rec i rfl).len _ _ _ _ h
        · obtain ⟨i', e, h⟩ := h
          obtain rfl : i = i' := by omega
          exact (rec i rfl).go A outer s H args us vs Q E a1 a2 a3 a4 a5 h
    refine ⟨_, (pss_cons (ps_if (PW.pt (pw_and (pt_val (pg_call G__law_whole (hr.mono (by omega)) hg rfl T.m__law_whole T.F__law_whole.kp T.b__law_whole .nil pass0 (pa_cons (pv 1) pa_nil))) (pw_and1 (pt_cmpR op_gt (pg_call G__law_take (hr.mono (by omega)) hg rfl T.m__law_take T.F__law_take.kp T.b__law_take .nil pass0 (pa_cons (pv 0) (pa_cons pe_int pa_nil))) pe_int (nomark _)))))
    (pss_one (ps_ret (pe_op (r := rPlus K) op_plus (pv 1) (pe_ix (r := rIx K) ix_seq (pe_lst (pa_cons pe_int (pa_cons (pe_un un_neg pe_int) (pa_cons pe_int (pa_cons (pe_un un_neg pe_int) (pa_cons pe_int (pa_cons pe_int pa_nil))))))) (pg_call G__law_take (hr.mono (by omega)) hg rfl T.m__law_take T.F__law_take.kp T.b__law_take .nil pass0 (pa_cons (pv 0) (pa_cons pe_int pa_nil))) (fun _ _ => rfl)))))
    pss_nil)
    (pss_cons (ps_if (PW.pt (pw_and (pt_val (pe_callB (r := rIsi K) call_isi (by rfl) T.m_isinstance (by decide +kernel) (pa_cons (pv 1) (pa_cons (pe_bltn (v := .ty "str") (by rfl) T.m_str (by decide +kernel) rfl) pa_nil)))) (pw_and1 (pt_cmpR op_gt (pg_call G__law_take (hr.mono (by omega)) hg rfl T.m__law_take T.F__law_take.kp T.b__law_take .nil pass0 (pa_cons (pv 0) (pa_cons pe_int pa_nil))) pe_int (nomark _)))))
    (pss_one (ps_ret (pe_ix (r := rIx K) ix_seq (pe_lst (pa_cons (pe_op (r := rPlus K) op_plus (pv 1) pe_str) (pa_cons (pe_slice (r := rCut K) sl_cut (pv 1) po_none (po_some (pe_un un_neg pe_int))) (pa_cons (pe_bm0 PySem.F.plainAttrs_str PySem.F.slot_str_upper PySem.F.type_str_upper mt_up (pv 1)) (pa_cons pe_str (pa_cons pe_str (pa_cons (pe_op (r := rPlus K) op_plus (pv 1) pe_str) pa_nil))))))) (pg_call G__law_take (hr.mono (by omega)) hg rfl T.m__law_take T.F__law_take.kp T.b__law_take .nil pass0 (pa_cons (pv 0) (pa_cons pe_int pa_nil))) (fun _ _ => rfl))))
    pss_nil)
    (pss_cons (ps_if (PW.pt (pw_or (pt_not (pt_val (pe_callB (r := rIsi K) call_isi (by rfl) T.m_isinstance (by decide +kernel) (pa_cons (pv 1) (pa_cons (pe_bltn (v := .ty "tuple") (by rfl) T.m_tuple (by decide +kernel) rfl) pa_nil))))) (pw_or (pt_cmpR (r := rEqNo) (op_eqNo hr.units) (pv 1) (pe_tup pa_nil) (nomark _)) (pw_or1 (pt_cmpR (r := rSame K) (op_same hr.units) (pv 2) pe_int (nomark _))))))
    (pss_one (ps_ret (pg_call G__law_odd (hr.mono (by omega)) hg rfl T.m__law_odd T.F__law_odd.kp T.b__law_odd .nil pass0 (pa_cons (pv 0) pa_nil))))
    pss_nil)
    (pss_cons (ps_par3 (i := 3) (j := 4) (l := 5) (by rfl) sc__law_spoilt.nd rfl rfl rfl (by decide) (by decide) (by decide) rfl rfl rfl (pa_cons (pg_call G__law_take (hr.mono (by omega)) hg rfl T.m__law_take T.F__law_take.kp T.b__law_take .nil pass0 (pa_cons (pv 0) (pa_cons (pe_callB (r := rLen K) call_size (by rfl) T.m_len (by decide +kernel) (pa_cons (pv 1) pa_nil)) pa_nil))) (pa_cons (pg_call G__law_take (hr.mono (by omega)) hg rfl T.m__law_take T.F__law_take.kp T.b__law_take .nil pass0 (pa_cons (pv 0) (pa_cons pe_int pa_nil))) (pa_cons (pe_callTy (r := rListOf K) call_listed (by rfl) T.m_list (by decide +kernel) (pa_cons (pv 1) pa_nil)) pa_nil))) (by rfl))
    (pss_cons (ps_if (pt_cmpR (r := rSame K) (op_same hr.units) (pv 4) pe_int (nomark _))
    (pss_one (ps_expr (pe_bm PySem.F.plainAttrs_list PySem.F.slot_list_insert PySem.F.type_list_insert mt_ins (pv 5) (pa_cons (pv 3) (pa_cons (pg_call G__law_odd (hr.mono (by omega)) hg rfl T.m__law_odd T.F__law_odd.kp T.b__law_odd .nil pass0 (pa_cons (pv 0) pa_nil)) pa_nil)))))
    (pss_one (ps_if (pt_cmpR (r := rSame K) (op_same hr.units) (pv 4) pe_int (nomark _))
    (pss_one (ps_expr (pe_bm PySem.F.plainAttrs_list PySem.F.slot_list_pop PySem.F.type_list_pop mt_popAt (pv 5) (pa_cons (pv 3) pa_nil))))
    (pss_one (ps_if (pt_cmpR (r := rSame K) (op_same hr.units) (pv 4) pe_int (nomark _))
    (pss_one (ps_expr (pe_bm PySem.F.plainAttrs_list PySem.F.slot_list_insert PySem.F.type_list_insert mt_ins (pv 5) (pa_cons (pv 3) (pa_cons (pe_ix (r := rIx K) ix_seq (pv 5) (pv 3) (fun _ _ => rfl)) pa_nil)))))
    (pss_one (ps_if (pt_cmpR (r := rSame K) (op_same hr.units) (pv 4) pe_int (nomark _))
    (pss_one (ps_ret (pv 5)))
    (pss_one (ps_if (pt_cmpR (r := rSame K) (op_same hr.units) (pv 4) pe_int (nomark _))
    (pss_one (ps_expr (pe_bm PySem.F.plainAttrs_list PySem.F.slot_list_append PySem.F.type_list_append mt_append (pv 5) (pa_cons (pe_bm PySem.F.plainAttrs_list PySem.F.slot_list_pop PySem.F.type_list_pop mt_popAt (pv 5) (pa_cons (pv 3) pa_nil)) pa_nil))))
    (pss_one (ps_asg (pg_call G__law_spoilt (hr.mono (by omega)) hg rfl T.m__law_spoilt T.F__law_spoilt.kp T.b__law_spoilt .nil pass0 (pa_cons (pv 0) (pa_cons (pe_ix (r := rIx K) ix_seq (pv 5) (pv 3) (fun _ _ => rfl)) (pa_cons (pe_op op_sub (pv 2) pe_int) pa_nil)))) (pg_sub (pv 5) (pv 3) set_list))))))))))))
    (pss_one (ps_ret (pe_callTy (r := rTupOf K) call_tupled (by rfl) T.m_tuple (by decide +kernel) (pa_cons (pv 5) pa_nil))))))))), ?_⟩
    refine at_start (show L2.start _ [_, _, _] = [some _, some _, some _, none, none, none] from rfl) ?_
    cases hd
    case tup a xs ds nn e0 ha0 =>
      have e := kR _ _ nn e0
      by_cases hl : xs = []
      · subst hl
        repeat' (walk_at "S")
        rename_i H1 _ k4 d4 du dv f4
        exact oddq _ _ _ _ (by walk_at "KP") k4 d4 du f4
      · have pos : 0 < xs.length := List.length_pos_iff.mpr hl
        obtain ⟨m', rfl⟩ : ∃ m', m = m' + 1 := ⟨m - 1, by have := ft.tup_pos; omega⟩
        have fa := ft.all
        have lds := ha0.length
        have len : xs.length ≤ b := by
          have h2 := bulk_length ds
          have h3 := fa.bk
          omega
        repeat' (walk_at "S")
        · exact absurd (by assumption) hl
        · rename_i H1 _ k4 d4 du dv f4
          exact oddq _ _ _ _ (by walk_at "KP") k4 d4 du f4
        · rename_i r _ _ _ _ _ _ H1 _ _ k2 d2 l fl hc v d H4 k4 d4 du dv f4 t fr
          refine' fin1 q kR N0.same d2 fl ?kA k4 d4 (fun _ n => upd_ne n) upd_same fr (fun Hf a c => DtAll.insert (du.keep c) _ (ha0.keep a)) ?g
          case kA => walk_at "KP"
          case g => exact (FtAll.insert (c := 10) (fa.mono (M := N + 201) (n := m' + 4) (Nat.le_add_right _ _) (by omega) (Nat.le_refl _)) (f4.mono (by omega) (by omega) (Nat.le_refl _)) _).mono (Nat.le_refl _) (Nat.le_refl _) (by omega)
        · rename_i r _ _ _ _ _ _ H1 _ _ k2 d2 l fl _ _ y hy t fr
          refine' fin1 q kR N0.same d2 fl ?kA (Keep.refl _ _) (d2.new fl) (fun _ n => upd_ne n) upd_same fr (fun Hf a c => DtAll.erase _ (ha0.keep a)) ?g
          case kA => walk_at "KP"
          case g => exact (fa.erase _).mono (by omega) (by omega) (by omega)
        · refine' r_getL ?a ?b ?c ?d
          case a => walk_at "G"
          case b => walk_at "AR"
          case c => walk_at "AR"
          case d =>
            intro y hy
            repeat' (walk_at "S")
            rename_i r _ _ _ _ _ _ H1 _ _ k2 d2 l fl _ _ _ t fr
            obtain ⟨d, hd, dy⟩ := ha0.get hy
            refine' fin1 q kR N0.same d2 fl ?kA (Keep.refl _ _) (d2.new fl) (fun _ n => upd_ne n) upd_same fr (fun Hf a c => DtAll.insert (dy.keep a) _ (ha0.keep a)) ?g
            case kA => walk_at "KP"
            case g => exact (fa.insert (fa.mem (List.mem_of_getElem? hd)) _).mono (by omega) (by omega) (by omega)
        · rename_i l fl _ _ _ _
          refine' q (.ref l) (.list ds) _ ?k ?dr (Dt.there ?n (Un.at kR ?n ?f upd_same) (DtC.lst (ha0.keep Un.reg))) ?g
          case k => walk_at "KP"
          case dr => walk_at "DR"
          case n => walk_at "NE"
          case f => walk_at "FR"
          case g => exact (fa.lst).mono (by omega) (by omega) (by omega)
        · rename_i r _ _ _ _ _ _ H1 _ _ k2 d2 l fl _ _ _ _ _ y hy
          refine' r_appendB ?h ?e ?q
          case h => walk_at "G"
          case e =>
            have := List.length_eraseIdx_le xs r.toNat
            omega
          case q =>
            repeat' (walk_at "S")
            rename_i t fr
            obtain ⟨d, hd, dy⟩ := ha0.get hy
            refine' fin1 q kR N0.same d2 fl ?kA (Keep.refl _ _) (d2.new fl) (fun _ n => (upd_ne n).trans (upd_ne n)) upd_same fr (fun Hf a c => DtAll.append (DtAll.erase _ (ha0.keep a)) (.cons (dy.keep a) .nil)) ?g
            case kA => walk_at "KP"
            case g => exact (FtAll.append (fa.erase _) (FtAll.cons (fa.mem (List.mem_of_getElem? hd)) FtAll.nil (c := 0))).mono (by omega) (by omega) (by omega)
        · refine' r_getL ?a ?b ?c ?d
          case a => walk_at "G"
          case b => walk_at "AR"
          case c => walk_at "AR"
          case d =>
            intro y hy
            repeat' (walk_at "S")
            rename_i r _ _ _ _ _ _ H1 _ _ k2 d2 l fl _ _ _ _ _
            obtain ⟨i, rfl⟩ : ∃ i, j = i + 1 := ⟨j - 1, by omega⟩
            obtain ⟨d, hd, dy⟩ := ha0.get hy
            have kA : Keep p H H1 := by walk_at "KP"
            refine ⟨i, rfl, p, y, d, R, N, m', d.bulk, ?e, d2.new fl, kR.trans (kA.newF fl), dy, ⟨fa.ok d (List.mem_of_getElem? hd), fa.dp d (List.mem_of_getElem? hd), Nat.le_refl _⟩, n1, n2, ?b, ?q⟩
            case e =>
              have : ((i + 1 : Nat) : Int) - 1 = i := by omega
              simp only [this]
              rfl
            case b =>
              have := (fa.mem (List.mem_of_getElem? hd)).bk
              omega
            case q =>
              intro v d' H4 k4 d4 du f4
              repeat' (walk_at "S")
              rename_i t fr
              refine' fin1 q kR (fun _ _ h => h) d2 fl kA k4 d4 (fun _ n => upd_ne n) upd_same fr (fun Hf a c => DtAll.set (du.keep c) _ (ha0.keep a)) ?g
              case g => exact (FtAll.set (fa.mono (M := N + 201) (n := m' + 4) (Nat.le_add_right _ _) (by omega) (Nat.le_refl _)) hd f4 (by have := (fa.mem (List.mem_of_getElem? hd)).bk; omega))
    case int i =>
      repeat' (walk_at "S")
      · rename_i H1 _ _ _ _ z hz
        refine' tq _ (.int (i + z)) _ ?k ?dr (Dt.int _) (Ft.int ?g)
        case k => walk_at "KP"
        case dr => walk_at "DR"
        case g =>
          have h := ft.ok
          simp only [okD, decide_eq_true_eq] at h
          omega
      · rename_i H1 _ k4 d4 du dv f4
        exact oddq _ _ _ _ (by walk_at "KP") k4 d4 du f4
    case str x =>
      have hx := ft.signs
      have hb := ft.strLen
      have hb2 := Nat.le_trans hb b2
      have h1 : x.length ≤ sizeLine := Nat.le_trans hb2 (by decide)
      have h2 : x.length ≤ 5592405 := Nat.le_trans hb2 (by decide)
      have h3 : x.length + (Str.ofString "a").length ≤ sizeLine := Nat.le_trans (Nat.add_le_add_right hb2 _) (by decide +kernel)
      have h4 : x.length + (Str.ofString " ").length ≤ sizeLine := Nat.le_trans (Nat.add_le_add_right hb2 _) (by decide +kernel)
      have ha : ∀ c ∈ (Str.ofString "a").cps.toList, c < 128 := by decide +kernel
      have hs : ∀ c ∈ (Str.ofString " ").cps.toList, c < 128 := by decide +kernel
      have la : (Str.ofString "a").length = 1 := by decide +kernel
      have ls : (Str.ofString " ").length = 1 := by decide +kernel
      repeat' (walk_at "S")
      · rename_i d4 z hz
        refine' tq _ (.str z) _ ?k d4 (Dt.str _) ?g
        case k => walk_at "KP"
        case g =>
          rcases hz with h | h | h | h | h | h <;> rw [h]
          · exact Ft.strPlus hx ha (by omega)
          · exact Ft.strCut hx (by omega)
          · exact Ft.strUp hx (by omega)
          · exact Ft.str (by decide +kernel) (Nat.le_trans (show _ ≤ 2 by decide +kernel) (by omega))
          · exact Ft.str (by decide +kernel) (Nat.le_trans (show _ ≤ 2 by decide +kernel) (by omega))
          · exact Ft.strPlus hx hs (by omega)
      · rename_i H1 _ k4 d4 du dv f4
        exact oddq _ _ _ _ (by walk_at "KP") k4 d4 du f4
    all_goals repeat' (walk_at "S")
    all_goals (rename_i H1 _ k4 d4 du dv f4; exact oddq _ _ _ _ (by walk_at "KP") k4 d4 du f4)
theorem ok__law_spoilt (T : Tx K mg) (G__law_odd : Fg P w K mg base CX0 2 T.f__law_odd T.fd__law_odd ["_law_state_here"] (sp__law_odd K)) (G__law_take : Fg P w K mg base CX0 1 T.f__law_take T.fd__law_take ["_law_state_here", "_law_many"] (sp__law_take K)) (G__law_whole : Fg P w K mg base CX0 1 T.f__law_whole T.fd__law_whole ["_law_thing"] (sp__law_whole K)) :
    Fg P w K mg base CX0 5 T.f__law_spoilt T.fd__law_spoilt ["_law_state_here", "_law_thing", "_law_deep"] (sp__law_spoilt K) := by
  have g0 := ok_spoilt T G__law_odd G__law_take G__law_whole 0 (by decide) (fun i h => by omega)
  have g1 := ok_spoilt T G__law_odd G__law_take G__law_whole 1 (by decide) (fun i h => by (have e : i = 0 := by omega); subst e; exact g0)
  have g2 := ok_spoilt T G__law_odd G__law_take G__law_whole 2 (by decide) (fun i h => by (have e : i = 1 := by omega); subst e; exact g1)
  have all : ∀ i, i ≤ 2 → Fg P w K mg base CX0 5 T.f__law_spoilt T.fd__law_spoilt ["_law_state_here", "_law_thing", "_law_deep"] (sp_spoilt i K) := fun i hi =>
    match i, hi with
    | 0, _ => g0.mono (by decide)
    | 1, _ => g1.mono (by decide)
    | 2, _ => g2
  exact ⟨fun vs H Q E ⟨i, hi, h⟩ => (all i hi).len _ _ _ _ h, fun A outer s H args us vs Q E a1 a2 a3 a4 a5 ⟨i, hi, h⟩ => (all i hi).go A outer s H args us vs Q E a1 a2 a3 a4 a5 h⟩
end
section
variable {K : PySem.W.Frag} {H : Hp} {Q : VK}
theorem r_plusTU {l b : Addr} {xs zs : List V} (h : H l = some (.tup xs)) (h' : H b = some (.tup zs)) (e : xs.length + zs.length ≤ 1000)
    (q : ∀ t H', Same H H' → H' t = some (.tup (xs ++ zs)) → Q (.ref t) H') : rPlus K (.ref l) (.ref b) H Q := by
  refine r_plusT h h' (Nat.le_trans e (by decide)) ?_ ?_ ?_
  · intro e0
    subst e0
    exact q b H (Same.refl H) h'
  · intro _ e0
    subst e0
    exact q l H (Same.refl H) (by rw [List.append_nil]; exact h)
  · intro _ _ p n
    exact q p _ (Same.new (Same.refl H) n) upd_same
theorem r_cutTU {a : Addr} {xs : List V} {lo hi : Option Int} (h : H a = some (.tup xs)) (q : ∀ t H', Same H H' → H' t = some (.tup (cutV xs lo hi)) → Q (.ref t) H') : rCut K (.ref a) lo hi H Q := by
  refine r_cutT h ?_ ?_
  · rintro ⟨e1, e2⟩
    refine q a H (Same.refl H) ?_
    unfold cutV
    rw [e1, e2, List.drop_zero, Nat.sub_zero, List.take_length]
    exact h
  · intro _ p n
    exact q p _ (Same.new (Same.refl H) n) upd_same
theorem r_cut3a {a : Addr} {x y z : V} {lo hi : Option Int} (h : H a = some (.tup [x, y, z])) (e1 : lo = none) (e2 : hi = some 0) (q : ∀ t H', Same H H' → H' t = some (.tup []) → Q (.ref t) H') : rCut K (.ref a) lo hi H Q := by
  subst e1 e2
  exact r_cutTU h fun t H' s g => q t H' s g
theorem r_cut3b {a : Addr} {x y z : V} {lo hi : Option Int} (h : H a = some (.tup [x, y, z])) (e1 : lo = none) (e2 : hi = some 1) (q : ∀ t H', Same H H' → H' t = some (.tup [x]) → Q (.ref t) H') : rCut K (.ref a) lo hi H Q := by
  subst e1 e2
  exact r_cutTU h fun t H' s g => q t H' s g
theorem r_cut3c {a : Addr} {x y z : V} {lo hi : Option Int} (h : H a = some (.tup [x, y, z])) (e1 : lo = none) (e2 : hi = some 2) (q : ∀ t H', Same H H' → H' t = some (.tup [x, y]) → Q (.ref t) H') : rCut K (.ref a) lo hi H Q := by
  subst e1 e2
  exact r_cutTU h fun t H' s g => q t H' s g
theorem r_cut3d {a : Addr} {x y z : V} {lo hi : Option Int} (h : H a = some (.tup [x, y, z])) (e1 : lo = some 1) (e2 : hi = none) (q : ∀ t H', Same H H' → H' t = some (.tup [y, z]) → Q (.ref t) H') : rCut K (.ref a) lo hi H Q := by
  subst e1 e2
  exact r_cutTU h fun t H' s g => q t H' s g
theorem r_cut3e {a : Addr} {x y z : V} {lo hi : Option Int} (h : H a = some (.tup [x, y, z])) (e1 : lo = some 2) (e2 : hi = none) (q : ∀ t H', Same H H' → H' t = some (.tup [z]) → Q (.ref t) H') : rCut K (.ref a) lo hi H Q := by
  subst e1 e2
  exact r_cutTU h fun t H' s g => q t H' s g
def rMany (K : PySem.W.Frag) : R2 := fun x y H Q => rTimes K x y H Q ∨ rRepT01 x y H Q
theorem op_many {X : Cx} : OpR X (binaryOp .Mult) (rMany X.K) := opOr op_times op_repT01
theorem r_many {l : Addr} {v : V} {k : Int} (h : H l = some (.tup [v])) (hk : 0 ≤ k) (hk2 : k ≤ 1000) (q : ∀ t H', Same H H' → H' t = some (.tup (List.replicate k.toNat v)) → Q (.ref t) H') : rMany K (.ref l) (.int k) H Q := by
  by_cases h0 : k = 0
  · subst h0
    exact .inr ⟨l, 0, [v], rfl, rfl, h, List.cons_ne_nil _ _, .inl ⟨rfl, fun p n => q p _ (Same.new (Same.refl H) n) upd_same⟩⟩
  · by_cases h1 : k = 1
    · subst h1
      exact .inr ⟨l, 1, [v], rfl, rfl, h, List.cons_ne_nil _ _, .inr ⟨rfl, q l H (Same.refl H) h⟩⟩
    · refine .inl (.inr (.inr ⟨l, k, [v], rfl, rfl, SqT.of h, List.cons_ne_nil _ _, by omega, hk2, (show 1 ≤ 1000 by decide), fun p n => q p _ (Same.new (Same.refl H) n) ?_⟩))
      rw [upd_same, List.flatten_replicate_singleton]
theorem Dr.neT {p t : Addr} {xs : List V} (d : Dr p H) (h : H t = some (.tup xs)) : t ≠ p := by
  intro e
  obtain ⟨a, b, g, _⟩ := d
  rw [e, g] at h
  cases h
theorem ne_tl {f t : Addr} {xs ys : List V} (d : H f = some (.lst ys)) (h : H t = some (.tup xs)) : t ≠ f := by
  intro e
  rw [e, d] at h
  cases h
theorem DtAll.rep {p : Addr} {v : V} {d : PyData} (h : Dt H p v d) : ∀ n : Nat, DtAll H p (List.replicate n v) (List.replicate n d)
  | 0 => .nil
  | n + 1 => .cons h (DtAll.rep h n)
theorem FtAll.rep {N m b : Nat} {d : PyData} (h : Ft N m b d) : ∀ n : Nat, FtAll N m ((b + 1) * n) (List.replicate n d)
  | 0 => FtAll.nil
  | n + 1 => (FtAll.cons h (FtAll.rep h n)).mono (Nat.le_refl _) (Nat.le_refl _) (by rw [Nat.mul_succ]; omega)
/-- the heap apart from p and f -/
def Cut (p f : Addr) (H : Hp) : Hp := fun b => if b = p ∨ b = f then none else H b
theorem Cut.at {p f b : Addr} {o : HO} (n : b ≠ p) (m : b ≠ f) (h : H b = some o) : Cut p f H b = some o := by
  unfold Cut
  rw [if_neg (fun e => e.elim n m)]
  exact h
theorem Cut.keep {p f : Addr} {H H' : Hp} (k : ∀ b o, b ≠ p → b ≠ f → H b = some o → H' b = some o) : Keep p (Cut p f H) (Cut p f H') := by
  intro b o n h
  by_cases e : b = p ∨ b = f
  · unfold Cut at h; rw [if_pos e] at h; cases h
  · unfold Cut at *
    rw [if_neg e] at *
    exact k b o n (fun x => e (.inr x)) h
theorem Cut.sub {p f : Addr} : Keep p (Cut p f H) H := by
  intro b o n h
  unfold Cut at h
  by_cases e : b = p ∨ b = f
  · rw [if_pos e] at h; cases h
  · rw [if_neg e] at h; exact h
theorem Cut.into {p f : Addr} {H H' : Hp} {o : HO} (k : Keep p H H') (n : Fre H' f) : Keep p H (Cut p f (upd H' f o)) := by
  intro b u nb h
  have h' := k _ _ nb h
  exact Cut.at nb (n_newF n h') (g_newF n h')
theorem Dt.tupK {p t : Addr} {xs : List V} {ds : List PyData} (d : Dr p H) (h : H t = some (.tup xs)) (a : DtAll H p xs ds) : Dt H p (.ref t) (.tuple ds) := .tup (d.neT h) h a
theorem Dt.tupC {p f t : Addr} {xs ys : List V} {ds : List PyData} (d : Dr p H) (hf : H f = some (.lst ys)) (h : H t = some (.tup xs)) (a : DtAll (Cut p f H) p xs ds) : Dt (Cut p f H) p (.ref t) (.tuple ds) :=
  Dt.there (d.neT h) (Cut.at (d.neT h) (ne_tl hf h) h) (.tup a)
/-- a list that grows at f, its data apart from it -/
structure Grow (p f : Addr) (H : Hp) (n B : Nat) : Prop where
  ex : ∃ xs ds, H f = some (.lst xs) ∧ xs.length = n ∧ DtAll (Cut p f H) p xs ds ∧ FtAll (10 ^ 30) 4 B ds
theorem Grow.same {p f : Addr} {H H' : Hp} {n B : Nat} (g : Grow p f H n B) (s : Same H H') : Grow p f H' n B := by
  obtain ⟨xs, ds, a, b, d, e⟩ := g.ex
  exact ⟨xs, ds, s _ _ a, b, d.keep (Cut.keep fun b o _ _ h => s b o h), e⟩
theorem Grow.add {p f : Addr} {H : Hp} {n B c : Nat} {v : V} {d : PyData} (g : Grow p f H n B) (nf : f ≠ p) (hv : Dt (Cut p f H) p v d) (fv : Ft (10 ^ 30) 4 c d) :
    ∃ acc, H f = some (.lst acc) ∧ acc.length = n ∧ Grow p f (upd H f (.lst (acc ++ [v]))) (n + 1) (B + (c + 1)) := by
  obtain ⟨xs, ds, a, b, da, e⟩ := g.ex
  have k : Keep p (Cut p f H) (Cut p f (upd H f (.lst (xs ++ [v])))) := Cut.keep fun b o _ m h => by rw [upd_ne m]; exact h
  refine ⟨xs, a, b, ⟨xs ++ [v], ds ++ [d], upd_same, by rw [List.length_append, b]; rfl, DtAll.append (da.keep k) (.cons (hv.keep k) .nil), ?_⟩⟩
  exact (FtAll.append e (FtAll.cons fv (FtAll.nil (b := 0)))).mono (Nat.le_refl _) (Nat.le_refl _) (by omega)
theorem ft3 {a b : Int} {x : PyData} (ha : a.natAbs ≤ 1000) (hb : b.natAbs ≤ 1000) (hx : Ft (10 ^ 30) 0 0 x) : Ft (10 ^ 30) 1 3 (.tuple [.int a, .int b, x]) :=
  ((FtAll.cons (Ft.int (b := 0) (Nat.le_trans ha (by decide))) (FtAll.cons (Ft.int (b := 0) (Nat.le_trans hb (by decide))) (FtAll.cons hx (FtAll.nil (b := 0))))).mono (Nat.le_refl _) (Nat.le_refl 0) (by decide)).tup
end
local macro_rules | `(tactic| walk_at "S") => `(tactic| first
  | ((with_reducible refine' r_plusTU ?h ?k ?e ?_); (case h => walk_at "G"); (case k => walk_at "G"); (case e => walk_at "AR"); intro _ _ _ _)
  | ((with_reducible refine' r_cut3a ?h ?e1 ?e2 ?_); (case h => walk_at "G"); (case e1 => exact rfl); (case e2 => exact rfl); intro _ _ _ _)
  | ((with_reducible refine' r_cut3b ?h ?e1 ?e2 ?_); (case h => walk_at "G"); (case e1 => exact rfl); (case e2 => exact rfl); intro _ _ _ _)
  | ((with_reducible refine' r_cut3c ?h ?e1 ?e2 ?_); (case h => walk_at "G"); (case e1 => exact rfl); (case e2 => exact rfl); intro _ _ _ _)
  | ((with_reducible refine' r_cut3d ?h ?e1 ?e2 ?_); (case h => walk_at "G"); (case e1 => exact rfl); (case e2 => exact rfl); intro _ _ _ _)
  | ((with_reducible refine' r_cut3e ?h ?e1 ?e2 ?_); (case h => walk_at "G"); (case e1 => exact rfl); (case e2 => exact rfl); intro _ _ _ _)
  | ((with_reducible refine' r_many ?h ?k ?l ?_); (case h => walk_at "G"); (case k => walk_at "AR"); (case l => walk_at "AR"); intro _ _ _ _))
section
variable {P : Program} {w : World} {K : PySem.W.Frag} {mg : Str → Option Value} {base : Heap}
theorem sc__law_bounds : FnScope ["_law_state_here", "_law_one", "_law_found", "_law_many", "_law_at", "_law_part"] ["_law_state_here"] (defScope (top 26)) := ⟨rfl, rfl, rfl, by decide +kernel, rfl, by decide +kernel, by decide +kernel⟩
theorem ok__law_bounds (T : Tx K mg) (G__law_take : Fg P w K mg base CX0 1 T.f__law_take T.fd__law_take ["_law_state_here", "_law_many"] (sp__law_take K)) :
    Fg P w K mg base CX0 2 T.f__law_bounds T.fd__law_bounds ["_law_state_here"] (sp__law_bounds K) := by
  refine fg_of0 T.F__law_bounds sc__law_bounds (fun vs H Q E h => ?_) (fun cdv A outer s H vs Q E hr hg h => ?_)
  · obtain ⟨p, rfl, _⟩ := h
    rfl
  · obtain ⟨p, rfl, hp, q⟩ := h
    refine ⟨_, (pss_cons (ps_set (i := 1) sc__law_bounds.nd rfl (by first | exact Or.inl rfl | exact Or.inr rfl) (pe_tup (pa_cons (pg_call G__law_take (hr.mono (by decide)) hg rfl T.m__law_take T.F__law_take.kp T.b__law_take .nil pass0 (pa_cons (pv 0) (pa_cons pe_int pa_nil))) (pa_cons (pe_op (r := rPlus K) op_plus pe_int (pg_call G__law_take (hr.mono (by decide)) hg rfl T.m__law_take T.F__law_take.kp T.b__law_take .nil pass0 (pa_cons (pv 0) (pa_cons pe_int pa_nil)))) (pa_cons pe_bl pa_nil)))))
    (pss_cons (ps_set (i := 2) sc__law_bounds.nd rfl (by first | exact Or.inl rfl | exact Or.inr rfl) (pe_op (r := rPlus K) op_plus (pe_lc (own := [("_law_many", 3)]) (g := gName 3) (tt := tYes) rfl sc__law_bounds.nd (pi_list (pe_lst (pa_cons pe_int (pa_cons pe_int (pa_cons pe_int (pa_cons pe_int pa_nil)))))) (blkOk_by (N := ["_law_state_here", "_law_one", "_law_found", "_law_many", "_law_at", "_law_part"]) (sc := defScope (top 26)) (by decide +kernel)) (fun _ _ _ _ _ => (pg_name (i := 3) sc__law_bounds.nd rfl (by first | exact Or.inl rfl | exact Or.inr rfl))) (fun _ _ _ _ _ => pts_nil) (fun _ _ _ _ _ => (pe_op (r := rMany K) op_many (pe_tup (pa_cons (pv 1) pa_nil)) (pv 3)))) (pe_lst (pa_cons (pe_tup (pa_cons (pv 1) (pa_cons (pe_tup (pa_cons (pe_op op_sub (pe_ix (r := rIx K) ix_seq (pv 1) pe_int (fun _ _ => rfl)) pe_int) (pa_cons pe_int (pa_cons pe_bl pa_nil)))) pa_nil))) (pa_cons (pe_tup (pa_cons (pv 1) (pa_cons (pe_tup (pa_cons (pe_ix (r := rIx K) ix_seq (pv 1) pe_int (fun _ _ => rfl)) (pa_cons pe_int (pa_cons pe_bl pa_nil)))) pa_nil))) pa_nil)))))
    (pss_cons (ps_for PassesOwn.never rfl (pi_range1 rfl T.m_range (pa_cons pe_int pa_nil)) (pg_name (i := 4) sc__law_bounds.nd rfl (by first | exact Or.inl rfl | exact Or.inr rfl))
    (pss_one (ps_for PassesOwn.never rfl (pi_list (pe_ix (r := rIx K) ix_seq (pe_lst (pa_cons (pe_lst (pa_cons (pe_un un_neg pe_int) (pa_cons pe_int (pa_cons pe_int (pa_cons pe_int pa_nil))))) (pa_cons (pe_lst (pa_cons pe_int (pa_cons pe_int (pa_cons pe_int (pa_cons pe_int pa_nil))))) pa_nil))) (pv 4) (fun _ _ => rfl))) (pg_name (i := 5) sc__law_bounds.nd rfl (by first | exact Or.inl rfl | exact Or.inr rfl))
    (pss_one (ps_expr (pe_bm PySem.F.plainAttrs_list PySem.F.slot_list_append PySem.F.type_list_append mt_append (pv 2) (pa_cons (pe_op (r := rPlus K) op_plus (pe_op (r := rPlus K) op_plus (pe_slice (r := rCut K) sl_cut (pv 1) po_none (po_some (pv 4))) (pe_tup (pa_cons (pv 5) pa_nil))) (pe_slice (r := rCut K) sl_cut (pv 1) (po_some (pe_op (r := rPlus K) op_plus (pv 4) pe_int)) po_none)) pa_nil)))))))
    (pss_one (ps_ret (pe_op (r := rPlus K) op_plus (pv 2) (pe_lst (pa_cons (pe_op (r := rPlus K) op_plus (pe_slice (r := rCut K) sl_cut (pv 1) po_none (po_some pe_int)) (pe_tup (pa_cons pe_int pa_nil))) (pa_cons (pe_op (r := rPlus K) op_plus (pe_slice (r := rCut K) sl_cut (pv 1) po_none (po_some pe_int)) (pe_tup (pa_cons pe_int pa_nil))) (pa_cons (pe_op (r := rPlus K) op_plus (pe_slice (r := rCut K) sl_cut (pv 1) po_none (po_some pe_int)) (pe_tup (pa_cons pe_non pa_nil))) (pa_cons (pv 1) pa_nil))))))))))), ?_⟩
    refine at_start (show L2.start _ [_] = [some _, none, none, none, none, none] from rfl) ?_
    repeat' (walk_at "S")
    rename_i a Ha a0 a1 ka da b Hb b0 b1 kb db o no l nl D nD
    have kp1 : Keep p H (upd (upd Hb o (.tup [.int a, .int (1 + b), .bl false])) l (.lst [.int 0, .int 1, .int 12, .int 13])) := by walk_at "KP"
    have dr1 : Dr p (upd (upd Hb o (.tup [.int a, .int (1 + b), .bl false])) l (.lst [.int 0, .int 1, .int 12, .int 13])) := by walk_at "DR"
    have hO : (upd (upd Hb o (.tup [.int a, .int (1 + b), .bl false])) l (.lst [.int 0, .int 1, .int 12, .int 13])) o = some (.tup [.int a, .int (1 + b), .bl false]) := by walk_at "G"
    have hL : (upd (upd Hb o (.tup [.int a, .int (1 + b), .bl false])) l (.lst [.int 0, .int 1, .int 12, .int 13])) l = some (.lst [.int 0, .int 1, .int 12, .int 13]) := upd_same
    generalize upd (upd Hb o (.tup [.int a, .int (1 + b), .bl false])) l (.lst [.int 0, .int 1, .int 12, .int 13]) = H1 at *
    have nop : o ≠ p := dr1.neT hO
    have nDp : D ≠ p := dr1.ne nD
    have nlp : l ≠ p := by
      intro e
      obtain ⟨x, y, g, _⟩ := dr1
      rw [e, g] at hL
      cases hL
    refine lc_list (xs := [.int 0, .int 1, .int 12, .int 13]) (fun i H' => Keep p H1 H' ∧ Dr p H' ∧ Grow p D H' i (61 * i)) ⟨Keep.newF (Keep.refl _ _) nD, dr1.new nD, ⟨[], [], upd_same, rfl, .nil, FtAll.nil⟩⟩ (fun i H' _ h => SqL.of (h.1 _ _ nlp hL)) ?_ ?_
    · rintro i x H' hx ⟨k, dr, g⟩
      obtain ⟨z, rfl, z0, z1⟩ : ∃ z : Int, x = .int z ∧ 0 ≤ z ∧ z ≤ 13 := by
        have := List.mem_of_getElem? hx
        simp only [List.mem_cons, List.not_mem_nil, or_false] at this
        rcases this with h | h | h | h <;> exact ⟨_, h, by decide, by decide⟩
      have hi : i < 4 := (List.getElem?_eq_some_iff.mp hx).1
      have hO' := k _ _ nop hO
      repeat' (walk_at "S")
      rename_i t1 n1 t H2 sm ht
      have sm2 : Same H' H2 := (Same.newF (Same.refl _) n1).trans sm
      have dr2 := dr.same sm2
      have g2 := g.same sm2
      obtain ⟨_, _, hf0, _⟩ := g2.ex
      have hv := Dt.tupC dr2 hf0 ht (DtAll.rep (Dt.tupC dr2 hf0 (sm2 _ _ hO') (.cons (.int a) (.cons (.int (1 + b)) (.cons (.bl false) .nil)))) z.toNat)
      have fv : Ft (10 ^ 30) 4 60 (.tuple (List.replicate z.toNat (.tuple [.int a, .int (1 + b), .bool false]))) := ((FtAll.rep (ft3 (by omega) (by omega) Ft.bl) _).tup).mono (Nat.le_refl _) (by decide) (by omega)
      obtain ⟨acc, hf, hl, g3⟩ := g2.add nDp hv fv
      exact ⟨acc, hf, Nat.lt_of_lt_of_le (show acc.length < 4 by omega) (by decide), (k.trans (Keep.of sm2)).overF nD, dr2.other nDp.symm, g3⟩
    · rintro H' ⟨k, dr, g⟩
      have hO' := k _ _ nop hO
      obtain ⟨xs, ds, hD, lx, da', ft⟩ := g.ex
      have lx4 : xs.length = 4 := lx
      repeat' (walk_at "S")
      rename_i t1 n1 t2 n2 t3 n3 t4 n4 l2 nl2 f nf
      have nfp : f ≠ p := by walk_at "NE"
      have nf1 : Fre H1 f := by walk_at "FR"
      have oneF : Ft (10 ^ 30) 1 3 (.tuple [.int a, .int (1 + b), .bool false]) := ft3 (by omega) (by omega) Ft.bl
      have f2 : ∀ c : Int, c.natAbs ≤ 1000 → Ft (10 ^ 30) 4 8 (.tuple [.tuple [.int a, .int (1 + b), .bool false], .tuple [.int c, .int 5, .bool true]]) := fun c hc =>
        ((FtAll.cons oneF (FtAll.cons (ft3 hc (by decide) Ft.bl) (FtAll.nil (b := 0)))).tup).mono (Nat.le_refl _) (by decide) (by decide)
      refine for_rng (fun i σ H' => ∃ v3 v4 v5, σ = [some (.ref p), some (.ref o), some (.ref f), v3, v4, v5] ∧ Keep p H1 H' ∧ Dr p H' ∧ Grow p f H' (6 + 4 * i) (262 + 16 * i))
        ⟨none, none, none, rfl, by walk_at "KP", by walk_at "DR", ⟨xs ++ [.ref t2, .ref t4], ds ++ [.tuple [.tuple [.int a, .int (1 + b), .bool false], .tuple [.int (a - 1), .int 5, .bool true]], .tuple [.tuple [.int a, .int (1 + b), .bool false], .tuple [.int a, .int 5, .bool true]]], upd_same, ?_, ?_, ?_⟩⟩ ?_ ?_
      · rw [List.length_append, lx4]; rfl
      · refine DtAll.append ((da'.keep Cut.sub).keep (Cut.into (by walk_at "KP") nf)) (.cons ?_ (.cons ?_ .nil))
        · exact Dt.tupC (by walk_at "DR") upd_same (by walk_at "G") (.cons (Dt.tupC (by walk_at "DR") upd_same (by walk_at "G") (.cons (.int _) (.cons (.int _) (.cons (.bl _) .nil)))) (.cons (Dt.tupC (by walk_at "DR") upd_same (by walk_at "G") (.cons (.int _) (.cons (.int _) (.cons (.bl _) .nil)))) .nil))
        · exact Dt.tupC (by walk_at "DR") upd_same (by walk_at "G") (.cons (Dt.tupC (by walk_at "DR") upd_same (by walk_at "G") (.cons (.int _) (.cons (.int _) (.cons (.bl _) .nil)))) (.cons (Dt.tupC (by walk_at "DR") upd_same (by walk_at "G") (.cons (.int _) (.cons (.int _) (.cons (.bl _) .nil)))) .nil))
      · exact (FtAll.append ft (FtAll.cons (f2 _ (by omega)) (FtAll.cons (f2 _ (by omega)) (FtAll.nil (b := 0))))).mono (Nat.le_refl _) (Nat.le_refl _) (by decide)
      · rintro i σ H3 hi ⟨v3, v4, v5, rfl, k3, dr3, g3⟩
        obtain ⟨j, hj⟩ : ∃ j : Int, j = 0 + (i : Int) := ⟨_, rfl⟩
        rw [← hj]
        have hj2 : j = 0 ∨ j = 1 := by omega
        have hO3 := k3 _ _ nop hO
        obtain ⟨xs3, ds3, hf3, _⟩ := g3.ex
        rcases hj2 with h | h
        · subst h
          repeat' (walk_at "S")
          rename_i la na lb nb lc nc
          have nef : la ≠ f := by walk_at "NE"
          refine for_lst (xs := [.int (-1), .int 0, .int 200, .int 201]) (fun i' σ H' => ∃ v3 v5, σ = [some (.ref p), some (.ref o), some (.ref f), v3, some (.int 0), v5] ∧ Keep p H1 H' ∧ Dr p H' ∧ H' la = some (.lst [.int (-1), .int 0, .int 200, .int 201]) ∧ Grow p f H' (6 + 4 * i + i') (262 + 16 * i + 4 * i'))
            ⟨v3, v5, rfl, by walk_at "KP", by walk_at "DR", by walk_at "G", g3.same (by walk_at "SM")⟩ (fun _ _ _ _ h => by obtain ⟨_, _, _, _, _, e, _⟩ := h; exact SqL.of e) ?_ ?_
          · rintro i' x σ H4 hx ⟨v3, v5, rfl, k4, dr4, hlx, g4⟩
            obtain ⟨z, rfl, z0, z1⟩ : ∃ z : Int, x = .int z ∧ -1 ≤ z ∧ z ≤ 201 := by
              have := List.mem_of_getElem? hx
              simp only [List.mem_cons, List.not_mem_nil, or_false] at this
              rcases this with h | h | h | h <;> exact ⟨_, h, by decide, by decide⟩
            have hi' : i' < 4 := (List.getElem?_eq_some_iff.mp hx).1
            have hO4 := k4 _ _ nop hO
            obtain ⟨xs4, ds4, hf4, lx4, da4, ft4⟩ := g4.ex
            repeat' (walk_at "S")
            rename_i t1 H5 s5 g5 t2 n2 t3 H6 s6 g6 t4 H7 s7 g7 t5 H8 s8 g8
            have sm : Same H4 H8 := by walk_at "SM"
            have dr8 := dr4.same sm
            have hf8 := sm _ _ hf4
            obtain ⟨acc, ha, _, gg⟩ := (g4.same sm).add (v := .ref t5) (d := .tuple [.int z, .int (1 + b), .bool false]) (c := 3) nfp (Dt.tupC dr8 hf8 g8 (.cons (.int _) (.cons (.int _) (.cons (.bl _) .nil)))) ((ft3 (by omega) (by omega) Ft.bl).mono (Nat.le_refl _) (by decide) (by decide))
            obtain rfl : acc = xs4 := by
              rw [hf8] at ha
              cases ha
              rfl
            exact ⟨v3, _, rfl, (k4.trans (Keep.of sm)).overF nf1, dr8.other nfp.symm, g_other nef (sm _ _ hlx), gg⟩
          · rintro σ H5 ⟨v3, v5, rfl, k5, dr5, hlx, g5⟩
            refine ⟨v3, _, v5, rfl, k5, dr5, ?_⟩
            rw [show 6 + 4 * (i + 1) = 6 + 4 * i + 4 by omega, show 262 + 16 * (i + 1) = 262 + 16 * i + 4 * 4 by omega]
            exact g5
        · subst h
          repeat' (walk_at "S")
          rename_i la na lb nb lc nc
          have nef : lb ≠ f := by walk_at "NE"
          refine for_lst (xs := [.int 0, .int 1, .int 100, .int 101]) (fun i' σ H' => ∃ v3 v5, σ = [some (.ref p), some (.ref o), some (.ref f), v3, some (.int 1), v5] ∧ Keep p H1 H' ∧ Dr p H' ∧ H' lb = some (.lst [.int 0, .int 1, .int 100, .int 101]) ∧ Grow p f H' (6 + 4 * i + i') (262 + 16 * i + 4 * i'))
            ⟨v3, v5, rfl, by walk_at "KP", by walk_at "DR", by walk_at "G", g3.same (by walk_at "SM")⟩ (fun _ _ _ _ h => by obtain ⟨_, _, _, _, _, e, _⟩ := h; exact SqL.of e) ?_ ?_
          · rintro i' x σ H4 hx ⟨v3, v5, rfl, k4, dr4, hlx, g4⟩
            obtain ⟨z, rfl, z0, z1⟩ : ∃ z : Int, x = .int z ∧ -1 ≤ z ∧ z ≤ 201 := by
              have := List.mem_of_getElem? hx
              simp only [List.mem_cons, List.not_mem_nil, or_false] at this
              rcases this with h | h | h | h <;> exact ⟨_, h, by decide, by decide⟩
            have hi' : i' < 4 := (List.getElem?_eq_some_iff.mp hx).1
            have hO4 := k4 _ _ nop hO
            obtain ⟨xs4, ds4, hf4, lx4, da4, ft4⟩ := g4.ex
            repeat' (walk_at "S")
            rename_i t1 H5 s5 g5 t2 n2 t3 H6 s6 g6 t4 H7 s7 g7 t5 H8 s8 g8
            have sm : Same H4 H8 := by walk_at "SM"
            have dr8 := dr4.same sm
            have hf8 := sm _ _ hf4
            obtain ⟨acc, ha, _, gg⟩ := (g4.same sm).add (v := .ref t5) (d := .tuple [.int a, .int z, .bool false]) (c := 3) nfp (Dt.tupC dr8 hf8 g8 (.cons (.int _) (.cons (.int _) (.cons (.bl _) .nil)))) ((ft3 (by omega) (by omega) Ft.bl).mono (Nat.le_refl _) (by decide) (by decide))
            obtain rfl : acc = xs4 := by
              rw [hf8] at ha
              cases ha
              rfl
            exact ⟨v3, _, rfl, (k4.trans (Keep.of sm)).overF nf1, dr8.other nfp.symm, g_other nef (sm _ _ hlx), gg⟩
          · rintro σ H5 ⟨v3, v5, rfl, k5, dr5, hlx, g5⟩
            refine ⟨v3, _, v5, rfl, k5, dr5, ?_⟩
            rw [show 6 + 4 * (i + 1) = 6 + 4 * i + 4 by omega, show 262 + 16 * (i + 1) = 262 + 16 * i + 4 * 4 by omega]
            exact g5
      · rintro σ H9 ⟨v3, v4, v5, rfl, k9, dr9, g9⟩
        have hO9 := k9 _ _ nop hO
        obtain ⟨xs9, ds9, hf9, lx9, da9, ft9⟩ := g9.ex
        have lx14 : xs9.length = 14 := lx9
        repeat' (walk_at "S")
        rename_i c1 hA s1 g1 u1 n1 w1 hB s2 g2 c2 hC s3 g3 u2 n2 w2 hE s4 g4 c3 hF s5 g5 u3 n3 w3 hG s6 g6 l nl t nt
        have sm : Same H9 (upd (upd hG l (.lst [.ref w1, .ref w2, .ref w3, .ref o])) t (.lst (xs9 ++ [.ref w1, .ref w2, .ref w3, .ref o]))) := by walk_at "SM"
        have sm0 : Same H9 (upd hG l (.lst [.ref w1, .ref w2, .ref w3, .ref o])) := by walk_at "SM"
        have dr := dr9.same sm
        have ntp : t ≠ p := (dr9.same sm0).ne nt
        refine q t _ (ds9 ++ [.tuple [.int a, .int (1 + b), .int 0], .tuple [.int a, .int (1 + b), .int 1], .tuple [.int a, .int (1 + b), .none], .tuple [.int a, .int (1 + b), .bool false]]) _ (Keep.freeF (kp1.trans (k9.trans (Keep.of sm0))) ntp nt) (kp1.trans (k9.trans (Keep.of sm))) dr ntp upd_same ?_ ?_ ?_
        · rw [List.length_append, lx14]; show 14 + 4 ≤ 40; decide
        · refine DtAll.append ((da9.keep Cut.sub).keep (Keep.of sm)) (.cons ?_ (.cons ?_ (.cons ?_ (.cons ?_ .nil))))
          · exact Dt.tupK dr (xs := [.int a, .int (1 + b)] ++ [.int 0]) (by walk_at "G") (.cons (.int _) (.cons (.int _) (.cons (.int _) .nil)))
          · exact Dt.tupK dr (xs := [.int a, .int (1 + b)] ++ [.int 1]) (by walk_at "G") (.cons (.int _) (.cons (.int _) (.cons (.int _) .nil)))
          · exact Dt.tupK dr (xs := [.int a, .int (1 + b)] ++ [.non]) (by walk_at "G") (.cons (.int _) (.cons (.int _) (.cons .non .nil)))
          · exact Dt.tupK dr (sm _ _ hO9) (.cons (.int _) (.cons (.int _) (.cons (.bl _) .nil)))
        · have f3 : ∀ x, Ft (10 ^ 30) 0 0 x → Ft (10 ^ 30) 4 3 (.tuple [.int a, .int (1 + b), x]) := fun x hx => (ft3 (by omega) (by omega) hx).mono (Nat.le_refl _) (by decide) (Nat.le_refl _)
          exact (FtAll.append ft9 (FtAll.cons (f3 _ (Ft.int (by decide))) (FtAll.cons (f3 _ (Ft.int (by decide))) (FtAll.cons (f3 _ Ft.non) (FtAll.cons (f3 _ Ft.bl) (FtAll.nil (b := 0))))))).mono (Nat.le_refl _) (by decide) (by decide)
end
section
theorem cut_one (x : V) (xs : List V) : cutV (x :: xs) none (some 1) = [x] := by
  show ((x :: xs).drop 0).take (min 1 (xs.length + 1) - 0) = [x]
  have : min 1 (xs.length + 1) = 1 := by omega
  rw [Nat.sub_zero, this]
  rfl
theorem sql_same {K : PySem.W.Frag} {H H' : Hp} {a : Addr} {xs : List V} (s : Same H H') (h : SqL K H a xs) : SqL K H' a xs :=
  h.elim (fun h => .inl (h.elim (fun e => .inl (s _ _ e)) fun ⟨o, e⟩ => .inr ⟨o, s _ _ e⟩)) .inr
theorem Same.ofKeep {p : Addr} {H H1 H' : Hp} (s : Same H H1) (n : Fre H p) (k : Keep p H1 H') : Same H H' := fun b o h =>
  k b o (ne_of_none h n.no) (s b o h)
end
local macro_rules | `(tactic| walk_at "S") => `(tactic| first
  | ((with_reducible refine' c__law_spoilt ?h ?hd ?f ?n0 ?n2 ?h1 ?h2 ?h5 ?_); (case h => walk_at "DR"); (case hd => walk_at "DT"); (case f => assumption); (case n0 => decide); (case n2 => decide); (case h1 => first | omega | decide); (case h2 => decide); (case h5 => first | omega | decide); intro _ _ _ _ _ _ _)
  | ((with_reducible refine' r_plusTU ?h ?k ?e ?_); (case h => walk_at "G"); (case k => walk_at "G"); (case e => walk_at "AR"); intro _ _ _ _)
  | ((with_reducible refine' r_cutTU ?h ?_); (case h => walk_at "G"); intro _ _ _ _))
section
variable {P : Program} {w : World} {K : PySem.W.Frag} {mg : Str → Option Value} {base : Heap}
theorem sc_law : FnScope ["_law_script", "_law_k", "_law_state_here", "_law_tasks", "_law_once", "_law_some", "_law_thing"] ["_law_script"] (defScope (top 27)) := ⟨rfl, rfl, rfl, by decide +kernel, rfl, by decide +kernel, by decide +kernel⟩
theorem ok_law (T : Tx K mg) (G__law_bounds : Fg P w K mg base CX0 2 T.f__law_bounds T.fd__law_bounds ["_law_state_here"] (sp__law_bounds K)) (G__law_odd : Fg P w K mg base CX0 2 T.f__law_odd T.fd__law_odd ["_law_state_here"] (sp__law_odd K)) (G__law_right : Fg P w K mg base CX0 6 T.f__law_right T.fd__law_right ["_law_thing"] (sp__law_right K)) (G__law_spoilt : Fg P w K mg base CX0 5 T.f__law_spoilt T.fd__law_spoilt ["_law_state_here", "_law_thing", "_law_deep"] (sp__law_spoilt K)) (G__law_state : Fg P w K mg base CX0 2 T.f__law_state T.fd__law_state ["_law_script", "_law_k"] (sp__law_state K)) (G__law_works : Fg P w K mg base CX0 2 T.f__law_works T.fd__law_works ["_law_state_here", "_law_most"] (sp__law_works K)) :
    Fg P w K mg base CX0 7 T.f_law T.fd_law ["_law_script"] (sp_law K) := by
  refine fg_of0 T.F_law sc_law (fun vs H Q E h => ?_) (fun cdv A outer s H vs Q E hr hg h => ?_)
  · obtain ⟨a, ns, rfl, _⟩ := h
    rfl
  · obtain ⟨a, ns, rfl, hs, hl, q⟩ := h
    refine ⟨_, (pss_cons (ps_for PassesOwn.never rfl (pi_range1 rfl T.m_range (pa_cons (pe_callB (call_most rfl) (by rfl) T.m_max (by decide +kernel) (pa_cons pe_int (pa_cons (pe_callB (call_least rfl) (by rfl) T.m_min (by decide +kernel) (pa_cons (pe_callB (r := rLen K) call_size (by rfl) T.m_len (by decide +kernel) (pa_cons (pv 0) pa_nil)) (pa_cons pe_int pa_nil))) pa_nil))) pa_nil)) (pg_name (i := 1) sc_law.nd rfl (by first | exact Or.inl rfl | exact Or.inr rfl))
    (pss_cons (ps_set (i := 2) sc_law.nd rfl (by first | exact Or.inl rfl | exact Or.inr rfl) (pg_call G__law_state (hr.mono (by decide)) hg rfl T.m__law_state T.F__law_state.kp T.b__law_state .nil pass0 (pa_cons (pv 0) (pa_cons (pv 1) pa_nil))))
    (pss_cons (ps_set (i := 3) sc_law.nd rfl (by first | exact Or.inl rfl | exact Or.inr rfl) (pg_call G__law_works (hr.mono (by decide)) hg rfl T.m__law_works T.F__law_works.kp T.b__law_works .nil pass0 (pa_cons (pv 2) (pa_cons pe_int pa_nil))))
    (pss_cons (ps_set (i := 4) sc_law.nd rfl (by first | exact Or.inl rfl | exact Or.inr rfl) (pg_call G__law_spoilt (hr.mono (by decide)) hg rfl T.m__law_spoilt T.F__law_spoilt.kp T.b__law_spoilt .nil pass0 (pa_cons (pv 2) (pa_cons (pv 3) (pa_cons pe_int pa_nil)))))
    (pss_cons (ps_set (i := 5) sc_law.nd rfl (by first | exact Or.inl rfl | exact Or.inr rfl) (pe_lst (pa_cons (pv 3) (pa_cons (pe_ix (r := rIx K) ix_seq (pv 3) pe_int (fun _ _ => rfl)) (pa_cons (pv 4) (pa_cons (pg_call G__law_spoilt (hr.mono (by decide)) hg rfl T.m__law_spoilt T.F__law_spoilt.kp T.b__law_spoilt .nil pass0 (pa_cons (pv 2) (pa_cons (pv 4) (pa_cons pe_int pa_nil)))) (pa_cons (pg_call G__law_spoilt (hr.mono (by decide)) hg rfl T.m__law_spoilt T.F__law_spoilt.kp T.b__law_spoilt .nil pass0 (pa_cons (pv 2) (pa_cons (pe_ix (r := rIx K) ix_seq (pv 3) pe_int (fun _ _ => rfl)) (pa_cons pe_int pa_nil)))) (pa_cons (pe_rev (pv 3)) pa_nil))))))))
    (pss_cons (ps_set (i := 5) sc_law.nd rfl (by first | exact Or.inl rfl | exact Or.inr rfl) (pe_op (r := rPlus K) op_plus (pe_op (r := rPlus K) op_plus (pv 5) (pe_lst (pa_cons (pe_callTy (r := rListOf K) call_listed (by rfl) T.m_list (by decide +kernel) (pa_cons (pv 3) pa_nil)) (pa_cons (pe_op (r := rPlus K) op_plus (pv 3) (pe_slice (r := rCut K) sl_cut (pv 3) po_none (po_some pe_int))) (pa_cons (pg_call G__law_odd (hr.mono (by decide)) hg rfl T.m__law_odd T.F__law_odd.kp T.b__law_odd .nil pass0 (pa_cons (pv 2) pa_nil)) pa_nil))))) (pg_call G__law_bounds (hr.mono (by decide)) hg rfl T.m__law_bounds T.F__law_bounds.kp T.b__law_bounds .nil pass0 (pa_cons (pv 2) pa_nil))))
    (pss_one (ps_if (pt_not (pt_val (pe_callB (r := rAll K) (cr_all rfl) (by rfl) T.m_all (by decide +kernel) (pa_cons (pe_lc (own := [("_law_thing", 6)]) (g := gName 6) (tt := tYes) rfl sc_law.nd (pi_list (pv 5)) (blkOk_by (N := ["_law_script", "_law_k", "_law_state_here", "_law_tasks", "_law_once", "_law_some", "_law_thing"]) (sc := defScope (top 27)) (by decide +kernel)) (fun _ _ _ _ _ => (pg_name (i := 6) sc_law.nd rfl (by first | exact Or.inl rfl | exact Or.inr rfl))) (fun _ _ _ _ _ => pts_nil) (fun _ _ _ _ _ => (pg_call G__law_right (hr.mono (by decide)) hg rfl T.m__law_right T.F__law_right.kp T.b__law_right .nil pass0 (pa_cons (pv 6) pa_nil)))) pa_nil))))
    (pss_one (ps_ret pe_bl))
    pss_nil))))))))
    (pss_one (ps_ret pe_bl))), ?_⟩
    refine at_start (show L2.start _ [_] = [some _, none, none, none, none, none, none] from rfl) ?_
    repeat' (walk_at "S")
    refine for_rng (fun i σ H' => ∃ v1 v2 v3 v4 v5 v6, σ = [some (.ref a), v1, v2, v3, v4, v5, v6] ∧ Same H H') ⟨_, _, _, _, _, _, rfl, Same.refl H⟩ ?_ ?_
    · rintro i σ H1 hi ⟨v1, v2, v3, v4, v5, v6, rfl, s1⟩
      have hs1 : SqL K H1 a (ns.map V.int) := sql_same s1 hs
      have hi0 : 0 ≤ (0 : Int) + (i : Int) := by omega
      repeat' (walk_at "S")
      rename_i p H2 np s2 d2 t x xs ds H3 k3 d3 ntp ht da fa
      have mk : Mark p := ⟨⟩
      have hlen : xs.length + 1 ≤ 100 := by
        have e := da.length
        have e2 := bulk_length ds
        have e3 := fa.bk
        rw [List.length_cons] at e
        omega
      obtain ⟨d0, ds', rfl, dx, dxs⟩ : ∃ d0 ds', ds = d0 :: ds' ∧ Dt H3 p x d0 ∧ DtAll H3 p xs ds' := by
        cases da with
        | cons u v => exact ⟨_, _, rfl, u, v⟩
      have dT : Dt H3 p (.ref t) (.tuple (d0 :: ds')) := Dt.tup ntp ht da
      have fT : Ft (10 ^ 30) 4 100 (.tuple (d0 :: ds')) := fa.tup
      have fx : Ft (10 ^ 30) 3 99 d0 := fa.mem List.mem_cons_self
      have hc1 : (cutV (x :: xs) none (some 1)).length ≤ 1 := by rw [cut_one]; exact Nat.le_refl _
      repeat' (walk_at "S")
      rename_i v2 d2 H4 k4 dr4 dv2 f2 v3 d3 H5 k5 dr5 dv3 f3 v4 d4 H6 k6 dr6 dv4 f4 rv nrv l1 nl1 lt nlt c1 H7 s7 g7 c2 H8 s8 g8 v5 d5 H9 k9 dr9 du5 dv5 f5 l2 nl2 l3 nl3 t6 xs6 ds6 H10 fr6 k10 dr10 n6 h6 len6 da6 fa6 l4 nl4 D nD
      rw [cut_one] at g8
      have dr8 : Dr p H8 := by walk_at "DR"
      have nc2 : c2 ≠ p := dr8.neT g8
      have drz := dr10.new (o := .lst (([.ref t, x, v2, v3, v4, .ref rv] ++ [.ref lt, .ref c2, v5]) ++ xs6)) nl4
      have dall : DtAll (upd H10 l4 (.lst (([.ref t, x, v2, v3, v4, .ref rv] ++ [.ref lt, .ref c2, v5]) ++ xs6))) p (([.ref t, x, v2, v3, v4, .ref rv] ++ [.ref lt, .ref c2, v5]) ++ xs6) (([.tuple (d0 :: ds'), d0, d2, d3, d4, .tuple (d0 :: ds').reverse] ++ [.list (d0 :: ds'), .tuple ((d0 :: ds') ++ [d0]), d5]) ++ ds6) := by
        refine DtAll.append (DtAll.append (.cons ?_ (.cons ?_ (.cons ?_ (.cons ?_ (.cons ?_ (.cons ?_ .nil)))))) (.cons ?_ (.cons ?_ (.cons ?_ .nil)))) (da6.keep ?_)
        · walk_at "DT"
        · walk_at "DT"
        · walk_at "DT"
        · walk_at "DT"
        · walk_at "DT"
        · exact Dt.tupK drz (xs := (x :: xs).reverse) (by walk_at "G") (DtAll.reverse (da.keep (by walk_at "KP")))
        · exact Dt.there (Dr.ne (by walk_at "DR") nlt) (show _ = some (HO.lst (x :: xs)) by walk_at "G") (.lst (da.keep (by walk_at "KP")))
        · exact Dt.tupK drz (xs := (x :: xs) ++ [x]) (by walk_at "G") (DtAll.append (da.keep (by walk_at "KP")) (.cons (dx.keep (by walk_at "KP")) .nil))
        · walk_at "DT"
        · walk_at "KP"
      have up : ∀ {N m b : Nat} {d : PyData}, Ft N m b d → N ≤ 10 ^ 30 + 402 → m ≤ 20 → Ft (10 ^ 30 + 402) 20 b d := fun f h1 h2 => f.mono h1 h2 (Nat.le_refl _)
      have fall : FtAll (10 ^ 30 + 402) 20 3000 (([.tuple (d0 :: ds'), d0, d2, d3, d4, .tuple (d0 :: ds').reverse] ++ [.list (d0 :: ds'), .tuple ((d0 :: ds') ++ [d0]), d5]) ++ ds6) := by
        refine (FtAll.append (FtAll.append (FtAll.cons (up fT ?_ ?_) (FtAll.cons (up fx ?_ ?_) (FtAll.cons (up f2 ?_ ?_) (FtAll.cons (up f3 ?_ ?_) (FtAll.cons (up f4 ?_ ?_) (FtAll.cons (up fa.reverse.tup ?_ ?_) (FtAll.nil (b := 0))))))))
          (FtAll.cons (up fa.lst ?_ ?_) (FtAll.cons (up (FtAll.append fa (FtAll.cons fx (FtAll.nil (b := 0)))).tup ?_ ?_) (FtAll.cons (up f5 ?_ ?_) (FtAll.nil (b := 0)))))) (fa6.mono ?_ ?_ (Nat.le_refl _))).mono (Nat.le_refl _) (Nat.le_refl _) ?_
        all_goals decide
      have hwl : (([.ref t, x, v2, v3, v4, .ref rv] ++ [.ref lt, .ref c2, v5]) ++ xs6).length ≤ 100 := by
        simp only [List.length_append, List.length_cons, List.length_nil]; omega
      have h4z : upd H10 l4 (.lst (([.ref t, x, v2, v3, v4, .ref rv] ++ [.ref lt, .ref c2, v5]) ++ xs6)) l4 = some (.lst (([.ref t, x, v2, v3, v4, .ref rv] ++ [.ref lt, .ref c2, v5]) ++ xs6)) := upd_same
      have nl4p : l4 ≠ p := dr10.ne nl4
      have kz0 : Keep p H2 (upd H10 l4 (.lst (([.ref t, x, v2, v3, v4, .ref rv] ++ [.ref lt, .ref c2, v5]) ++ xs6))) := by walk_at "KP"
      generalize upd H10 l4 (.lst (([.ref t, x, v2, v3, v4, .ref rv] ++ [.ref lt, .ref c2, v5]) ++ xs6)) = Hz at *
      generalize ([.ref t, x, v2, v3, v4, .ref rv] ++ [.ref lt, .ref c2, v5]) ++ xs6 = ws at *
      generalize ([.tuple (d0 :: ds'), d0, d2, d3, d4, .tuple (d0 :: ds').reverse] ++ [.list (d0 :: ds'), .tuple ((d0 :: ds') ++ [d0]), d5]) ++ ds6 = es at *
      have nDp : D ≠ p := drz.ne nD
      refine lc_list (xs := ws) (fun i H' => Keep p Hz H' ∧ Dr p H' ∧ H' D = some (.lst ((List.replicate i true).map V.bl))) ⟨Keep.newF (Keep.refl _ _) nD, drz.new nD, upd_same⟩ (fun _ _ _ h => SqL.of (h.1 _ _ nl4p h4z)) ?_ ?_
      · rintro i' z H' hz ⟨kz, drz', hD⟩
        obtain ⟨d, hd, dz⟩ := dall.get hz
        have dz' := dz.keep kz
        have fz := fall.mem (List.mem_of_getElem? hd)
        have hi' : i' < ws.length := (List.getElem?_eq_some_iff.mp hz).1
        repeat' (walk_at "S")
        rename_i H'' sm
        refine ⟨_, sm _ _ hD, ?_, (kz.trans (Keep.of sm)).overF nD, (drz'.same sm).other nDp.symm, ?_⟩
        · rw [List.length_map, List.length_replicate]
          exact Nat.lt_of_lt_of_le (show i' < 100 by omega) (by decide)
        · rw [upd_same, List.replicate_succ', List.map_append]; rfl
      · rintro H' ⟨kz, drz', hD⟩
        repeat' (walk_at "S")
        refine r_all hD ?_
        have e : (List.replicate ws.length true).all id = true := by simp
        rw [e]
        repeat' (walk_at "S")
        exact ⟨_, _, _, _, _, _, rfl, fun b o h => (kz0.trans kz) b o (ne_of_none (s1 _ _ h) np.no) (s2 _ _ (s1 _ _ h))⟩
    · rintro σ H1 ⟨v1, v2, v3, v4, v5, v6, rfl, s1⟩
      repeat' (walk_at "S")
      exact q _
end
theorem all_mk {l : PySem.W.OpenLaw} {w : World} {K : PySem.W.Frag} {h : Heap} {mg : Str → Option Value} {fa : Addr} (X : K.In h) (G : h.Ns mainGlobals mg) (hfa : mg "law" = some (.ref fa))
    {f0 : Addr} {od0 an0 : Option Addr} {sl0 : Array (Option Value)} {oc0 kV0 dc0 pm0 cd0 ct0 : Value}
    (a0 : PySem.W.nsIn K mainGlobals "has_parts" = some (some (.ref f0))) (l0 : K.lookup f0 = some ⟨oc0, od0, .func (PySem.W.fnOf "has_parts" "has_parts" (defArgs (top 1)) (defBody (top 1)) (defScope (top 1)) .none kV0 dc0 pm0 an0 cd0 ct0), sl0⟩) (c0 : PySem.W.codeIn K cd0 "has_parts" = true) (k0 : PySem.W.keepIn K (.ref f0) = true)
    {f1 : Addr} {od1 an1 : Option Addr} {sl1 : Array (Option Value)} {oc1 kV1 dc1 pm1 cd1 ct1 : Value}
    (a1 : PySem.W.nsIn K mainGlobals "never_falls" = some (some (.ref f1))) (l1 : K.lookup f1 = some ⟨oc1, od1, .func (PySem.W.fnOf "never_falls" "never_falls" (defArgs (top 2)) (defBody (top 2)) (defScope (top 2)) .none kV1 dc1 pm1 an1 cd1 ct1), sl1⟩) (c1 : PySem.W.codeIn K cd1 "never_falls" = true) (k1 : PySem.W.keepIn K (.ref f1) = true)
    {f2 : Addr} {od2 an2 : Option Addr} {sl2 : Array (Option Value)} {oc2 kV2 dc2 pm2 cd2 ct2 : Value}
    (a2 : PySem.W.nsIn K mainGlobals "is_whole_from" = some (some (.ref f2))) (l2 : K.lookup f2 = some ⟨oc2, od2, .func (PySem.W.fnOf "is_whole_from" "is_whole_from" (defArgs (top 4)) (defBody (top 4)) (defScope (top 4)) .none kV2 dc2 pm2 an2 cd2 ct2), sl2⟩) (c2 : PySem.W.codeIn K cd2 "is_whole_from" = true) (k2 : PySem.W.keepIn K (.ref f2) = true)
    {f3 : Addr} {od3 an3 : Option Addr} {sl3 : Array (Option Value)} {oc3 kV3 dc3 pm3 cd3 ct3 : Value}
    (a3 : PySem.W.nsIn K mainGlobals "is_whole_in" = some (some (.ref f3))) (l3 : K.lookup f3 = some ⟨oc3, od3, .func (PySem.W.fnOf "is_whole_in" "is_whole_in" (defArgs (top 5)) (defBody (top 5)) (defScope (top 5)) .none kV3 dc3 pm3 an3 cd3 ct3), sl3⟩) (c3 : PySem.W.codeIn K cd3 "is_whole_in" = true) (k3 : PySem.W.keepIn K (.ref f3) = true)
    {f4 : Addr} {od4 an4 : Option Addr} {sl4 : Array (Option Value)} {oc4 kV4 dc4 pm4 cd4 ct4 : Value}
    (a4 : PySem.W.nsIn K mainGlobals "is_day" = some (some (.ref f4))) (l4 : K.lookup f4 = some ⟨oc4, od4, .func (PySem.W.fnOf "is_day" "is_day" (defArgs (top 10)) (defBody (top 10)) (defScope (top 10)) .none kV4 dc4 pm4 an4 cd4 ct4), sl4⟩) (c4 : PySem.W.codeIn K cd4 "is_day" = true) (k4 : PySem.W.keepIn K (.ref f4) = true)
    {f5 : Addr} {od5 an5 : Option Addr} {sl5 : Array (Option Value)} {oc5 kV5 dc5 pm5 cd5 ct5 : Value}
    (a5 : PySem.W.nsIn K mainGlobals "is_work" = some (some (.ref f5))) (l5 : K.lookup f5 = some ⟨oc5, od5, .func (PySem.W.fnOf "is_work" "is_work" (defArgs (top 11)) (defBody (top 11)) (defScope (top 11)) .none kV5 dc5 pm5 an5 cd5 ct5), sl5⟩) (c5 : PySem.W.codeIn K cd5 "is_work" = true) (k5 : PySem.W.keepIn K (.ref f5) = true)
    {f6 : Addr} {od6 an6 : Option Addr} {sl6 : Array (Option Value)} {oc6 kV6 dc6 pm6 cd6 ct6 : Value}
    (a6 : PySem.W.nsIn K mainGlobals "are_works" = some (some (.ref f6))) (l6 : K.lookup f6 = some ⟨oc6, od6, .func (PySem.W.fnOf "are_works" "are_works" (defArgs (top 12)) (defBody (top 12)) (defScope (top 12)) .none kV6 dc6 pm6 an6 cd6 ct6), sl6⟩) (c6 : PySem.W.codeIn K cd6 "are_works" = true) (k6 : PySem.W.keepIn K (.ref f6) = true)
    {f7 : Addr} {od7 an7 : Option Addr} {sl7 : Array (Option Value)} {oc7 kV7 dc7 pm7 cd7 ct7 : Value}
    (a7 : PySem.W.nsIn K mainGlobals "_law_cell_at" = some (some (.ref f7))) (l7 : K.lookup f7 = some ⟨oc7, od7, .func (PySem.W.fnOf "_law_cell_at" "_law_cell_at" (defArgs (top 14)) (defBody (top 14)) (defScope (top 14)) .none kV7 dc7 pm7 an7 cd7 ct7), sl7⟩) (c7 : PySem.W.codeIn K cd7 "_law_cell_at" = true) (k7 : PySem.W.keepIn K (.ref f7) = true)
    {f8 : Addr} {od8 an8 : Option Addr} {sl8 : Array (Option Value)} {oc8 kV8 dc8 pm8 cd8 ct8 : Value}
    (a8 : PySem.W.nsIn K mainGlobals "_law_state" = some (some (.ref f8))) (l8 : K.lookup f8 = some ⟨oc8, od8, .func (PySem.W.fnOf "_law_state" "_law_state" (defArgs (top 15)) (defBody (top 15)) (defScope (top 15)) .none kV8 dc8 pm8 an8 cd8 ct8), sl8⟩) (c8 : PySem.W.codeIn K cd8 "_law_state" = true) (k8 : PySem.W.keepIn K (.ref f8) = true)
    {f9 : Addr} {od9 an9 : Option Addr} {sl9 : Array (Option Value)} {oc9 kV9 dc9 pm9 cd9 ct9 : Value}
    (a9 : PySem.W.nsIn K mainGlobals "_law_take" = some (some (.ref f9))) (l9 : K.lookup f9 = some ⟨oc9, od9, .func (PySem.W.fnOf "_law_take" "_law_take" (defArgs (top 16)) (defBody (top 16)) (defScope (top 16)) .none kV9 dc9 pm9 an9 cd9 ct9), sl9⟩) (c9 : PySem.W.codeIn K cd9 "_law_take" = true) (k9 : PySem.W.keepIn K (.ref f9) = true)
    {f10 : Addr} {od10 an10 : Option Addr} {sl10 : Array (Option Value)} {oc10 kV10 dc10 pm10 cd10 ct10 : Value}
    (a10 : PySem.W.nsIn K mainGlobals "_law_works" = some (some (.ref f10))) (l10 : K.lookup f10 = some ⟨oc10, od10, .func (PySem.W.fnOf "_law_works" "_law_works" (defArgs (top 17)) (defBody (top 17)) (defScope (top 17)) .none kV10 dc10 pm10 an10 cd10 ct10), sl10⟩) (c10 : PySem.W.codeIn K cd10 "_law_works" = true) (k10 : PySem.W.keepIn K (.ref f10) = true)
    {f11 : Addr} {od11 an11 : Option Addr} {sl11 : Array (Option Value)} {oc11 kV11 dc11 pm11 cd11 ct11 : Value}
    (a11 : PySem.W.nsIn K mainGlobals "_law_odd" = some (some (.ref f11))) (l11 : K.lookup f11 = some ⟨oc11, od11, .func (PySem.W.fnOf "_law_odd" "_law_odd" (defArgs (top 18)) (defBody (top 18)) (defScope (top 18)) .none kV11 dc11 pm11 an11 cd11 ct11), sl11⟩) (c11 : PySem.W.codeIn K cd11 "_law_odd" = true) (k11 : PySem.W.keepIn K (.ref f11) = true)
    {f12 : Addr} {od12 an12 : Option Addr} {sl12 : Array (Option Value)} {oc12 kV12 dc12 pm12 cd12 ct12 : Value}
    (a12 : PySem.W.nsIn K mainGlobals "_law_whole" = some (some (.ref f12))) (l12 : K.lookup f12 = some ⟨oc12, od12, .func (PySem.W.fnOf "_law_whole" "_law_whole" (defArgs (top 19)) (defBody (top 19)) (defScope (top 19)) .none kV12 dc12 pm12 an12 cd12 ct12), sl12⟩) (c12 : PySem.W.codeIn K cd12 "_law_whole" = true) (k12 : PySem.W.keepIn K (.ref f12) = true)
    {f13 : Addr} {od13 an13 : Option Addr} {sl13 : Array (Option Value)} {oc13 kV13 dc13 pm13 cd13 ct13 : Value}
    (a13 : PySem.W.nsIn K mainGlobals "_law_between" = some (some (.ref f13))) (l13 : K.lookup f13 = some ⟨oc13, od13, .func (PySem.W.fnOf "_law_between" "_law_between" (defArgs (top 20)) (defBody (top 20)) (defScope (top 20)) .none kV13 dc13 pm13 an13 cd13 ct13), sl13⟩) (c13 : PySem.W.codeIn K cd13 "_law_between" = true) (k13 : PySem.W.keepIn K (.ref f13) = true)
    {f14 : Addr} {od14 an14 : Option Addr} {sl14 : Array (Option Value)} {oc14 kV14 dc14 pm14 cd14 ct14 : Value}
    (a14 : PySem.W.nsIn K mainGlobals "_law_spoilt" = some (some (.ref f14))) (l14 : K.lookup f14 = some ⟨oc14, od14, .func (PySem.W.fnOf "_law_spoilt" "_law_spoilt" (defArgs (top 21)) (defBody (top 21)) (defScope (top 21)) .none kV14 dc14 pm14 an14 cd14 ct14), sl14⟩) (c14 : PySem.W.codeIn K cd14 "_law_spoilt" = true) (k14 : PySem.W.keepIn K (.ref f14) = true)
    {f15 : Addr} {od15 an15 : Option Addr} {sl15 : Array (Option Value)} {oc15 kV15 dc15 pm15 cd15 ct15 : Value}
    (a15 : PySem.W.nsIn K mainGlobals "_law_is_work" = some (some (.ref f15))) (l15 : K.lookup f15 = some ⟨oc15, od15, .func (PySem.W.fnOf "_law_is_work" "_law_is_work" (defArgs (top 22)) (defBody (top 22)) (defScope (top 22)) .none kV15 dc15 pm15 an15 cd15 ct15), sl15⟩) (c15 : PySem.W.codeIn K cd15 "_law_is_work" = true) (k15 : PySem.W.keepIn K (.ref f15) = true)
    {f16 : Addr} {od16 an16 : Option Addr} {sl16 : Array (Option Value)} {oc16 kV16 dc16 pm16 cd16 ct16 : Value}
    (a16 : PySem.W.nsIn K mainGlobals "_law_are_works" = some (some (.ref f16))) (l16 : K.lookup f16 = some ⟨oc16, od16, .func (PySem.W.fnOf "_law_are_works" "_law_are_works" (defArgs (top 23)) (defBody (top 23)) (defScope (top 23)) .none kV16 dc16 pm16 an16 cd16 ct16), sl16⟩) (c16 : PySem.W.codeIn K cd16 "_law_are_works" = true) (k16 : PySem.W.keepIn K (.ref f16) = true)
    {f17 : Addr} {od17 an17 : Option Addr} {sl17 : Array (Option Value)} {oc17 kV17 dc17 pm17 cd17 ct17 : Value}
    (a17 : PySem.W.nsIn K mainGlobals "_law_same" = some (some (.ref f17))) (l17 : K.lookup f17 = some ⟨oc17, od17, .func (PySem.W.fnOf "_law_same" "_law_same" (defArgs (top 24)) (defBody (top 24)) (defScope (top 24)) .none kV17 dc17 pm17 an17 cd17 ct17), sl17⟩) (c17 : PySem.W.codeIn K cd17 "_law_same" = true) (k17 : PySem.W.keepIn K (.ref f17) = true)
    {f18 : Addr} {od18 an18 : Option Addr} {sl18 : Array (Option Value)} {oc18 kV18 dc18 pm18 cd18 ct18 : Value}
    (a18 : PySem.W.nsIn K mainGlobals "_law_right" = some (some (.ref f18))) (l18 : K.lookup f18 = some ⟨oc18, od18, .func (PySem.W.fnOf "_law_right" "_law_right" (defArgs (top 25)) (defBody (top 25)) (defScope (top 25)) .none kV18 dc18 pm18 an18 cd18 ct18), sl18⟩) (c18 : PySem.W.codeIn K cd18 "_law_right" = true) (k18 : PySem.W.keepIn K (.ref f18) = true)
    {f19 : Addr} {od19 an19 : Option Addr} {sl19 : Array (Option Value)} {oc19 kV19 dc19 pm19 cd19 ct19 : Value}
    (a19 : PySem.W.nsIn K mainGlobals "_law_bounds" = some (some (.ref f19))) (l19 : K.lookup f19 = some ⟨oc19, od19, .func (PySem.W.fnOf "_law_bounds" "_law_bounds" (defArgs (top 26)) (defBody (top 26)) (defScope (top 26)) .none kV19 dc19 pm19 an19 cd19 ct19), sl19⟩) (c19 : PySem.W.codeIn K cd19 "_law_bounds" = true) (k19 : PySem.W.keepIn K (.ref f19) = true)
    {f20 : Addr} {od20 an20 : Option Addr} {sl20 : Array (Option Value)} {oc20 kV20 dc20 pm20 cd20 ct20 : Value}
    (a20 : PySem.W.nsIn K mainGlobals "law" = some (some (.ref f20))) (l20 : K.lookup f20 = some ⟨oc20, od20, .func (PySem.W.fnOf "law" "law" (defArgs (top 27)) (defBody (top 27)) (defScope (top 27)) .none kV20 dc20 pm20 an20 cd20 ct20), sl20⟩) (c20 : PySem.W.codeIn K cd20 "law" = true) (k20 : PySem.W.keepIn K (.ref f20) = true)
    {t_LAST_DAY : Tok} (z_LAST_DAY : PySem.W.nsIn K mainGlobals "LAST_DAY" = some (some (.int 200 t_LAST_DAY)))
    {t_MOST_POINTS : Tok} (z_MOST_POINTS : PySem.W.nsIn K mainGlobals "MOST_POINTS" = some (some (.int 100 t_MOST_POINTS)))
    {t_MOST_WORKS : Tok} (z_MOST_WORKS : PySem.W.nsIn K mainGlobals "MOST_WORKS" = some (some (.int 12 t_MOST_WORKS)))
    (z_all : PySem.W.nsIn K mainGlobals "all" = some none)
    (z_bool : PySem.W.nsIn K mainGlobals "bool" = some none)
    (z_int : PySem.W.nsIn K mainGlobals "int" = some none)
    (z_isinstance : PySem.W.nsIn K mainGlobals "isinstance" = some none)
    (z_len : PySem.W.nsIn K mainGlobals "len" = some none)
    (z_list : PySem.W.nsIn K mainGlobals "list" = some none)
    (z_max : PySem.W.nsIn K mainGlobals "max" = some none)
    (z_min : PySem.W.nsIn K mainGlobals "min" = some none)
    (z_range : PySem.W.nsIn K mainGlobals "range" = some none)
    (z_repr : PySem.W.nsIn K mainGlobals "repr" = some none)
    (z_sorted : PySem.W.nsIn K mainGlobals "sorted" = some none)
    (z_str : PySem.W.nsIn K mainGlobals "str" = some none)
    (z_tuple : PySem.W.nsIn K mainGlobals "tuple" = some none)
    : ∃ fd : FuncData, (∀ (s : Shared) (v : Value), BindsTo s fd ⟨[v], []⟩ [("_law_script", v)]) ∧ ∀ base : Heap, K.In base → base.Ns mainGlobals mg → Fg l.prog w K mg base CX0 7 fa fd ["_law_script"] (sp_law K) := by
  have e := hfa.symm.trans (PySem.W.mg_of X G a20)
  cases e
  have F0 := fun_mk (st := top 1) l0 c0 k0
  have b0 := F0.binds (ps := ["thing", "least", "most"]) fun _ _ _ _ _ _ us hl => match us, hl with | [_, _, _], _ => rfl
  have F1 := fun_mk (st := top 2) l1 c1 k1
  have b1 := F1.binds (ps := ["numbers"]) fun _ _ _ _ _ _ us hl => match us, hl with | [_], _ => rfl
  have F2 := fun_mk (st := top 4) l2 c2 k2
  have b2 := F2.binds (ps := ["thing", "least"]) fun _ _ _ _ _ _ us hl => match us, hl with | [_, _], _ => rfl
  have F3 := fun_mk (st := top 5) l3 c3 k3
  have b3 := F3.binds (ps := ["thing", "least", "most"]) fun _ _ _ _ _ _ us hl => match us, hl with | [_, _, _], _ => rfl
  have F4 := fun_mk (st := top 10) l4 c4 k4
  have b4 := F4.binds (ps := ["thing"]) fun _ _ _ _ _ _ us hl => match us, hl with | [_], _ => rfl
  have F5 := fun_mk (st := top 11) l5 c5 k5
  have b5 := F5.binds (ps := ["thing"]) fun _ _ _ _ _ _ us hl => match us, hl with | [_], _ => rfl
  have F6 := fun_mk (st := top 12) l6 c6 k6
  have b6 := F6.binds (ps := ["thing"]) fun _ _ _ _ _ _ us hl => match us, hl with | [_], _ => rfl
  have F7 := fun_mk (st := top 14) l7 c7 k7
  have b7 := F7.binds (ps := ["_law_script", "_law_k"]) fun _ _ _ _ _ _ us hl => match us, hl with | [_, _], _ => rfl
  have F8 := fun_mk (st := top 15) l8 c8 k8
  have b8 := F8.binds (ps := ["_law_script", "_law_k"]) fun _ _ _ _ _ _ us hl => match us, hl with | [_, _], _ => rfl
  have F9 := fun_mk (st := top 16) l9 c9 k9
  have b9 := F9.binds (ps := ["_law_state_here", "_law_many"]) fun _ _ _ _ _ _ us hl => match us, hl with | [_, _], _ => rfl
  have F10 := fun_mk (st := top 17) l10 c10 k10
  have b10 := F10.binds (ps := ["_law_state_here", "_law_most"]) fun _ _ _ _ _ _ us hl => match us, hl with | [_, _], _ => rfl
  have F11 := fun_mk (st := top 18) l11 c11 k11
  have b11 := F11.binds (ps := ["_law_state_here"]) fun _ _ _ _ _ _ us hl => match us, hl with | [_], _ => rfl
  have F12 := fun_mk (st := top 19) l12 c12 k12
  have b12 := F12.binds (ps := ["_law_thing"]) fun _ _ _ _ _ _ us hl => match us, hl with | [_], _ => rfl
  have F13 := fun_mk (st := top 20) l13 c13 k13
  have b13 := F13.binds (ps := ["_law_thing", "_law_low", "_law_high"]) fun _ _ _ _ _ _ us hl => match us, hl with | [_, _, _], _ => rfl
  have F14 := fun_mk (st := top 21) l14 c14 k14
  have b14 := F14.binds (ps := ["_law_state_here", "_law_thing", "_law_deep"]) fun _ _ _ _ _ _ us hl => match us, hl with | [_, _, _], _ => rfl
  have F15 := fun_mk (st := top 22) l15 c15 k15
  have b15 := F15.binds (ps := ["_law_thing"]) fun _ _ _ _ _ _ us hl => match us, hl with | [_], _ => rfl
  have F16 := fun_mk (st := top 23) l16 c16 k16
  have b16 := F16.binds (ps := ["_law_thing"]) fun _ _ _ _ _ _ us hl => match us, hl with | [_], _ => rfl
  have F17 := fun_mk (st := top 24) l17 c17 k17
  have b17 := F17.binds (ps := ["_law_found", "_law_due"]) fun _ _ _ _ _ _ us hl => match us, hl with | [_, _], _ => rfl
  have F18 := fun_mk (st := top 25) l18 c18 k18
  have b18 := F18.binds (ps := ["_law_thing"]) fun _ _ _ _ _ _ us hl => match us, hl with | [_], _ => rfl
  have F19 := fun_mk (st := top 26) l19 c19 k19
  have b19 := F19.binds (ps := ["_law_state_here"]) fun _ _ _ _ _ _ us hl => match us, hl with | [_], _ => rfl
  have F20 := fun_mk (st := top 27) l20 c20 k20
  have b20 := F20.binds (ps := ["_law_script"]) fun _ _ _ _ _ _ us hl => match us, hl with | [_], _ => rfl
  let T : Tx K mg := {
    f_has_parts := f0, fd_has_parts := _, F_has_parts := F0, b_has_parts := b0, m_has_parts := PySem.W.mg_of X G a0,
    f_never_falls := f1, fd_never_falls := _, F_never_falls := F1, b_never_falls := b1, m_never_falls := PySem.W.mg_of X G a1,
    f_is_whole_from := f2, fd_is_whole_from := _, F_is_whole_from := F2, b_is_whole_from := b2, m_is_whole_from := PySem.W.mg_of X G a2,
    f_is_whole_in := f3, fd_is_whole_in := _, F_is_whole_in := F3, b_is_whole_in := b3, m_is_whole_in := PySem.W.mg_of X G a3,
    f_is_day := f4, fd_is_day := _, F_is_day := F4, b_is_day := b4, m_is_day := PySem.W.mg_of X G a4,
    f_is_work := f5, fd_is_work := _, F_is_work := F5, b_is_work := b5, m_is_work := PySem.W.mg_of X G a5,
    f_are_works := f6, fd_are_works := _, F_are_works := F6, b_are_works := b6, m_are_works := PySem.W.mg_of X G a6,
    f__law_cell_at := f7, fd__law_cell_at := _, F__law_cell_at := F7, b__law_cell_at := b7, m__law_cell_at := PySem.W.mg_of X G a7,
    f__law_state := f8, fd__law_state := _, F__law_state := F8, b__law_state := b8, m__law_state := PySem.W.mg_of X G a8,
    f__law_take := f9, fd__law_take := _, F__law_take := F9, b__law_take := b9, m__law_take := PySem.W.mg_of X G a9,
    f__law_works := f10, fd__law_works := _, F__law_works := F10, b__law_works := b10, m__law_works := PySem.W.mg_of X G a10,
    f__law_odd := f11, fd__law_odd := _, F__law_odd := F11, b__law_odd := b11, m__law_odd := PySem.W.mg_of X G a11,
    f__law_whole := f12, fd__law_whole := _, F__law_whole := F12, b__law_whole := b12, m__law_whole := PySem.W.mg_of X G a12,
    f__law_between := f13, fd__law_between := _, F__law_between := F13, b__law_between := b13, m__law_between := PySem.W.mg_of X G a13,
    f__law_spoilt := f14, fd__law_spoilt := _, F__law_spoilt := F14, b__law_spoilt := b14, m__law_spoilt := PySem.W.mg_of X G a14,
    f__law_is_work := f15, fd__law_is_work := _, F__law_is_work := F15, b__law_is_work := b15, m__law_is_work := PySem.W.mg_of X G a15,
    f__law_are_works := f16, fd__law_are_works := _, F__law_are_works := F16, b__law_are_works := b16, m__law_are_works := PySem.W.mg_of X G a16,
    f__law_same := f17, fd__law_same := _, F__law_same := F17, b__law_same := b17, m__law_same := PySem.W.mg_of X G a17,
    f__law_right := f18, fd__law_right := _, F__law_right := F18, b__law_right := b18, m__law_right := PySem.W.mg_of X G a18,
    f__law_bounds := f19, fd__law_bounds := _, F__law_bounds := F19, b__law_bounds := b19, m__law_bounds := PySem.W.mg_of X G a19,
    f_law := fa, fd_law := _, F_law := F20, b_law := b20, m_law := PySem.W.mg_of X G a20,
    m_LAST_DAY := ⟨_, PySem.W.mg_of X G z_LAST_DAY⟩,
    m_MOST_POINTS := ⟨_, PySem.W.mg_of X G z_MOST_POINTS⟩,
    m_MOST_WORKS := ⟨_, PySem.W.mg_of X G z_MOST_WORKS⟩,
    m_all := PySem.W.mg_none_of X G z_all,
    m_bool := PySem.W.mg_none_of X G z_bool,
    m_int := PySem.W.mg_none_of X G z_int,
    m_isinstance := PySem.W.mg_none_of X G z_isinstance,
    m_len := PySem.W.mg_none_of X G z_len,
    m_list := PySem.W.mg_none_of X G z_list,
    m_max := PySem.W.mg_none_of X G z_max,
    m_min := PySem.W.mg_none_of X G z_min,
    m_range := PySem.W.mg_none_of X G z_range,
    m_repr := PySem.W.mg_none_of X G z_repr,
    m_sorted := PySem.W.mg_none_of X G z_sorted,
    m_str := PySem.W.mg_none_of X G z_str,
    m_tuple := PySem.W.mg_none_of X G z_tuple }
  refine ⟨_, fun s v => (.of_eq rfl : BindsTo s (PySem.W.fnOf "law" "law" (defArgs (top 27)) (defBody (top 27)) (defScope (top 27)) .none kV20 dc20 pm20 an20 cd20 ct20) ⟨[v], []⟩ [("_law_script", v)]), fun base _ _ => ?_⟩
  have G__law_take := ok__law_take (P := l.prog) (w := w) (base := base) T 
  have G__law_bounds := ok__law_bounds (P := l.prog) (w := w) (base := base) T G__law_take
  have G__law_odd := ok__law_odd (P := l.prog) (w := w) (base := base) T G__law_take
  have G__law_whole := ok__law_whole (P := l.prog) (w := w) (base := base) T 
  have G__law_between := ok__law_between (P := l.prog) (w := w) (base := base) T G__law_whole
  have G__law_is_work := ok__law_is_work (P := l.prog) (w := w) (base := base) T G__law_between
  have G__law_are_works := ok__law_are_works (P := l.prog) (w := w) (base := base) T G__law_is_work
  have G__law_same := ok__law_same (P := l.prog) (w := w) (base := base) T 
  have G_has_parts := ok_has_parts (P := l.prog) (w := w) (base := base) T 
  have G_is_whole_from := ok_is_whole_from (P := l.prog) (w := w) (base := base) T 
  have G_is_whole_in := ok_is_whole_in (P := l.prog) (w := w) (base := base) T G_is_whole_from
  have G_is_day := ok_is_day (P := l.prog) (w := w) (base := base) T G_is_whole_in
  have G_is_work := ok_is_work (P := l.prog) (w := w) (base := base) T G_has_parts G_is_day G_is_whole_in
  have G_never_falls := ok_never_falls (P := l.prog) (w := w) (base := base) T 
  have G_are_works := ok_are_works (P := l.prog) (w := w) (base := base) T G_has_parts G_is_work G_never_falls
  have G__law_right := ok__law_right (P := l.prog) (w := w) (base := base) T G__law_are_works G__law_is_work G__law_same G_are_works G_is_work
  have G__law_spoilt := ok__law_spoilt (P := l.prog) (w := w) (base := base) T G__law_odd G__law_take G__law_whole
  have G__law_cell_at := ok__law_cell_at (P := l.prog) (w := w) (base := base) T 
  have G__law_state := ok__law_state (P := l.prog) (w := w) (base := base) T G__law_cell_at
  have G__law_works := ok__law_works (P := l.prog) (w := w) (base := base) T G__law_take
  have G_law := ok_law (P := l.prog) (w := w) (base := base) T G__law_bounds G__law_odd G__law_right G__law_spoilt G__law_state G__law_works
  exact G_law
theorem walk {l : PySem.W.OpenLaw} {q : Program} {loose : List Str} {XP : (Str → Option Value) → Heap → Prop} {YP : World → Heap → Prop} {d : DefRec} {K : Params → PySem.W.Frag} (hn : l.most = some 63) (hdf : d.params.defaults = [])
    (hY : ∀ (w : World) (h : Heap), YP w h → (K w.params).In h)
    (F : ∀ (w : World) (mg : Str → Option Value) (fa : Addr) (h : Heap), (K w.params).In h → h.Ns mainGlobals mg → mg d.name = some (.ref fa) →
      ∃ fd : FuncData, (∀ (s : Shared) (u : Value), BindsTo s fd ⟨[u], []⟩ [("_law_script", u)]) ∧ ∀ base : Heap, (K w.params).In base → base.Ns mainGlobals mg → Fg l.prog w (K w.params) mg base CX0 7 fa fd ["_law_script"] (sp_law (K w.params))) :
    PySem.W.WalkO q loose XP YP l.row.toRowW d [] (fun f vs => PySem.call f vs) :=
  walk_go (n := 63) (k := 7) (x := "_law_script") (CX := fun _ => CX0) (sp := fun w => sp_law (K w.params)) hn (by decide) hdf ⟨rfl, by decide, by decide⟩ hY F (fun _ _ a ns hl _ hS => ⟨a, ns, rfl, hS, hl, fun _ => rfl⟩) fun _ _ _ _ _ z => z
end Cm
open PySem PySem.W PyProof.Rows
set_option maxRecDepth 100000 in
set_option maxHeartbeats 0 in
theorem PySem.Challenge.cw_classmarks_k01_works_known_holds : PySem.Challenge.rw_classmarks_k01_works_known.Holds := by
  w_on; o_law; k_head; (case hw => w_witness2)
  k_fill
  refine Cm.walk (l := PySem.Challenge.rw_classmarks_k01_works_known) rfl rfl (fun w h Y => PySem.W.kIn_of Y) ?F
  case F =>
    intro w mg fa h KX G hmg
    refine' Cm.all_mk KX G hmg ?a0 ?l0 ?c0 ?k0 ?a1 ?l1 ?c1 ?k1 ?a2 ?l2 ?c2 ?k2 ?a3 ?l3 ?c3 ?k3 ?a4 ?l4 ?c4 ?k4 ?a5 ?l5 ?c5 ?k5 ?a6 ?l6 ?c6 ?k6 ?a7 ?l7 ?c7 ?k7 ?a8 ?l8 ?c8 ?k8 ?a9 ?l9 ?c9 ?k9 ?a10 ?l10 ?c10 ?k10 ?a11 ?l11 ?c11 ?k11 ?a12 ?l12 ?c12 ?k12 ?a13 ?l13 ?c13 ?k13 ?a14 ?l14 ?c14 ?k14 ?a15 ?l15 ?c15 ?k15 ?a16 ?l16 ?c16 ?k16 ?a17 ?l17 ?c17 ?k17 ?a18 ?l18 ?c18 ?k18 ?a19 ?l19 ?c19 ?k19 ?a20 ?l20 ?c20 ?k20 ?z_LAST_DAY ?z_MOST_POINTS ?z_MOST_WORKS ?z_all ?z_bool ?z_int ?z_isinstance ?z_len ?z_list ?z_max ?z_min ?z_range ?z_repr ?z_sorted ?z_str ?z_tuple
    (case a0 => k_is); (case l0 => k_is); (case c0 => k_is); (case k0 => k_is); (case a1 => k_is); (case l1 => k_is); (case c1 => k_is); (case k1 => k_is)
    (case a2 => k_is); (case l2 => k_is); (case c2 => k_is); (case k2 => k_is); (case a3 => k_is); (case l3 => k_is); (case c3 => k_is); (case k3 => k_is)
    (case a4 => k_is); (case l4 => k_is); (case c4 => k_is); (case k4 => k_is); (case a5 => k_is); (case l5 => k_is); (case c5 => k_is); (case k5 => k_is)
    (case a6 => k_is); (case l6 => k_is); (case c6 => k_is); (case k6 => k_is); (case a7 => k_is); (case l7 => k_is); (case c7 => k_is); (case k7 => k_is)
    (case a8 => k_is); (case l8 => k_is); (case c8 => k_is); (case k8 => k_is); (case a9 => k_is); (case l9 => k_is); (case c9 => k_is); (case k9 => k_is)
    (case a10 => k_is); (case l10 => k_is); (case c10 => k_is); (case k10 => k_is); (case a11 => k_is); (case l11 => k_is); (case c11 => k_is); (case k11 => k_is)
    (case a12 => k_is); (case l12 => k_is); (case c12 => k_is); (case k12 => k_is); (case a13 => k_is); (case l13 => k_is); (case c13 => k_is); (case k13 => k_is)
    (case a14 => k_is); (case l14 => k_is); (case c14 => k_is); (case k14 => k_is); (case a15 => k_is); (case l15 => k_is); (case c15 => k_is); (case k15 => k_is)
    (case a16 => k_is); (case l16 => k_is); (case c16 => k_is); (case k16 => k_is); (case a17 => k_is); (case l17 => k_is); (case c17 => k_is); (case k17 => k_is)
    (case a18 => k_is); (case l18 => k_is); (case c18 => k_is); (case k18 => k_is); (case a19 => k_is); (case l19 => k_is); (case c19 => k_is); (case k19 => k_is)
    (case a20 => k_is); (case l20 => k_is); (case c20 => k_is); (case k20 => k_is); (case z_LAST_DAY => k_is); (case z_MOST_POINTS => k_is); (case z_MOST_WORKS => k_is); (case z_all => k_is)
    (case z_bool => k_is); (case z_int => k_is); (case z_isinstance => k_is); (case z_len => k_is); (case z_list => k_is); (case z_max => k_is); (case z_min => k_is); (case z_range => k_is)
    (case z_repr => k_is); (case z_sorted => k_is); (case z_str => k_is); (case z_tuple => k_is)
