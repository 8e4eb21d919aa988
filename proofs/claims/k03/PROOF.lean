import PyProof.Rows.All
import Wide.All
import OpenK.AllK
import Wide.FinOn
import HandS.ForMost
import HandS.Wide
import HandS.IsInst
import HandS.TupAny
import HandS.TupMul
import HandS.Style
import HandS.StrMore
import HandS.Small
import HandS.More
import HandS.Text
import PyProof.ListMulRoad
import PyProof.FactsAll.tuple_2
import HandS.Defaults
import HandS.MakeKw
import HandS.FStr
import PyProof.Rows.EqDataRows
import HandS.OwnEq
import PySem.Challenge.RW_classmarks_k03_rules_compared_and_shown
set_option Elab.async false
set_option linter.all false
set_option maxRecDepth 100000
set_option maxHeartbeats 4000000
/-! ## 1. Promises of defs that run where no guard is up -/
namespace Cm
open PySem PySem.Spec PyProof.Rows L2
/-- a promise, asked only where no repr is under way -/
structure Fg (P : Program) (w : World) (K : PySem.W.Frag) (mg : Str → Option Value)
    (base : Heap) (CX : CXT) (k : Nat) (f : Addr) (fd : FuncData) (ps : List Str) (sp : Sp) : Prop where
  len : ∀ vs H Q E, sp vs H Q E → vs.length = ps.length
  go : ∀ (A : Around) (outer : List Env) (s : Shared) (H : Hp) (args : Args)
    (us : List Value) (vs : List V) (Q : VK) (E : XK),
    Room k A → A.guards = some [] → Env0 P w K mg base A outer s H →
    BindsTo s fd args (ps.zip us) → Vals vs us → sp vs H Q E →
    codeAny (model P w) A (.call (.ref f) args) (CR CX outer P w H s Q E) s
section
variable {P : Program} {w : World} {K : PySem.W.Frag} {mg : Str → Option Value}
  {base : Heap} {CX : CXT} {k : Nat} {f : Addr} {fd : FuncData} {ps : List Str} {sp : Sp}
theorem Fg.of (F : FnOk P w K mg base CX k f fd ps sp) : Fg P w K mg base CX k f fd ps sp :=
  ⟨F.len, fun A outer s H args us vs Q E hr _ => F.run A outer s H args us vs Q E hr⟩
theorem Fg.mono {j : Nat} (F : Fg P w K mg base CX j f fd ps sp) (h : j ≤ k) :
    Fg P w K mg base CX k f fd ps sp :=
  ⟨F.len, fun A outer s H args us vs Q E hr => F.go A outer s H args us vs Q E (hr.mono h)⟩
theorem deeper_guards (A : Around) (env : Env) (h : A.guards = some []) :
    (A.deeper env).guards = some [] := h
end
section
variable {X : Cx} {CX : CXT} {k : Nat} {f C : Addr} {fd : FuncData} {ps : List Str}
  {sp : Sp} {dvs : List V} {ds : List Value} {E : XK} {x m : Str} {p pos apos : Pos}
  {e o : Expr} {es : List Expr} {ta : TE} {t : TA}
theorem go_fn {pins : List (Addr × Obj)} {σ : L2.St} {H : Hp} {s : Shared} {Q : VK}
    {us : List Value} {vs : List V}
    (F : Fg X.prog X.w X.K X.mg X.base CX k f fd ps sp) (hr : Room k X.A)
    (hg : X.A.guards = some []) (hb : Binds X.K fd ps ds) (hd : Vals dvs ds)
    (hx : Passes CX X E) (I : Inv X pins σ H s) (r : Vals vs us)
    (h : sp (vs ++ dvs) H Q E) :
    wpAny (model X.prog X.w) X.A (call (.ref f) us) (EP X pins σ Q) X.xe s := by
  have both := r.append hd
  have hlen : (us ++ ds).length = ps.length := both.length.symm.trans (F.len _ _ _ _ h)
  have body := F.go X.A X.stack s H ⟨us, []⟩ (us ++ ds) (vs ++ dvs) Q E hr hg I.env0
    (hb s us I.kIn hlen) both h
  refine wpAny_call (codeAny_mono body ?_)
  intro r s' hq
  match r, hq with
  | .error e, hq => exact hx pins σ H s e s' I hq
  | .ok (.ret u), hq => exact I.after hq
theorem pg_call (F : Fg X.prog X.w X.K X.mg X.base CX k f fd ps sp) (hr : Room k X.A)
    (hgd : X.A.guards = some []) (hg : Gl X x) (hm : X.mg x = some (.ref f))
    (hk : PySem.W.keepIn X.K (.ref f) = true) (hb : Binds X.K fd ps ds)
    (hd : Vals dvs ds) (hx : Passes CX X E) (ha : PA X (e :: es) t)
    (hdb : (x == ("__debug__" : Str)) = false := by decide)
    (he : starEach (e :: es) X.env = (false, eval e X.env) :: starEach es X.env := by rfl)
    (hpl : (backTo pos (starEach es X.env)).any (·.1) = false := by rfl) :
    PE X (.Call (.Name x p) (e :: es) [] pos) (tCall sp dvs E t) := by
  constructor
  intro pins s σ H Q I h
  have args := ha.run pos pins s σ H _ I h
  refine wpAny_Call_Name_kw (ld_glob I hg hm ?_ hdb)
  refine PySem.W.callWith_K (h₀ := X.base) I.ok.mod.kin hk (thn args ?_) he hpl
  rintro us s1 ⟨vs, H1, I1, r, q⟩
  exact ⟨I1.kIn, go_fn F hr hgd hb hd hx I1 r q⟩
end
section
variable {P : Program} {w : World} {K : PySem.W.Frag} {mg : Str → Option Value} {base : Heap}
/-- a def of the text keeps its promise, by its body -/
theorem fg_of {CX : CXT} {x qual : Str} {st : Stmt} {f : Addr} {fd : FuncData}
    {N ps : List Str} {k : Nat} {sp : Sp} (F : Fun K x qual st f fd)
    (S : FnScope N ps (defScope st)) (len : ∀ vs H Q E, sp vs H Q E → vs.length = ps.length)
    (hbody : ∀ (cdv : Value) (A : Around) (outer : List Env) (s : Shared) (H : Hp)
      (vs : List V) (Q : VK) (E : XK),
      Room k (A.deeper (envOfC qual (defScope st) s.heap.objs.size f cdv)) →
      A.guards = some [] → sp vs H Q E →
      ∃ t, PSs (cxOf CX P w K mg base N qual (defScope st) f cdv A outer s H E) (defBody st) t ∧
        t { nx := fun _ H' => Q .non H', rt := Q } (start N vs) H) :
    Fg P w K mg base CX (k + 1) f fd ps sp := by
  obtain ⟨oc, od, kV, doc, pm, an, cdv, ct, osl, rfl, lk, hcd⟩ := F.ex
  refine ⟨len, ?_⟩
  intro A outer s H args us vs Q E hr hgd env hb r hsp
  have nvs : vs.length = ps.length := len _ _ _ _ hsp
  have old : ∀ b o, base.get? b = some o → s.heap.get? b = some o :=
    fun b o e => (env.bs b o e).1
  have KX : K.In s.heap := env.mod.kin.keeps old
  have lim : s.heap.NoLimit := env.mod.nolimit.keeps old
  have kinds : ∀ y ∈ ps.zip us, (defScope st).names.lookup y.1 = some .local ∨
      ((defScope st).names.lookup y.1 = some .cell ∧
        ((cellsFrom (s.heap.objs.size + 1) (defScope st).names []).lookup y.1).isSome = true) := by
    rintro ⟨n, v⟩ hy
    cases S.par n (List.of_mem_zip hy).1 with
    | inl q => exact .inl q
    | inr q => exact .inr ⟨q, PySem.W.cellsFrom_some _ _ _ (.inl q)⟩
  refine codeAny_call_function hr.depth (KX _ _ lk) rfl S.co S.gen rfl
    (PySem.W.codeRec_of KX hcd) (hb _ _ _ _ ?_)
  refine wpAny_newFunctionEnv_cells S.kind kinds ?_
  intro env' he s1 x
  subst he
  refine ⟨lim.keeps x.toInCall.keep, codeAny_func ?_⟩
  obtain ⟨t, ht, hq⟩ := hbody cdv A outer s H vs Q E (hr.deeper _) hgd hsp
  have I := inv_start (CX := CX) (P := P) (mg := mg) (E := E) S hr.hd env nvs r x
  have leave : ∀ {σ' : L2.St} {H' : Hp} {v : V} {u : Value} {s' : Shared},
      Inv (cxOf CX P w K mg base N qual (defScope st) f cdv A outer s H E) [] σ' H' s' →
      RelV v u → Q v H' → CE outer P w H s Q u s' := by
    intro σ' H' v u s' J rv q
    exact ⟨v, H', J.os, J.bare, J.base, J.hok, rv, q⟩
  refine wpAny_mono (ht.run [] s1 (start N vs) H _ I hq) ?_ (fun e s' hs => hs)
  intro fl s' hs
  match fl, hs with
  | .ret u, hs =>
    obtain ⟨v, σ', H', J, rv, q⟩ := hs
    exact leave J rv q
  | .next, hs =>
    obtain ⟨σ', H', J, q⟩ := hs
    exact leave (v := V.non) (u := Value.none) J rfl q
  | .brk, hs =>
    obtain ⟨_, _, _, q⟩ := hs
    exact False.elim q
  | .cont, hs =>
    obtain ⟨_, _, _, q⟩ := hs
    exact False.elim q
/-- the same for a def that lets no exception out -/
theorem fg_of0 {x qual : Str} {st : Stmt} {f : Addr} {fd : FuncData}
    {N ps : List Str} {k : Nat} {sp : Sp} (F : Fun K x qual st f fd)
    (S : FnScope N ps (defScope st)) (len : ∀ vs H Q E, sp vs H Q E → vs.length = ps.length)
    (hbody : ∀ (cdv : Value) (A : Around) (outer : List Env) (s : Shared) (H : Hp)
      (vs : List V) (Q : VK) (E : XK),
      Room k (A.deeper (envOfC qual (defScope st) s.heap.objs.size f cdv)) →
      A.guards = some [] → sp vs H Q E →
      ∃ t, PSs (cxOf CX0 P w K mg base N qual (defScope st) f cdv A outer s H E).nox (defBody st) t ∧
        t { nx := fun _ H' => Q .non H', rt := Q } (start N vs) H) :
    Fg P w K mg base CX0 (k + 1) f fd ps sp := by
  refine fg_of F S len ?_
  intro cdv A outer s H vs Q E hr hg hsp
  obtain ⟨t, h, q⟩ := hbody cdv A outer s H vs Q E hr hg hsp
  exact ⟨t, h.nox, q⟩
end

/-! ### the law's own call -/
theorem law_go {P : Program} {w : World} {K : PySem.W.Frag} {mg mb : Str → Option Value}
    {CX : CXT} {k : Nat} {fa a : Addr} {fd : FuncData} {x : Str} {sp : Sp} {s₁ : Shared}
    {vs : List Value} {ns : List Int}
    (KX : K.In s₁.heap) (hns : s₁.heap.Ns mainGlobals mg) (hb : s₁.heap.Ns builtinsNs mb)
    (hbb : ∀ x : Str, x ≠ "__name__" → mb x = bootBuiltins x)
    (hlim : s₁.heap.NoLimit) (hg : s₁.gens = #[])
    (ha : s₁.heap.get? a = some { cls := .type "list", data := .seq vs.toArray })
    (hi : IntsAre vs ns) (hl : ns.length ≤ sizeLine) (hr : Room k callerA)
    (F : ∀ base : Heap, K.In base → base.Ns mainGlobals mg → Fg P w K mg base CX k fa fd [x] sp)
    (hbind : ∀ (s : Shared) (u : Value), BindsTo s fd ⟨[u], []⟩ [(x, u)])
    (hsp : ∀ H : Hp, Only H → SqL K H a (ns.map V.int) →
      sp [.ref a] H (fun v _ => v = .bl true) fun _ _ _ => False)
    (hCX : ∀ H e s', CX [] H s₁ (fun _ _ _ => False) e s' → False) :
    codeAny (model P w) callerA (.call (.ref fa) ⟨[.ref a], []⟩)
      (fun r s' => r = .ok (.ret (.bool true)) ∧ OldK s₁.heap s'.heap ∧ s'.os = s₁.os ∧ AllBare s'.gens) s₁ := by
  have nums : Vals (ns.map V.int) vs := vals_ints hi
  have many := hi.length
  -- from any abstract heap that tracks the script at most
  have core : ∀ H : Hp, Only H → SqL K H a (ns.map V.int) → HOk P w H s₁.heap →
      (∀ b, H b ≠ none → b = a) → (H a ≠ none → K.lookup a = none) →
      codeAny (model P w) callerA (.call (.ref fa) ⟨[.ref a], []⟩)
        (fun r s' => r = .ok (.ret (.bool true)) ∧ OldK s₁.heap s'.heap ∧ s'.os = s₁.os ∧ AllBare s'.gens) s₁ := by
    intro H hO hS hok hA hK
    have plain : ∀ {b : Addr} {o : Obj} {es : Array DictEntry} {ep : Nat},
        s₁.heap.get? b = some o → o.data = .dict es ep → H b = none := by
      intro b o es ep e d
      cases q : H b with
      | none => rfl
      | some u =>
        have same : b = a := hA b (by rw [q]; simp)
        rw [same, ha] at e
        cases e
        exact absurd d (by intro z; cases z)
    have nsB : ∀ {b : Addr} {m : Str → Option Value}, s₁.heap.Ns b m → (hidT s₁.heap H).Ns b m := by
      rintro b m ⟨o, es, ep, e, d, r⟩
      exact ⟨o, es, ep, hidT_get e (plain e d), d, r⟩
    have kb : K.In (hidT s₁.heap H) := by
      intro b o e
      refine hidT_get (KX b o e) ?_
      cases q : H b with
      | none => rfl
      | some u =>
        have same : b = a := hA b (by rw [q]; simp)
        subst same
        have none_ := hK (by rw [q]; simp)
        rw [none_] at e
        cases e
    have limit : (hidT s₁.heap H).NoLimit := by
      obtain ⟨mc, h1, h2⟩ := hlim
      exact ⟨mc, nsB h1, h2⟩
    have module_ : Mod K mg (hidT s₁.heap H) := ⟨kb, nsB hns, ⟨mb, nsB hb, hbb⟩, limit⟩
    have e0 : Env0 P w K mg (hidT s₁.heap H) callerA [] s₁ H :=
      ⟨rfl, module_, fun b o e => of_hidT e, Nat.le_of_eq (hidT_size _ _), trivial,
        fun b hb => absurd (show b ∈ ([] : List Addr) from hb) List.not_mem_nil, hok, .of_eq hg⟩
    have run := (F _ kb (nsB hns)).go callerA [] s₁ H ⟨[.ref a], []⟩ [.ref a] [.ref a] _ _ hr rfl e0
      (hbind s₁ (.ref a)) (.cons rfl .nil) (hsp H hO hS)
    refine codeAny_mono run ?_
    intro r s' h
    match r, h with
    | .error e, h => exact (hCX H e s' h).elim
    | .ok (.ret u), h =>
      obtain ⟨v, H', os, bare, un, hok', r', q⟩ := h
      have isT : v = .bl true := q
      subst isT
      obtain rfl : u = Value.bool true := r'
      refine ⟨rfl, OldK.of_keep ?_, os, bare⟩
      intro b o e
      cases q : H b with
      | none => exact un.keep b o e q (fun z => absurd (show b ∈ ([] : List Addr) from z) List.not_mem_nil) List.not_mem_nil
      | some u =>
        rcases hO b with z | ⟨ob, xs, z⟩
        · rw [q] at z
          cases z
        · have later := un.frzs b ob _ z
          obtain ⟨e1, _⟩ := hok b _ z
          obtain ⟨e2, _⟩ := hok' b _ later
          rw [e] at e1
          cases e1
          exact e2
  cases hk : K.lookup a with
  | some o =>
    have e := KX a o hk
    rw [ha] at e
    cases e
    have bare_ : HOk P w (fun _ => none) s₁.heap := fun b u z => by cases z
    exact core (fun _ => none) (fun _ => .inl rfl)
      (.inr ⟨_, vs.toArray, _, hk, rfl, rfl, rfl, by rw [List.size_toArray, many]; exact hl, by simpa using nums⟩)
      bare_ (fun b z => absurd rfl z) (fun z => absurd rfl z)
  | none =>
    let S : Obj := { cls := .type "list", data := .seq vs.toArray }
    let H1 : Hp := fun b => if b = a then some (.frz S (.lst (ns.map V.int))) else none
    have at_a : H1 a = some (.frz S (.lst (ns.map V.int))) := if_pos rfl
    have off : ∀ b, b ≠ a → H1 b = none := fun b hb => if_neg hb
    refine core H1 ?_ (.inl (.inr ⟨S, at_a⟩)) ?_ ?_ (fun _ => hk)
    · intro b
      by_cases hb : b = a
      · exact .inr ⟨_, _, if_pos hb⟩
      · exact .inl (off b hb)
    · intro b u z
      by_cases hb : b = a
      · subst hb
        rw [at_a] at z
        cases z
        exact ⟨ha, by rw [List.length_map]; exact hl, vs, _, nums, ha⟩
      · rw [off b hb] at z
        cases z
    · intro b z
      by_cases hb : b = a
      · exact hb
      · exact absurd (off b hb) z
/-- the goal that the head leaves -/
theorem walk_go {l : PySem.W.OpenLaw} {n k : Nat} {q : Program} {loose : List Str}
    {XP : (Str → Option Value) → Heap → Prop} {YP : World → Heap → Prop} {d : DefRec}
    {K : Params → PySem.W.Frag} {CX : World → CXT} {sp : World → Sp} {x : Str}
    (hn : l.most = some n) (hn2 : n ≤ sizeLine) (hdf : d.params.defaults = [])
    (hr : Room k callerA) (hY : ∀ (w : World) (h : Heap), YP w h → (K w.params).In h)
    (F : ∀ (w : World) (mg : Str → Option Value) (fa : Addr) (h : Heap),
      (K w.params).In h → h.Ns mainGlobals mg → mg d.name = some (.ref fa) →
      ∃ fd : FuncData, (∀ (s : Shared) (u : Value), BindsTo s fd ⟨[u], []⟩ [(x, u)]) ∧
        ∀ base : Heap, (K w.params).In base → base.Ns mainGlobals mg →
          Fg l.prog w (K w.params) mg base (CX w) k fa fd [x] (sp w))
    (hsp : ∀ (w : World) (H : Hp) (a : Addr) (ns : List Int), ns.length ≤ n → Only H →
      SqL (K w.params) H a (ns.map V.int) →
      sp w [.ref a] H (fun v _ => v = .bl true) fun _ _ _ => False)
    (hCX : ∀ (w : World) (H : Hp) (s : Shared) (e : Value) (s' : Shared),
      CX w [] H s (fun _ _ _ => False) e s' → False) :
    PySem.W.WalkO q loose XP YP l.row.toRowW d [] (fun f vs => PySem.call f vs) := by
  refine Att.attach_call hn hdf ?_
  intro w s₀ s₁ mg mb fa o pm cd doc a vs ns G Y ho hd hcd hmg hobj hints hlen hg
  have KX := hY w _ Y
  obtain ⟨fd, hb, hF⟩ := F w mg fa _ KX G.T.g hmg
  exact law_go KX G.T.g G.T.b G.T.builtins G.T.nolimit hg hobj hints (Nat.le_trans hlen hn2) hr hF hb
    (fun H hO hS => hsp w H a ns hlen hO hS) (fun H e s' => hCX w H s₁ e s')
end Cm
set_option Elab.async false
set_option linter.all false
set_option maxRecDepth 100000
set_option maxHeartbeats 4000000
/-! ## 2. Data in the heap, apart from one address -/
namespace Cm
open PySem PySem.Spec PyProof.Rows L2
/-- all but what stands at p is as it was -/
def Keep (p : Addr) (H H' : Hp) : Prop := ∀ b o, b ≠ p → H b = some o → H' b = some o
theorem Keep.refl (p : Addr) (H : Hp) : Keep p H H := fun _ _ _ h => h
theorem Keep.trans {p : Addr} {H H1 H2 : Hp} (a : Keep p H H1) (b : Keep p H1 H2) : Keep p H H2 :=
  fun c o n h => b c o n (a c o n h)
theorem Keep.of {p : Addr} {H H' : Hp} (s : Same H H') : Keep p H H' := fun b o _ h => s b o h
theorem Keep.set {p : Addr} {H : Hp} {o : HO} : Keep p H (upd H p o) := fun b u n h => by
  rw [upd_ne n]; exact h
theorem Keep.new {p q : Addr} {H H' : Hp} {o : HO} (k : Keep p H H') (n : H' q = none) :
    Keep p H (upd H' q o) := fun b u hb h => by
  have := k b u hb h
  rw [upd_ne (ne_of_none this n)]; exact this
theorem Keep.put {p : Addr} {H H' : Hp} {o : HO} (k : Keep p H H') : Keep p H (upd H' p o) :=
  fun b u hb h => by rw [upd_ne hb]; exact k b u hb h
theorem Same.new {q : Addr} {H H' : Hp} {o : HO} (k : Same H H') (n : H' q = none) :
    Same H (upd H' q o) := fun b u h => by
  have := k b u h
  rw [upd_ne (ne_of_none this n)]; exact this
/-- an object that came behind H is changed -/
theorem Same.over {q : Addr} {H H' : Hp} {o : HO} (k : Same H H') (n : H q = none) :
    Same H (upd H' q o) := fun b u h => by
  rw [upd_ne (ne_of_none h n)]; exact k b u h
theorem Keep.over {p q : Addr} {H H' : Hp} {o : HO} (k : Keep p H H') (n : H q = none) :
    Keep p H (upd H' q o) := fun b u hb h => by
  rw [upd_ne (ne_of_none h n)]; exact k b u hb h
theorem Keep.rd {p a : Addr} {H H' : Hp} {u : HO} (k : Keep p H H') (n : a ≠ p) (h : Rd H a u) : Rd H' a u := by
  rcases h with h | ⟨o, h⟩
  · exact .inl (k _ _ n h)
  · exact .inr ⟨o, k _ _ n h⟩
def keyD : Key → PyData
  | .inl i => .int i
  | .inr x => .str x
def valD : V → PyData
  | .int i => .int i
  | _ => .none
def pairD (x : Key × V) : PyData × PyData := (keyD x.1, valD x.2)
mutual
/-- at v stands the data d, and none of it at p -/
inductive Dt (H : Hp) (p : Addr) : V → PyData → Prop
  | non : Dt H p .non .none
  | bl (b : Bool) : Dt H p (.bl b) (.bool b)
  | int (i : Int) : Dt H p (.int i) (.int i)
  | str (x : Str) : Dt H p (.str x) (.str x)
  | lst {a : Addr} {xs : List V} {ds : List PyData} : a ≠ p → H a = some (.lst xs) → DtAll H p xs ds →
      Dt H p (.ref a) (.list ds)
  | tup {a : Addr} {xs : List V} {ds : List PyData} : a ≠ p → H a = some (.tup xs) → DtAll H p xs ds →
      Dt H p (.ref a) (.tuple ds)
  | dct {a : Addr} {kvs : List (Key × V)} : a ≠ p → H a = some (.dK kvs) →
      (∀ x ∈ kvs, ∃ i, x.2 = V.int i) → Dt H p (.ref a) (.dict (kvs.map pairD))
inductive DtAll (H : Hp) (p : Addr) : List V → List PyData → Prop
  | nil : DtAll H p [] []
  | cons {v : V} {vs : List V} {d : PyData} {ds : List PyData} : Dt H p v d → DtAll H p vs ds →
      DtAll H p (v :: vs) (d :: ds)
end
mutual
theorem Dt.keep {p : Addr} {H H' : Hp} (k : Keep p H H') : ∀ {d : PyData} {v : V}, Dt H p v d → Dt H' p v d
  | _, _, .non => .non
  | _, _, .bl b => .bl b
  | _, _, .int i => .int i
  | _, _, .str x => .str x
  | _, _, .lst n r h => .lst n (k _ _ n r) (DtAll.keep k h)
  | _, _, .tup n r h => .tup n (k _ _ n r) (DtAll.keep k h)
  | _, _, .dct n r h => .dct n (k _ _ n r) h
theorem DtAll.keep {p : Addr} {H H' : Hp} (k : Keep p H H') : ∀ {ds : List PyData} {vs : List V},
    DtAll H p vs ds → DtAll H' p vs ds
  | _, _, .nil => .nil
  | _, _, .cons a b => .cons (Dt.keep k a) (DtAll.keep k b)
end
theorem DtAll.length {p : Addr} {H : Hp} : ∀ {ds : List PyData} {vs : List V}, DtAll H p vs ds → vs.length = ds.length
  | _, _, .nil => rfl
  | _, _, .cons _ b => congrArg Nat.succ (DtAll.length b)
theorem DtAll.get {p : Addr} {H : Hp} : ∀ {ds : List PyData} {vs : List V} {i : Nat} {v : V}, DtAll H p vs ds →
    vs[i]? = some v → ∃ d, ds[i]? = some d ∧ Dt H p v d
  | _, _, 0, _, .cons a _, e => by
    have e' := Option.some.inj e
    subst e'
    exact ⟨_, rfl, a⟩
  | _, _, i + 1, _, .cons _ b, e => DtAll.get (i := i) b e
  | _, _, i, _, .nil, e => by simp at e
theorem DtAll.append {p : Addr} {H : Hp} : ∀ {ds es : List PyData} {vs ws : List V}, DtAll H p vs ds → DtAll H p ws es →
    DtAll H p (vs ++ ws) (ds ++ es)
  | _, _, _, _, .nil, b => b
  | _, _, _, _, .cons a r, b => .cons a (DtAll.append r b)
theorem DtAll.take {p : Addr} {H : Hp} : ∀ (n : Nat) {ds : List PyData} {vs : List V}, DtAll H p vs ds →
    DtAll H p (vs.take n) (ds.take n)
  | 0, _, _, _ => .nil
  | _ + 1, _, _, .nil => .nil
  | n + 1, _, _, .cons a b => .cons a (DtAll.take n b)
theorem DtAll.drop {p : Addr} {H : Hp} : ∀ (n : Nat) {ds : List PyData} {vs : List V}, DtAll H p vs ds →
    DtAll H p (vs.drop n) (ds.drop n)
  | 0, _, _, h => h
  | _ + 1, _, _, .nil => .nil
  | n + 1, _, _, .cons _ b => DtAll.drop n b
theorem DtAll.set {p : Addr} {H : Hp} {v : V} {d : PyData} (h : Dt H p v d) : ∀ (n : Nat) {ds : List PyData} {vs : List V},
    DtAll H p vs ds → DtAll H p (vs.set n v) (ds.set n d)
  | _, _, _, .nil => .nil
  | 0, _, _, .cons _ b => .cons h b
  | n + 1, _, _, .cons a b => .cons a (DtAll.set h n b)
theorem DtAll.reverse {p : Addr} {H : Hp} : ∀ {ds : List PyData} {vs : List V}, DtAll H p vs ds →
    DtAll H p vs.reverse ds.reverse
  | _, _, .nil => .nil
  | _, _, .cons a b => by
    rw [List.reverse_cons, List.reverse_cons]
    exact DtAll.append (DtAll.reverse b) (.cons a .nil)

/-! ### what repr tells of it -/
section
variable {X : Cx} {pins : List (Addr × Obj)} {σ : L2.St} {H : Hp} {s : Shared} {p : Addr}
/-- what is known of the pieces behind v -/
def Shows (X : Cx) (s : Shared) (u : Value) (d : PyData) : Prop :=
  (∃ as, Reads s.heap u d as) ∧
  ∃ bs, ReadAtMost s.heap d.depth bs ∧ ReprK X.prog X.w bs s.heap d.depth u d.shown
def ShowsAll (X : Cx) (s : Shared) (us : List Value) (ds : List PyData) : Prop :=
  (∃ as, ReadsAll s.heap us ds as) ∧
  ∃ bs, ReadAtMost s.heap (PyData.depthAll ds) bs ∧
    ReprAllK X.prog X.w bs s.heap (PyData.depthAll ds) us (PyData.shownAll ds)
theorem Shows.leaf {u : Value} {d : PyData} (r : ∃ as, Reads s.heap u d as) (h : ReprIs X.prog X.w u d.shown) : Shows X s u d :=
  ⟨r, [], (fun _ z => by cases z), .of_is h _ _ _⟩
theorem ShowsAll.cons {u : Value} {us : List Value} {d : PyData} {ds : List PyData}
    (a : Shows X s u d) (b : ShowsAll X s us ds) : ShowsAll X s (u :: us) (d :: ds) := by
  obtain ⟨⟨as, r⟩, b1, m1, k1⟩ := a
  obtain ⟨⟨as', r'⟩, b2, m2, k2⟩ := b
  refine ⟨⟨_, .cons r r'⟩, b1 ++ b2, ?_, ?_⟩
  · have l1 : d.depth ≤ PyData.depthAll (d :: ds) := by simp only [PyData.depthAll]; exact Nat.le_max_left _ _
    have l2 : PyData.depthAll ds ≤ PyData.depthAll (d :: ds) := by simp only [PyData.depthAll]; exact Nat.le_max_right _ _
    exact (m1.mono l1).append (m2.mono l2)
  · simp only [PyData.depthAll, PyData.shownAll]
    have x1 := (k1.more (as' := b1 ++ b2) fun c h => List.mem_append_left _ h).level_le (Nat.le_max_left d.depth (PyData.depthAll ds))
    have x2 := k2.more_le (as' := b1 ++ b2) (fun c h => List.mem_append_right _ h) (Nat.le_max_right d.depth (PyData.depthAll ds))
    exact .cons x1 x2
/-- the entries of a dict of numbers -/
theorem dict_pieces {P : Program} {w : World} (h : Heap) : ∀ {kvs : List (Key × V)} {vs : List (Key × Value)} {es : List DictEntry},
    (∀ x ∈ kvs, ∃ i, x.2 = V.int i) → KV kvs vs → Pairs (mixKind P w) es vs →
    PyData.showableKv (kvs.map pairD) = true → (∀ t ∈ PyData.shownKv (kvs.map pairD), t.length ≤ sizeLine) →
    (∃ as, ReadsAll h (es.map (·.key)) ((kvs.map pairD).map (·.1)) as) ∧
    (∃ as, ReadsAll h (es.map (·.val)) ((kvs.map pairD).map (·.2)) as) ∧
    ReprEntriesK P w [] h (PyData.depthKv (kvs.map pairD)) es (PyData.shownKv (kvs.map pairD))
  | [], _, _, _, .nil, .nil, _, _ => ⟨⟨_, .nil⟩, ⟨_, .nil⟩, by simp only [List.map_nil, PyData.shownKv]; exact .nil⟩
  | (k, x) :: kvs, _, _, hi, .cons r t, .cons e1 e2 rest, hs, hz => by
    rename_i kv vs e es
    obtain ⟨i, hx⟩ := hi (k, x) List.mem_cons_self
    simp only at hx
    subst hx
    have hs' : ((keyD k).showable = true ∧ (valD (V.int i)).showable = true) ∧ PyData.showableKv (kvs.map pairD) = true := by
      simpa only [List.map_cons, pairD, PyData.showableKv, Bool.and_eq_true] using hs
    obtain ⟨q1, q2, q3⟩ := dict_pieces (P := P) (w := w) h (fun y hy => hi y (List.mem_cons_of_mem _ hy)) t rest hs'.2
      (fun t ht => hz t (by simp only [List.map_cons, pairD, PyData.shownKv]; exact List.mem_cons_of_mem _ ht))
    obtain ⟨kk, rv⟩ := r
    simp only at kk rv
    obtain ⟨t0, ev⟩ := rv
    obtain ⟨as1, q1⟩ := q1
    obtain ⟨as2, q2⟩ := q2
    have eval : e.val = Value.int i t0 := e2.trans ev
    have len1 := hz ((keyD k).shown ++ ": " ++ (valD (V.int i)).shown) (by simp only [List.map_cons, pairD, PyData.shownKv]; exact List.mem_cons_self)
    rw [strLen_append, strLen_append] at len1
    have hkey : (∃ as, Reads h e.key (keyD k) as) ∧ ReprIs P w e.key (keyD k).shown := by
      rw [← kk] at e1
      rcases keyIs_shape (show keyIs k e.key = true from e1) with ⟨j, u, rfl, ek⟩ | ⟨z, u, rfl, ek⟩
      · rw [ek]
        refine ⟨⟨_, .int j u⟩, ?_⟩
        simp only [keyD, PyData.shown]
        exact ReprIs.int u (by simpa only [keyD, PyData.showable, decide_eq_true_eq] using hs'.1.1)
      · rw [ek]
        refine ⟨⟨_, .str z u⟩, ?_⟩
        simp only [keyD, PyData.shown] at len1 ⊢
        exact ReprIs.str z u (by omega)
    have hval : (∃ as, Reads h e.val (valD (V.int i)) as) ∧ ReprIs P w e.val (valD (V.int i)).shown := by
      rw [eval]
      refine ⟨⟨_, .int i t0⟩, ?_⟩
      simp only [valD, PyData.shown]
      exact ReprIs.int t0 (by simpa only [valD, PyData.showable, decide_eq_true_eq] using hs'.1.2)
    obtain ⟨⟨as3, r3⟩, k3⟩ := hkey
    obtain ⟨⟨as4, r4⟩, k4⟩ := hval
    refine ⟨⟨_, .cons r3 q1⟩, ⟨_, .cons r4 q2⟩, ?_⟩
    simp only [List.map_cons, pairD, PyData.shownKv]
    have up : ∀ {es : List DictEntry} {ps : List Str} {a b : Nat}, a ≤ b → ReprEntriesK P w [] h a es ps → ReprEntriesK P w [] h b es ps := by
      intro es ps a b hab z
      induction z with
      | nil => exact .nil
      | cons z1 z2 _ ih => exact .cons (z1.level_le hab) (z2.level_le hab) ih
    refine .cons (.of_is k3 _ _ _) (.of_is k4 _ _ _) (up ?_ q3)
    simp only [PyData.depthKv]
    omega
mutual
theorem Dt.shows (I : Inv X pins σ H s) : ∀ {d : PyData} {v : V} {u : Value}, Dt H p v d → RelV v u →
    d.showable = true → d.shown.length ≤ sizeLine → Shows X s u d
  | _, _, _, .non, r, _, _ => by
    cases r
    exact .leaf ⟨_, .none⟩ (by simp only [PyData.shown]; exact ReprIs.none)
  | _, _, _, .bl b, r, _, _ => by
    cases r
    exact .leaf ⟨_, .bool b⟩ (by simp only [PyData.shown]; exact ReprIs.bool b)
  | _, _, _, .int i, r, hs, _ => by
    obtain ⟨t, rfl⟩ := r
    exact .leaf ⟨_, .int i t⟩ (by simp only [PyData.shown]; exact ReprIs.int t (by simpa only [PyData.showable, decide_eq_true_eq] using hs))
  | _, _, _, .str x, r, _, hz => by
    obtain ⟨t, rfl⟩ := r
    simp only [PyData.shown] at hz
    exact .leaf ⟨_, .str x t⟩ (by simp only [PyData.shown]; exact ReprIs.str x t hz)
  | .list ds, _, _, .lst (a := a) (xs := xs) n rd ha, r, hs, hz => by
    cases r
    obtain ⟨its, rv, ⟨o, k, ho, hc, _, hd⟩, _⟩ := I.list (SqL.of rd)
    have hz' : (listText (PyData.shownAll ds)).length ≤ sizeLine := by simpa only [PyData.shown] using hz
    obtain ⟨⟨as, rr⟩, bs, m, kk⟩ := DtAll.shows I ha rv (by simpa only [PyData.showable] using hs) (fun t ht => Nat.le_trans (listText_mem_le ht) hz')
    have whole : Reads s.heap (.ref a) (.list ds) _ := .list ho hc hd (by simpa using rr)
    have lt : PyData.depthAll ds < (PyData.list ds).depth := by simp only [PyData.depth]; omega
    have out := not_mem_of_deeper whole lt m
    refine ⟨⟨_, whole⟩, a :: bs, ReadAtMost.cons whole (Nat.le_of_lt lt) m, ?_⟩
    simp only [PyData.depth, PyData.shown]
    cases its with
    | nil =>
      cases rr
      simp only [PyData.shownAll, listText_nil]
      exact ReprK.listEmpty ho hc (by simpa using hd)
    | cons y l => exact ReprK.list ho hc (by simpa using hd) out (by simpa using kk.length_eq) (fun i z e => kk.item i z (by simpa using e))
  | .tuple ds, _, _, .tup (a := a) n rd ha, r, hs, hz => by
    cases r
    obtain ⟨its, rv, ⟨o, ho, hc, k, hd⟩, _⟩ := I.tuple (SqT.of rd)
    have hz' : (tupleText (PyData.shownAll ds)).length ≤ sizeLine := by simpa only [PyData.shown] using hz
    obtain ⟨⟨as, rr⟩, bs, m, kk⟩ := DtAll.shows I ha rv (by simpa only [PyData.showable] using hs) (fun t ht => Nat.le_trans (tupleText_mem_le ht) hz')
    have whole : Reads s.heap (.ref a) (.tuple ds) _ := .tuple ho hc hd (by simpa using rr)
    have lt : PyData.depthAll ds < (PyData.tuple ds).depth := by simp only [PyData.depth]; omega
    have out := not_mem_of_deeper whole lt m
    refine ⟨⟨_, whole⟩, a :: bs, ReadAtMost.cons whole (Nat.le_of_lt lt) m, ?_⟩
    simp only [PyData.depth, PyData.shown]
    exact ReprK.tuple ho hc hd out (by simpa using kk)
  | _, _, _, .dct (a := a) (kvs := kvs) n rd hi, r, hs, hz => by
    cases r
    obtain ⟨_, no1, vs, rel, o, es, ep, ho, hx, hd, _, hp, _⟩ := dk_of I.hok rd
    have hz' : (dictText (PyData.shownKv (kvs.map pairD))).length ≤ sizeLine := by simpa only [PyData.shown] using hz
    obtain ⟨⟨as1, r1⟩, ⟨as2, r2⟩, ents⟩ := dict_pieces s.heap hi rel hp (by simpa only [PyData.showable] using hs) (fun t ht => Nat.le_trans (dictText_mem_le ht) hz')
    have whole : Reads s.heap (.ref a) (.dict (kvs.map pairD)) _ := .dict ho hx.1 hd r1 r2
    have m : ReadAtMost s.heap (PyData.depthKv (kvs.map pairD)) [] := fun _ z => by cases z
    have lt : PyData.depthKv (kvs.map pairD) < (PyData.dict (kvs.map pairD)).depth := by simp only [PyData.depth]; omega
    refine ⟨⟨_, whole⟩, [a], ReadAtMost.cons whole (Nat.le_of_lt lt) m, ?_⟩
    simp only [PyData.depth, PyData.shown]
    exact ReprK.dict ho hx.1 hd no1 List.not_mem_nil ents
theorem DtAll.shows (I : Inv X pins σ H s) : ∀ {ds : List PyData} {vs : List V} {us : List Value}, DtAll H p vs ds → Vals vs us →
    PyData.showableAll ds = true → (∀ t ∈ PyData.shownAll ds, t.length ≤ sizeLine) → ShowsAll X s us ds
  | _, _, _, .nil, r, _, _ => by
    cases r
    exact ⟨⟨_, .nil⟩, [], (fun _ z => by cases z), by simp only [PyData.shownAll]; exact .nil⟩
  | _, _, _, .cons a b, r, hs, hz => by
    cases r with
    | cons r1 r2 =>
      have hs' := hs
      simp only [PyData.showableAll, Bool.and_eq_true] at hs'
      exact .cons (Dt.shows I a r1 hs'.1 (hz _ (by simp only [PyData.shownAll]; exact List.mem_cons_self)))
        (DtAll.shows I b r2 hs'.2 fun t ht => hz t (by simp only [PyData.shownAll]; exact List.mem_cons_of_mem _ ht))
end
end
end Cm
namespace Cm
open PySem PySem.Spec PyProof.Rows L2
section
variable {X : Cx} {pins : List (Addr × Obj)} {σ : L2.St} {H : Hp} {s : Shared} {p : Addr}
theorem old_keeps {s : Shared} : ∀ b o, s.heap.get? b = some o → s.heap.get? b = some o := fun _ _ e => e
/-- repr(x) of data, no repr being under way -/
theorem repr_run (I : Inv X pins σ H s) (hg : X.A.guards = some []) (hu : X.A.units + 64 < cLine) {Q : Value → Shared → Prop} {E : Value → Shared → Prop} :
    ∀ {d : PyData} {v : V} {u : Value}, Dt H p v d → RelV v u → d.showable = true → d.depth ≤ 60 → d.shown.length ≤ sizeLine →
    (∀ h' t tk, (∀ b o, s.heap.get? b = some o → h'.get? b = some o) → Q (.str d.shown t) { s with heap := h', toks := tk }) →
    wpAny (model X.prog X.w) X.A (call (.builtin "repr") [u]) Q E s
  | _, _, _, .non, r, _, _, _, q => by
    cases r
    simp only [PyData.shown] at q
    exact PySem.P.repr_of_none (q s.heap _ _ old_keeps)
  | _, _, _, .bl b, r, _, _, _, q => by
    cases r
    simp only [PyData.shown] at q
    exact PySem.P.repr_of_bool (q s.heap _ _ old_keeps)
  | _, _, _, .int i, r, hs, _, _, q => by
    obtain ⟨t, rfl⟩ := r
    simp only [PyData.shown] at q
    exact PySem.P.repr_of_int (by simpa only [PyData.showable, decide_eq_true_eq] using hs) (q s.heap _ _ old_keeps)
  | _, _, _, .str x, r, _, _, hz, q => by
    obtain ⟨t, rfl⟩ := r
    simp only [PyData.shown] at q hz
    exact PySem.P.repr_of_str (q s.heap _ _ old_keeps) hz
  | .list ds, _, _, .lst (a := a) (xs := xs) n rd ha, r, hs, hd, hz, q => by
    cases r
    obtain ⟨its, rv, ⟨o, k, ho, hc, _, hdat⟩, _⟩ := I.list (SqL.of rd)
    have hz' : (listText (PyData.shownAll ds)).length ≤ sizeLine := by simpa only [PyData.shown] using hz
    obtain ⟨⟨as, rr⟩, bs, m, kk⟩ := DtAll.shows I ha rv (by simpa only [PyData.showable] using hs) (fun t ht => Nat.le_trans (listText_mem_le ht) hz')
    have whole : Reads s.heap (.ref a) (.list ds) _ := .list ho hc hdat (by simpa using rr)
    have lt : PyData.depthAll ds < (PyData.list ds).depth := by simp only [PyData.depth]; omega
    have out := not_mem_of_deeper whole lt m
    refine call_repr_slot (by omega) ⟨o, ho, hc⟩ F.slot_list_repr.toG ?_
    simp only [PyData.shown] at q
    cases its with
    | nil =>
      cases rr
      simp only [PyData.shownAll, listText_nil] at q
      exact call_list_repr_empty ⟨o, ho, hc⟩ ho (by simpa using hdat) ⟨_, _, rfl, q s.heap _ _ old_keeps⟩
    | cons y l =>
      exact call_list_reprK ho hc (by simpa using hdat) out (by simpa using kk.length_eq) (fun i z e => kk.item i z (by simpa using e))
        (A := X.A.in1) hg (fun b _ => Clear.nil b) (by show X.A.units + 1 + _ < cLine; omega) old_keeps (fun h' t tk hk => ⟨_, _, rfl, q h' t tk hk⟩) hz'
  | .tuple ds, _, _, .tup (a := a) n rd ha, r, hs, hd, hz, q => by
    cases r
    obtain ⟨its, rv, ⟨o, ho, hc, k, hdat⟩, _⟩ := I.tuple (SqT.of rd)
    have hz' : (tupleText (PyData.shownAll ds)).length ≤ sizeLine := by simpa only [PyData.shown] using hz
    obtain ⟨⟨as, rr⟩, bs, m, kk⟩ := DtAll.shows I ha rv (by simpa only [PyData.showable] using hs) (fun t ht => Nat.le_trans (tupleText_mem_le ht) hz')
    have whole : Reads s.heap (.ref a) (.tuple ds) _ := .tuple ho hc hdat (by simpa using rr)
    have lt : PyData.depthAll ds < (PyData.tuple ds).depth := by simp only [PyData.depth]; omega
    have out := not_mem_of_deeper whole lt m
    refine call_repr_slot (by omega) ⟨o, ho, hc⟩ F.slot_tuple_repr ?_
    simp only [PyData.shown] at q
    exact call_tuple_reprK ho hc hdat out (by simpa using kk) (A := X.A.in1) hg (fun b _ => Clear.nil b)
      (by show X.A.units + 1 + _ < cLine; omega) old_keeps (fun h' t tk hk => ⟨_, _, rfl, q h' t tk hk⟩) hz'
  | _, _, _, .dct (a := a) (kvs := kvs) n rd hi, r, hs, hd, hz, q => by
    cases r
    obtain ⟨_, no1, vs, rel, o, es, ep, ho, hx, hdat, _, hp, _⟩ := dk_of I.hok rd
    have hz' : (dictText (PyData.shownKv (kvs.map pairD))).length ≤ sizeLine := by simpa only [PyData.shown] using hz
    obtain ⟨⟨as1, r1⟩, ⟨as2, r2⟩, ents⟩ := dict_pieces s.heap hi rel hp (by simpa only [PyData.showable] using hs) (fun t ht => Nat.le_trans (dictText_mem_le ht) hz')
    simp only [PyData.depth] at hd
    simp only [PyData.shown] at q
    refine call_repr_slot (by omega) ⟨o, ho, hx.1⟩ F.slot_dict_repr ?_
    exact call_dict_reprK ho hx.1 hdat no1 List.not_mem_nil ents (A := X.A.in1) hg (fun b _ => Clear.nil b)
      (by show X.A.units + 1 + _ < cLine; omega) old_keeps (fun h' t tk hk => ⟨_, _, rfl, q h' t tk hk⟩) hz'
/-- data that is told within the lines -/
structure Fit (m n : Nat) (d : PyData) : Prop where
  leaves : d.leavesShort 250 = true
  sh : d.showable = true
  dp : d.depth ≤ m
  bk : d.bulk ≤ n
theorem Fit.shown {m n : Nat} {d : PyData} (f : Fit m n d) (h : n ≤ 60000) : d.shown.length ≤ sizeLine := by
  have h1 := PyData.shown_le_bulk 250 (by decide) d f.leaves
  have h2 := f.bk
  have h3 : (250 + 2) * d.bulk ≤ 252 * 60000 := Nat.mul_le_mul (Nat.le_refl _) (Nat.le_trans h2 h)
  have h4 : 252 * 60000 + 250 ≤ sizeLine := by decide
  omega
/-- repr(x) -/
def rRepr (p : Addr) : List V → Hp → VK → Prop := fun xs H Q => ∃ (x : V) (d : PyData), xs = [x] ∧ Dt H p x d ∧ Fit 60 60000 d ∧ Q (.str d.shown) H
theorem call_repr (hg : X.A.guards = some []) (hu : X.A.units + 64 < cLine) (p : Addr) : CallR X (.builtin "repr") (rRepr p) := by
  intro pins s σ H xs us Q I r h
  obtain ⟨x, d, rfl, hd, f, q⟩ := h
  cases r with
  | cons rx rt =>
    cases rt
    exact repr_run I hg hu hd rx f.sh f.dp (f.shown (Nat.le_refl _)) fun h' t tk hk => ⟨.str d.shown, H, I.kept hk, ⟨_, rfl⟩, q⟩
end
end Cm
set_option Elab.async false
set_option linter.all false
set_option maxRecDepth 100000
set_option maxHeartbeats 4000000
/-! ## 3. Steps of a reading -/
namespace Cm
open PySem PySem.Spec PyProof.Rows L2
section
variable {K : PySem.W.Frag} {H : Hp} {Q : VK} {σ : L2.St} {D : Ends}
theorem r_var {i : Nat} {v : V} (h : σ[i]? = some (some v)) (q : Q v H) : tVar i σ H Q := ⟨v, h, q⟩
theorem r_c {v : V} (q : Q v H) : tC v σ H Q := q
theorem r_op {r : R2} {ta tb : TE} (q : ta σ H fun x H1 => tb σ H1 fun y H2 => r x y H2 Q) : tOp r ta tb σ H Q := q
theorem r_un {r : V → Hp → VK → Prop} {ta : TE} (q : ta σ H fun x H1 => r x H1 Q) : tUn r ta σ H Q := q
theorem r_rI0 {g : Int → Int → V} {i j : Int} (q : Q (g i j) H) : rI0 g (.int i) (.int j) H Q := ⟨i, j, rfl, rfl, q⟩
theorem r_rI {C : Int → Int → Prop} {g : Int → Int → V} {i j : Int} (c : C i j) (q : Q (g i j) H) :
    rI C g (.int i) (.int j) H Q := ⟨i, j, rfl, rfl, c, q⟩
theorem r_rU {g : Int → V} {i : Int} (q : Q (g i) H) : rU g (.int i) H Q := ⟨i, rfl, q⟩
theorem r_eqI {i j : Int} (q : Q (.bl (decide (i = j))) H) : rEq (.int i) (.int j) H Q := by
  refine ⟨rfl, ?_⟩
  rw [show decide (V.int i = V.int j) = decide (i = j) from by
    by_cases h : i = j
    · rw [h, decide_eq_true rfl, decide_eq_true rfl]
    · rw [decide_eq_false h, decide_eq_false (fun z => h (V.int.inj z))]]
  exact q
theorem r_neI {i j : Int} (q : Q (.bl (!decide (i = j))) H) : rNe (.int i) (.int j) H Q := by
  refine ⟨rfl, ?_⟩
  rw [show decide (V.int i = V.int j) = decide (i = j) from by
    by_cases h : i = j
    · rw [h, decide_eq_true rfl, decide_eq_true rfl]
    · rw [decide_eq_false h, decide_eq_false (fun z => h (V.int.inj z))]]
  exact q
theorem r_eqS {i j : Str} (q : Q (.bl (decide (i = j))) H) : rEq (.str i) (.str j) H Q := by
  refine ⟨rfl, ?_⟩
  rw [show decide (V.str i = V.str j) = decide (i = j) from by
    by_cases h : i = j
    · rw [h, decide_eq_true rfl, decide_eq_true rfl]
    · rw [decide_eq_false h, decide_eq_false (fun z => h (V.str.inj z))]]
  exact q
theorem r_neS {i j : Str} (q : Q (.bl (!decide (i = j))) H) : rNe (.str i) (.str j) H Q := by
  refine ⟨rfl, ?_⟩
  rw [show decide (V.str i = V.str j) = decide (i = j) from by
    by_cases h : i = j
    · rw [h, decide_eq_true rfl, decide_eq_true rfl]
    · rw [decide_eq_false h, decide_eq_false (fun z => h (V.str.inj z))]]
  exact q
theorem r_nil {Q : List V → Hp → Prop} (q : Q [] H) : tNil σ H Q := q
theorem r_cons {ta : TE} {tr : TA} {Q : List V → Hp → Prop} (q : ta σ H fun x H1 => tr σ H1 fun xs H2 => Q (x :: xs) H2) :
    tCons ta tr σ H Q := q
theorem r_tup {t : TA} (q : t σ H fun xs H1 => xs.length ≤ sizeLine ∧ ∀ p, H1 p = none → Q (.ref p) (upd H1 p (.tup xs))) : tTup t σ H Q := q
theorem r_lst {t : TA} (q : t σ H fun xs H1 => xs.length ≤ sizeLine ∧ ∀ p, H1 p = none → Q (.ref p) (upd H1 p (.lst xs))) : tLst t σ H Q := q
theorem r_small {n : Nat} {P : Prop} (h : n ≤ 1000) (q : P) : n ≤ sizeLine ∧ P := ⟨Nat.le_trans h (by decide), q⟩
theorem r_cb {r : List V → Hp → VK → Prop} {t : TA} (q : t σ H fun vs H1 => r vs H1 Q) : tCB r t σ H Q := q
theorem r_call {sp : Sp} {dvs : List V} {E : XK} {t : TA} (q : t σ H fun vs H1 => sp (vs ++ dvs) H1 Q E) : tCall sp dvs E t σ H Q := q
theorem r_if {t : TT} {ta tb : TE} (q : t σ H fun c H1 => if c = true then ta σ H1 Q else tb σ H1 Q) : tIf t ta tb σ H Q := q
theorem r_test {t : TE} {Q : Bool → Hp → Prop} (q : t σ H fun x H' => ∃ k, x = .bl k ∧ Q k H') : tTest t σ H Q := q
theorem r_B {t : TE} {Q : Bool → Hp → Prop} (q : t σ H fun x H1 => ∃ c, x = .bl c ∧ Q c H1) : tB t σ H Q := q
theorem r_isbl {b : Bool} {Q : Bool → Prop} (q : Q b) : ∃ c, V.bl b = V.bl c ∧ Q c := ⟨b, rfl, q⟩
theorem r_and {t u : TT} {Q : Bool → Hp → Prop} (q : t σ H fun c H1 => if c = true then u σ H1 Q else Q false H1) : tAnd t u σ H Q := q
theorem r_or {t u : TT} {Q : Bool → Hp → Prop} (q : t σ H fun c H1 => if c = true then Q true H1 else u σ H1 Q) : tOr t u σ H Q := q
theorem r_not {t : TT} {Q : Bool → Hp → Prop} (q : t σ H fun c H1 => Q (!c) H1) : tNot t σ H Q := q
theorem r_andV {ta tb : TE} (q : ta σ H fun x H1 => ∃ c, x = .bl c ∧ if c = true then tb σ H1 Q else Q (.bl false) H1) : tAndV ta tb σ H Q := q
theorem r_orV {ta tb : TE} (q : ta σ H fun x H1 => ∃ c, x = .bl c ∧ if c = true then Q (.bl true) H1 else tb σ H1 Q) : tOrV ta tb σ H Q := q
theorem r_notV {ta : TE} (q : ta σ H fun x H1 => ∃ c, x = .bl c ∧ Q (.bl (!c)) H1) : tNotV ta σ H Q := q
theorem r_chain {r r' : R2} {ta tb tc : TE} (q : ta σ H fun x H1 => tb σ H1 fun y H2 => r x y H2 fun z H3 => ∃ k, z = .bl k ∧
    if k = true then tc σ H3 fun u H4 => r' y u H4 Q else Q (.bl false) H3) : tChain r r' ta tb tc σ H Q := q
theorem r_ite {c : Bool} {A B : Prop} (h1 : c = true → A) (h2 : c = false → B) : if c = true then A else B := by
  cases c with
  | true => exact iteT (h1 rfl)
  | false => exact iteF (h2 rfl)
-- statements
theorem r_next (q : D.nx σ H) : tNext D σ H := q
theorem r_seq {t u : TS} (q : t { nx := u D, rt := D.rt, bk := D.bk, ct := D.ct } σ H) : tSeq t u D σ H := q
theorem r_ret {te : TE} (q : te σ H D.rt) : tRet te D σ H := q
theorem r_retN (q : D.rt .non H) : tRetN D σ H := q
theorem r_drop {te : TE} (q : te σ H fun _ H1 => D.nx σ H1) : tDrop te D σ H := q
theorem r_ifS {c : TT} {t u : TS} (q : c σ H fun b H1 => if b = true then t D σ H1 else u D σ H1) : tIfS c t u D σ H := q
theorem r_asg {te : TE} {g : TG} (q : te σ H fun x H1 => g x σ H1 D.nx) : tAsg te g D σ H := q
theorem r_break (q : D.bk σ H) : tBreak D σ H := q
theorem r_cont (q : D.ct σ H) : tCont D σ H := q
theorem r_gname {i : Nat} {v : V} {Q : L2.St → Hp → Prop} {σ' : L2.St} (e : σ.set i (some v) = σ') (q : Q σ' H) : gName i v σ H Q := by
  subst e; exact q
theorem r_gsub {to ti : TE} {t : TSet} {v : V} {Q : L2.St → Hp → Prop} (q : to σ H fun o H1 => ti σ H1 fun i H2 => t o i v H2 fun H3 => Q σ H3) :
    gSub to ti t v σ H Q := q
theorem r_gnil {Q : L2.St → Hp → Prop} (q : Q σ H) : gNil [] σ H Q := ⟨rfl, q⟩
theorem r_gcons {t : TG} {u : TGs} {v : V} {r : List V} {Q : L2.St → Hp → Prop} (q : t v σ H fun σ' H' => u r σ' H' Q) : gCons t u (v :: r) σ H Q := ⟨v, r, rfl, q⟩
theorem r_gtup {n : Nat} {t : TGs} {a : Addr} {xs : List V} {Q : L2.St → Hp → Prop} (h : H a = some (.tup xs)) (e : xs.length = n) (q : t xs σ H Q) :
    gTup K n t (.ref a) σ H Q := ⟨a, xs, rfl, SqT.of h, e, q⟩
theorem r_par {i j : Nat} {ta : TA} (q : ta σ H fun vs H1 => ∃ v w, vs = [v, w] ∧ D.nx ((σ.set i (some v)).set j (some w)) H1) : tPar i j ta D σ H := q
theorem r_par3 {i j l : Nat} {ta : TA} (q : ta σ H fun vs H1 => ∃ u v w, vs = [u, v, w] ∧ D.nx (((σ.set i (some u)).set j (some v)).set l (some w)) H1) : tPar3 i j l ta D σ H := q
theorem r_two {v w : V} {Q : V → V → Prop} (q : Q v w) : ∃ x y, [v, w] = [x, y] ∧ Q x y := ⟨v, w, rfl, q⟩
theorem r_three {u v w : V} {Q : V → V → V → Prop} (q : Q u v w) : ∃ x y z, [u, v, w] = [x, y, z] ∧ Q x y z := ⟨u, v, w, rfl, q⟩
-- items
theorem r_ixL {p : Addr} {xs : List V} {i : Int} {v : V} (h : H p = some (.lst xs)) (e : atI xs i = some v) (q : Q v H) : rIx K (.ref p) (.int i) H Q :=
  .inl ⟨p, xs, i, v, rfl, rfl, SqL.of h, e, q⟩
theorem r_ixT {p : Addr} {xs : List V} {i : Int} {v : V} (h : H p = some (.tup xs)) (e : atI xs i = some v) (q : Q v H) : rIx K (.ref p) (.int i) H Q :=
  .inr (.inl ⟨p, xs, i, v, rfl, rfl, SqT.of h, e, q⟩)
theorem r_ixS {z : Str} {i : Int} {c : Nat} (h : z.length ≤ sizeLine) (e : atI z.cps.toList i = some c) (q : Q (.str ⟨#[c]⟩) H) : rIx K (.str z) (.int i) H Q :=
  .inr (.inr ⟨z, i, c, rfl, rfl, h, e, q⟩)
theorem atI_in {α : Type} {xs : List α} {i : Int} (h0 : 0 ≤ i) (h : i < xs.length) : ∃ v, v ∈ xs ∧ atI xs i = some v := by
  obtain ⟨k, rfl⟩ := Int.eq_ofNat_of_zero_le h0
  have hk : k < xs.length := by omega
  exact ⟨xs[k], List.getElem_mem hk, atI_nat (List.getElem?_eq_getElem hk)⟩
/-- an item of a list at a drawn place -/
theorem r_pickL {p : Addr} {xs : List V} {i : Int} (h : H p = some (.lst xs)) (h0 : 0 ≤ i) (h1 : i < xs.length) (q : ∀ v, v ∈ xs → Q v H) : rIx K (.ref p) (.int i) H Q := by
  obtain ⟨v, m, e⟩ := atI_in h0 h1
  exact r_ixL h e (q v m)
theorem r_setL {p : Addr} {xs ys : List V} {k : Int} {j : Nat} {v : V} {Q : Hp → Prop} (h : H p = some (.lst xs)) (e : ixN xs.length k = some j) (e2 : xs.set j v = ys) (q : Q (upd H p (.lst ys))) :
    rSetL (.ref p) (.int k) v H Q := ⟨p, xs, k, j, rfl, rfl, h, e, e2 ▸ q⟩
theorem r_setAt {p : Addr} {xs : List V} {k : Int} {v : V} {Q : Hp → Prop} (h : H p = some (.lst xs)) (h0 : 0 ≤ k) (h1 : k < xs.length) (q : Q (upd H p (.lst (xs.set k.toNat v)))) :
    rSetL (.ref p) (.int k) v H Q := ⟨p, xs, k, k.toNat, rfl, rfl, h, by unfold ixN; rw [if_pos h0, if_pos h1], q⟩
theorem iteT_of {c : Bool} {A B : Prop} (e : c = true) (h : A) : if c = true then A else B := by rw [e]; exact iteT h
theorem iteF_of {c : Bool} {A B : Prop} (e : c = false) (h : B) : if c = true then A else B := by rw [e]; exact iteF h
theorem r_conv {a b : Bool} (e : a = b) (q : Q (.bl a) H) : Q (.bl b) H := e ▸ q
theorem r_itup {te : TE} {R : It → Hp → Prop} (q : te σ H fun x H1 => ∃ a, x = .ref a ∧ (∃ xs, SqT K H1 a xs) ∧ R (Itt K a) H1) : iTup K te σ H R := q
theorem r_ilst {te : TE} {R : It → Hp → Prop} (q : te σ H fun x H1 => ∃ a, x = .ref a ∧ (∃ xs, SqL K H1 a xs) ∧ R (Itl K a) H1) : iList K te σ H R := q
theorem r_atT {a : Addr} {xs : List V} {R : Addr → Prop} (h : H a = some (.tup xs)) (q : R a) : ∃ b, V.ref a = .ref b ∧ (∃ xs, SqT K H b xs) ∧ R b := ⟨a, rfl, ⟨xs, SqT.of h⟩, q⟩
theorem r_atL {a : Addr} {xs : List V} {R : Addr → Prop} (h : H a = some (.lst xs)) (q : R a) : ∃ b, V.ref a = .ref b ∧ (∃ xs, SqL K H b xs) ∧ R b := ⟨a, rfl, ⟨xs, SqL.of h⟩, q⟩
theorem r_irng1 {ta : TA} {R : It → Hp → Prop} (q : ta σ H fun vs H1 => ∃ j : Int, vs = [.int j] ∧ -(2 ^ 62) ≤ j ∧ j < 2 ^ 62 ∧ R (Itr 0 j.toNat) H1) : iRng1 ta σ H R := q
theorem r_rng {i : Int} {R : Int → Prop} (h : -(2 ^ 62) ≤ i) (h' : i < 2 ^ 62) (q : R i) : ∃ j : Int, [V.int i] = [.int j] ∧ -(2 ^ 62) ≤ j ∧ j < 2 ^ 62 ∧ R j := ⟨i, rfl, h, h', q⟩
theorem r_append {l : Addr} {xs : List V} {y : V} (h : H l = some (.lst xs)) (e : xs.length < 1000) (q : Q .non (upd H l (.lst (xs ++ [y])))) :
    rAppend (.ref l) [y] H Q := ⟨l, xs, y, rfl, rfl, h, Nat.lt_of_lt_of_le e (by decide), q⟩
theorem r_bm {T : String} {r : V → List V → Hp → VK → Prop} {to : TE} {t : TA}
    (q : to σ H fun x H1 => tyV K T x H1 ∧ t σ H1 fun xs H2 => r x xs H2 Q) : tBM K T r to t σ H Q := q
theorem r_bm0 {T : String} {r : V → List V → Hp → VK → Prop} {to : TE}
    (q : to σ H fun x H1 => tyV K T x H1 ∧ r x [] H1 Q) : tBM0 K T r to σ H Q := q
theorem r_tyL {l : Addr} {xs : List V} {P : Prop} (h : H l = some (.lst xs)) (q : P) : tyV K "list" (.ref l) H ∧ P :=
  ⟨Or.inl ⟨rfl, _, SqL.of h⟩, q⟩
theorem r_tyS {z : Str} {P : Prop} (q : P) : tyV K "str" (.str z) H ∧ P := ⟨rfl, q⟩
end
/-! ### operators of several kinds of things -/
theorem opOr {X : Cx} {f : Value → Value → Sem Value} {r r' : R2} (h : OpR X f r) (h' : OpR X f r') :
    OpR X f (fun x y H Q => r x y H Q ∨ r' x y H Q) := by
  intro pins s σ H x y v u Q I rx ry q
  rcases q with q | q
  · exact h pins s σ H x y v u Q I rx ry q
  · exact h' pins s σ H x y v u Q I rx ry q
theorem callOr {X : Cx} {f : Value} {r r' : List V → Hp → VK → Prop} (h : CallR X f r) (h' : CallR X f r') :
    CallR X f (fun xs H Q => r xs H Q ∨ r' xs H Q) := by
  intro pins s σ H xs us Q I rx q
  rcases q with q | q
  · exact h pins s σ H xs us Q I rx q
  · exact h' pins s σ H xs us Q I rx q
def rAddS : R2 := fun x y H Q => ∃ i j, x = .str i ∧ y = .str j ∧ i.length + j.length ≤ sizeLine ∧ Q (.str (i ++ j)) H
/-- + -/
def rPlus (K : PySem.W.Frag) : R2 := fun x y H Q => rI0 (fun i j => .int (i + j)) x y H Q ∨ (rAddS x y H Q ∨ (rCat x y H Q ∨ rCatA K x y H Q))
theorem op_plus {X : Cx} : OpR X (binaryOp .Add) (rPlus X.K) := opOr op_add (opOr op_add_str (opOr op_cat op_catA))
/-- * -/
def rTimes (K : PySem.W.Frag) : R2 := fun x y H Q => rI CMulW (fun i j => .int (i * j)) x y H Q ∨ (rRep x y H Q ∨ rRepT K x y H Q)
theorem op_times {X : Cx} : OpR X (binaryOp .Mult) (rTimes X.K) := opOr op_mulW (opOr op_rep op_repT)
/-- == and != -/
def rSame (K : PySem.W.Frag) : R2 := fun x y H Q => rEq x y H Q ∨ rEqD K x y H Q
def rUnlike (K : PySem.W.Frag) : R2 := fun x y H Q => rNe x y H Q ∨ rNeD K x y H Q
theorem op_same {X : Cx} (hu : X.A.units + 64 < cLine) : OpR X (compareOp .Eq) (rSame X.K) := opOr op_eq (op_eqD hu)
theorem op_unlike {X : Cx} (hu : X.A.units + 64 < cLine) : OpR X (compareOp .NotEq) (rUnlike X.K) := opOr op_ne (op_neD hu)
/-- // -/
def rDiv : R2 := rI CDivW fun i j => .int (i / j)
def rMod : R2 := rI (fun _ j => 0 < j) fun i j => .int (i % j)
theorem op_div {X : Cx} : OpR X (binaryOp .FloorDiv) rDiv := op_fdivW
theorem op_rest {X : Cx} : OpR X (binaryOp .Mod) rMod := op_mod
def rPow : R2 := rI CPow fun i j => .int (i ^ j.toNat)
theorem op_power {X : Cx} : OpR X (binaryOp .Pow) rPow := op_pow
def rLen (K : PySem.W.Frag) : List V → Hp → VK → Prop := fun xs H Q => ∃ x n, xs = [x] ∧ LenV K x H n ∧ Q (.int n) H
theorem call_size {X : Cx} : CallR X (.builtin "len") (rLen X.K) := call_len
def rMin2 : List V → Hp → VK → Prop := fun xs H Q => ∃ i j, xs = [.int i, .int j] ∧ Q (.int (if j < i then j else i)) H
def rMax2 : List V → Hp → VK → Prop := fun xs H Q => ∃ i j, xs = [.int i, .int j] ∧ Q (.int (if j > i then j else i)) H
theorem call_least {X : Cx} (hc : X.calm = true) : CallR X (.builtin "min") rMin2 := call_min2 hc
theorem call_most {X : Cx} (hc : X.calm = true) : CallR X (.builtin "max") rMax2 := call_max2 hc
def rListOf (K : PySem.W.Frag) : List V → Hp → VK → Prop := fun xs H Q => ∃ p ys, xs = [.ref p] ∧ (SqL K H p ys ∨ SqT K H p ys) ∧ ∀ l, H l = none → Q (.ref l) (upd H l (.lst ys))
theorem call_listed {X : Cx} : CallR X (.type "list") (rListOf X.K) := call_list_of
def rTupOf (K : PySem.W.Frag) : List V → Hp → VK → Prop := fun xs H Q => ∃ p ys, xs = [.ref p] ∧ ((SqL K H p ys ∧ ∀ l, H l = none → Q (.ref l) (upd H l (.tup ys))) ∨ (SqT K H p ys ∧ Q (.ref p) H))
theorem call_tupled {X : Cx} : CallR X (.type "tuple") (rTupOf X.K) := call_tuple_of
def rSlS : V → Option Int → Option Int → Hp → VK → Prop := fun x lo hi H Q => ∃ z : Str, x = .str z ∧ z.length ≤ sizeLine ∧ Q (.str (cutS z lo hi)) H
def rCut (K : PySem.W.Frag) : V → Option Int → Option Int → Hp → VK → Prop := fun x lo hi H Q => rSlL K x lo hi H Q ∨ (rSlA K x lo hi H Q ∨ rSlS x lo hi H Q)
theorem sl_cut {X : Cx} : SlR X (rCut X.K) := sl_list.or (sl_tupA.or sl_str)
def rInsert : V → List V → Hp → VK → Prop := fun x vs H Q => ∃ (l : Addr) (xs : List V) (i : Int) (y : V), x = .ref l ∧ vs = [.int i, y] ∧ H l = some (.lst xs) ∧ xs.length < sizeLine ∧ 0 ≤ i ∧ i < 2 ^ 63 ∧
    Q .non (upd H l (.lst (xs.take i.toNat ++ [y] ++ xs.drop i.toNat)))
theorem mt_ins {X : Cx} : MtR X "list.insert" rInsert := mt_insert
def rUpper : V → List V → Hp → VK → Prop := fun x xs H Q => ∃ a, x = .str a ∧ xs = [] ∧ a.length ≤ 5592405 ∧ Q (.str (Txt.upper a)) H
theorem mt_up {X : Cx} : MtR X "str.upper" rUpper := mt_upper
def rJoin (K : PySem.W.Frag) : V → List V → Hp → VK → Prop := fun x xs H Q => ∃ a p, ∃ ys : List Str, x = .str a ∧ xs = [.ref p] ∧ (SqL K H p (ys.map V.str) ∨ SqT K H p (ys.map V.str)) ∧
    (ys.map (·.length)).sum + ys.length * a.length ≤ 16777216 ∧ Q (.str (Txt.join a ys)) H
theorem mt_joined {X : Cx} : MtR X "str.join" (rJoin X.K) := mt_join
/-- the name of a kind -/
def kindD : PyData → String
  | .none => "NoneType" | .bool _ => "bool" | .int _ => "int" | .str _ => "str"
  | .list _ => "list" | .tuple _ => "tuple" | .dict _ => "dict"
theorem Dt.kind {K : PySem.W.Frag} {H : Hp} {p : Addr} {v : V} {d : PyData} (h : Dt H p v d) : TyX K H v (.type (kindD d)) := by
  cases h with
  | non => exact .base .non
  | bl b => exact .base (.bl b)
  | int i => exact .base (.int i)
  | str x => exact .base (.str x)
  | lst _ e _ => exact .base (.lst e)
  | tup _ e _ => exact .base (.tup e)
  | dct _ e _ => exact .base (.dK e)
/-- isinstance(x, T) of data -/
def isD (T : String) : PyData → Bool
  | .none => T == "NoneType" | .bool _ => T == "bool" || T == "int" | .int _ => T == "int" | .str _ => T == "str"
  | .list _ => T == "list" | .tuple _ => T == "tuple" | .dict _ => T == "dict"
theorem kit_isD {K : PySem.W.Frag} (d : PyData) {T : String} (hT : T = "int" ∨ T = "bool" ∨ T = "str" ∨ T = "tuple" ∨ T = "list" ∨ T = "dict") :
    PySem.W.kitOne K (.type (kindD d)) (.type T) = some (isD T d) := by
  refine kit_ty ?_
  rcases hT with h | h | h | h | h | h <;> subst h <;> cases d <;> simp only [kindD, isD] <;> decide +kernel
section
variable {K : PySem.W.Frag} {H : Hp} {Q : VK} {σ : L2.St}
theorem r_isi {p : Addr} {x : V} {d : PyData} {T : String} {b : Bool} (hd : Dt H p x d) (hT : T = "int" ∨ T = "bool" ∨ T = "str" ∨ T = "tuple" ∨ T = "list" ∨ T = "dict")
    (e : isD T d = b) (q : Q (.bl b) H) : rIsi K [x, .ty T] H Q := ⟨x, .ty T, _, .type T, _, rfl, .ty T, hd.kind, e ▸ kit_isD d hT, q⟩
theorem r_plusI {i j : Int} (q : Q (.int (i + j)) H) : rPlus K (.int i) (.int j) H Q := .inl ⟨i, j, rfl, rfl, q⟩
theorem r_plusS {i j : Str} (h : i.length + j.length ≤ sizeLine) (q : Q (.str (i ++ j)) H) : rPlus K (.str i) (.str j) H Q := .inr (.inl ⟨i, j, rfl, rfl, h, q⟩)
theorem r_plusL {l b : Addr} {xs zs : List V} (h : H l = some (.lst xs)) (h' : H b = some (.lst zs)) (e : xs.length + zs.length ≤ 1000)
    (q : ∀ p, H p = none → Q (.ref p) (upd H p (.lst (xs ++ zs)))) : rPlus K (.ref l) (.ref b) H Q := .inr (.inr (.inl ⟨l, b, xs, zs, rfl, rfl, h, h', Nat.le_trans e (by decide), q⟩))
theorem r_plusT {l b : Addr} {xs zs : List V} (h : H l = some (.tup xs)) (h' : H b = some (.tup zs)) (e : xs.length + zs.length ≤ sizeLine)
    (q0 : xs = [] → Q (.ref b) H) (q1 : xs ≠ [] → zs = [] → Q (.ref l) H) (q2 : xs ≠ [] → zs ≠ [] → ∀ p, H p = none → Q (.ref p) (upd H p (.tup (xs ++ zs)))) :
    rPlus K (.ref l) (.ref b) H Q := .inr (.inr (.inr ⟨l, b, xs, zs, rfl, rfl, SqT.of h, SqT.of h', e, q0, q1, q2⟩))
theorem r_timesI {i j : Int} (h : i.natAbs < 2 ^ 200) (h' : j.natAbs < 2 ^ 200) (q : Q (.int (i * j)) H) : rTimes K (.int i) (.int j) H Q :=
  .inl ⟨i, j, rfl, rfl, wide_mul h h' (by decide) (by decide) (by decide), q⟩
theorem big_of {i : Int} {b : Nat} (h : i.natAbs ≤ 2 ^ b) (hb : b < 200) : i.natAbs < 2 ^ 200 :=
  Nat.lt_of_le_of_lt h (Nat.pow_lt_pow_right (by decide) hb)
theorem r_timesL {l : Addr} {k : Int} {xs : List V} (h : H l = some (.lst xs)) (h0 : 0 ≤ k) (h1 : k ≤ 1000) (h2 : xs.length ≤ 1000)
    (q : ∀ p, H p = none → Q (.ref p) (upd H p (.lst (List.replicate k.toNat xs).flatten))) : rTimes K (.ref l) (.int k) H Q := by
  refine .inr (.inl ⟨l, k, xs, rfl, rfl, h, by omega, by omega, ?_, q⟩)
  have : xs.length * k.toNat ≤ 1000 * 1000 := Nat.mul_le_mul h2 (by omega)
  exact Nat.le_trans this (by decide)
theorem r_sameI {i j : Int} (q : Q (.bl (decide (i = j))) H) : rSame K (.int i) (.int j) H Q := .inl (r_eqI q)
theorem r_sameS {i j : Str} (q : Q (.bl (decide (i = j))) H) : rSame K (.str i) (.str j) H Q := .inl (r_eqS q)
theorem r_unlikeI {i j : Int} (q : Q (.bl (!decide (i = j))) H) : rUnlike K (.int i) (.int j) H Q := .inl (r_neI q)
theorem r_unlikeS {i j : Str} (q : Q (.bl (!decide (i = j))) H) : rUnlike K (.str i) (.str j) H Q := .inl (r_neS q)
theorem r_div {i j : Int} (h : 0 < j) (h' : j < 2 ^ 200) (q : Q (.int (i / j)) H) : rDiv (.int i) (.int j) H Q :=
  ⟨i, j, rfl, rfl, wide_div h (b := 200) (by have e : (j.natAbs : Int) = j := Int.natAbs_of_nonneg (Int.le_of_lt h); exact Int.ofNat_lt.mp (by rw [e]; exact_mod_cast h')) (by decide) (by decide), q⟩
theorem r_mod {i j : Int} (h : 0 < j) (q : Q (.int (i % j)) H) : rMod (.int i) (.int j) H Q := ⟨i, j, rfl, rfl, h, q⟩
theorem r_pow {i j : Int} (h : 0 ≤ j) (h' : j ≤ 1000000) (h2 : i.natAbs < 2 ^ 64) (q : Q (.int (i ^ j.toNat)) H) : rPow (.int i) (.int j) H Q := ⟨i, j, rfl, rfl, ⟨h, h', h2⟩, q⟩
theorem r_lenL {p : Addr} {xs : List V} (h : H p = some (.lst xs)) (q : Q (.int xs.length) H) : rLen K [.ref p] H Q := ⟨_, _, rfl, .inl ⟨xs, SqL.of h, rfl⟩, q⟩
theorem r_lenT {p : Addr} {xs : List V} (h : H p = some (.tup xs)) (q : Q (.int xs.length) H) : rLen K [.ref p] H Q := ⟨_, _, rfl, .inr ⟨xs, SqT.of h, rfl⟩, q⟩
theorem r_lenK {p : Addr} {xs : List V} (h : SqL K H p xs) (q : Q (.int xs.length) H) : rLen K [.ref p] H Q := ⟨_, _, rfl, .inl ⟨xs, h, rfl⟩, q⟩
theorem r_lenS {z : Str} (h : z.length ≤ sizeLine) (q : Q (.int z.length) H) : rLen K [.str z] H Q := ⟨_, _, rfl, ⟨h, rfl⟩, q⟩
theorem r_min2 {i j : Int} (q : Q (.int (if j < i then j else i)) H) : rMin2 [.int i, .int j] H Q := ⟨i, j, rfl, q⟩
theorem r_max2 {i j : Int} (q : Q (.int (if j > i then j else i)) H) : rMax2 [.int i, .int j] H Q := ⟨i, j, rfl, q⟩
theorem r_listL {p : Addr} {xs : List V} (h : H p = some (.lst xs)) (q : ∀ l, H l = none → Q (.ref l) (upd H l (.lst xs))) : rListOf K [.ref p] H Q := ⟨p, xs, rfl, .inl (SqL.of h), q⟩
theorem r_listT {p : Addr} {xs : List V} (h : H p = some (.tup xs)) (q : ∀ l, H l = none → Q (.ref l) (upd H l (.lst xs))) : rListOf K [.ref p] H Q := ⟨p, xs, rfl, .inr (SqT.of h), q⟩
theorem r_tupL {p : Addr} {xs : List V} (h : H p = some (.lst xs)) (q : ∀ l, H l = none → Q (.ref l) (upd H l (.tup xs))) : rTupOf K [.ref p] H Q := ⟨p, xs, rfl, .inl ⟨SqL.of h, q⟩⟩
theorem r_tupT {p : Addr} {xs : List V} (h : H p = some (.tup xs)) (q : Q (.ref p) H) : rTupOf K [.ref p] H Q := ⟨p, xs, rfl, .inr ⟨SqT.of h, q⟩⟩
theorem r_ins {l : Addr} {xs : List V} {i : Int} {y : V} (h : H l = some (.lst xs)) (e : xs.length < 100000) (h0 : 0 ≤ i) (h1 : i < 2 ^ 63)
    (q : Q .non (upd H l (.lst (xs.take i.toNat ++ [y] ++ xs.drop i.toNat)))) : rInsert (.ref l) [.int i, y] H Q := ⟨l, xs, i, y, rfl, rfl, h, Nat.lt_of_lt_of_le e (by decide), h0, h1, q⟩
theorem seq_ix {i : Int} {n : Nat} (h0 : 0 ≤ i) (h1 : i < n) : seqIndex? i n = some i.toNat := by
  have : ixN n i = some i.toNat := by
    unfold ixN
    rw [if_pos h0, if_pos h1]
  exact (ixN_seq this).1
theorem r_popAt {l : Addr} {xs : List V} {i : Int} (h : H l = some (.lst xs)) (h0 : 0 ≤ i) (h1 : i < xs.length) (hs : i < 2 ^ 63)
    (q : ∀ y, xs[i.toNat]? = some y → Q y (upd H l (.lst (xs.eraseIdx i.toNat)))) : rPopAt (.ref l) [.int i] H Q := by
  have hk : i.toNat < xs.length := by omega
  exact ⟨l, xs, i, i.toNat, xs[i.toNat], rfl, rfl, h, by omega, hs, seq_ix h0 h1, List.getElem?_eq_getElem hk, q _ (List.getElem?_eq_getElem hk)⟩
theorem r_upper {z : Str} (h : z.length ≤ 5592405) (q : Q (.str (Txt.upper z)) H) : rUpper (.str z) [] H Q := ⟨z, rfl, rfl, h, q⟩
theorem r_sl {r : V → Option Int → Option Int → Hp → VK → Prop} {te : TE} {tl th : TO} (q : te σ H fun x H1 => tl σ H1 fun l H2 => th σ H2 fun u H3 => r x l u H3 Q) : tSl r te tl th σ H Q := q
theorem r_nopart {Q : Option Int → Hp → Prop} (q : Q none H) : tNoPart σ H Q := q
theorem r_part {t : TE} {Q : Option Int → Hp → Prop} (q : t σ H fun x H1 => ∃ i, x = .int i ∧ Q (some i) H1) : tPart t σ H Q := q
theorem r_isint {i : Int} {Q : Int → Prop} (q : Q i) : ∃ k, V.int i = .int k ∧ Q k := ⟨i, rfl, q⟩
theorem r_cutS {z : Str} {lo hi : Option Int} (h : z.length ≤ sizeLine) (q : Q (.str (cutS z lo hi)) H) : rCut K (.str z) lo hi H Q := .inr (.inr ⟨z, rfl, h, q⟩)
theorem r_cutL {a : Addr} {xs : List V} {lo hi : Option Int} (h : H a = some (.lst xs)) (q : ∀ p, H p = none → Q (.ref p) (upd H p (.lst (cutV xs lo hi)))) : rCut K (.ref a) lo hi H Q :=
  .inl ⟨a, xs, rfl, SqL.of h, q⟩
theorem r_cutT {a : Addr} {xs : List V} {lo hi : Option Int} (h : H a = some (.tup xs))
    (q1 : HT.sIx xs.length 0 lo = 0 ∧ HT.sIx xs.length xs.length hi = xs.length → Q (.ref a) H)
    (q2 : ¬ (HT.sIx xs.length 0 lo = 0 ∧ HT.sIx xs.length xs.length hi = xs.length) → ∀ p, H p = none → Q (.ref p) (upd H p (.tup (cutV xs lo hi)))) : rCut K (.ref a) lo hi H Q :=
  .inr (.inl ⟨a, xs, rfl, SqT.of h, q1, q2⟩)
theorem r_repr {p : Addr} {x : V} {d : PyData} (hd : Dt H p x d) (f : Fit 60 60000 d) (q : Q (.str d.shown) H) : rRepr p [x] H Q := ⟨x, d, rfl, hd, f, q⟩
theorem r_all {a : Addr} {bs : List Bool} (h : H a = some (.lst (bs.map V.bl))) (q : Q (.bl (bs.all id)) H) : rAll K [.ref a] H Q := ⟨a, bs, rfl, SqL.of h, q⟩
theorem r_sorted {a : Addr} {ns : List Int} (h : H a = some (.lst (ns.map V.int))) (e : ns.length < 64)
    (q : ∀ (ns' : List Int) (p : Addr), ns'.Perm ns → ns'.Pairwise (· ≤ ·) → H p = none → Q (.ref p) (upd H p (.lst (ns'.map V.int)))) : rSorted K [.ref a] H Q :=
  ⟨a, ns, rfl, SqL.of h, e, q⟩
end
/-! ### looking things up -/
section
variable {H H' H0 : Hp} {p q : Addr} {o u : HO}
theorem g_new (hq : H q = some u) (n : H p = none) : upd H p o q = some u := by
  rw [upd_ne (ne_of_none hq n)]; exact hq
theorem g_other (ne : q ≠ p) (hq : H q = some u) : upd H p o q = some u := by rw [upd_ne ne]; exact hq
theorem g_same (s : Same H0 H) (hq : H0 q = some u) : H q = some u := s _ _ hq
theorem g_keep (k : Keep p H0 H) (ne : q ≠ p) (hq : H0 q = some u) : H q = some u := k _ _ ne hq
theorem n_new (h : H q = some u) (n : H p = none) : q ≠ p := ne_of_none h n
theorem n_new' (n : H p = none) (h : H q = some u) : p ≠ q := (ne_of_none h n).symm
theorem Keep.free (k : Keep p H0 H) (ne : q ≠ p) (n : H q = none) : H0 q = none := by
  cases e : H0 q with
  | none => rfl
  | some v => rw [k _ _ ne e] at n; cases n
theorem upd_free (n : upd H p o q = none) : q ≠ p ∧ H q = none := by
  by_cases e : q = p
  · rw [e, upd_same] at n; cases n
  · rw [upd_ne e] at n; exact ⟨e, n⟩
end
end Cm
namespace Cm
open PySem PySem.Spec PyProof.Rows L2
theorem at_start {N : List Str} {vs : List V} {σ : L2.St} {t : TS} {D : Ends} {H : Hp} (e : L2.start N vs = σ) (q : t D σ H) : t D (L2.start N vs) H := by
  rw [e]; exact q
theorem pe_gint {X : Cx} {x : Str} {i : Int} {pos : Pos} (hg : Gl X x) (hm : ∃ t, X.mg x = some (.int i t)) (hd : (x == ("__debug__" : Str)) = false := by decide) :
    PE X (.Name x pos) (tC (.int i)) := by
  obtain ⟨t, e⟩ := hm
  exact pe_glob hg e ⟨t, rfl⟩ hd
end Cm
set_option Elab.async false
set_option linter.all false
set_option maxRecDepth 100000
set_option maxHeartbeats 4000000
/-! ## 4. Data within bounds -/
namespace Cm
open PySem PySem.Spec PyProof.Rows L2
mutual
/-- no number above N, all signs plain -/
def okD (N : Nat) : PyData → Bool
  | .int i => decide (i.natAbs ≤ N)
  | .str x => x.cps.toList.all fun c => decide (c < 128)
  | .list xs | .tuple xs => okAll N xs
  | .dict kvs => okKv N kvs
  | .none | .bool _ => true
def okAll (N : Nat) : List PyData → Bool
  | [] => true
  | x :: xs => okD N x && okAll N xs
def okKv (N : Nat) : List (PyData × PyData) → Bool
  | [] => true
  | (a, b) :: r => okD N a && okD N b && okKv N r
end
theorem okAll_iff {N : Nat} : ∀ {ds : List PyData}, okAll N ds = true ↔ ∀ d ∈ ds, okD N d = true
  | [] => by simp [okAll]
  | d :: ds => by simp [okAll, okAll_iff (ds := ds)]
theorem depthAll_iff {m : Nat} : ∀ {ds : List PyData}, PyData.depthAll ds ≤ m ↔ ∀ d ∈ ds, d.depth ≤ m
  | [] => by simp [PyData.depthAll]
  | d :: ds => by
    have := depthAll_iff (m := m) (ds := ds)
    simp only [PyData.depthAll, List.mem_cons, forall_eq_or_imp, ← this]
    omega
theorem bulkAll_append : ∀ (a b : List PyData), PyData.bulkAll (a ++ b) = PyData.bulkAll a + PyData.bulkAll b
  | [], b => by simp [PyData.bulkAll]
  | x :: a, b => by
    have := bulkAll_append a b
    simp only [List.cons_append, PyData.bulkAll, this]
    omega
theorem bulkAll_mem : ∀ {ds : List PyData} {d : PyData}, d ∈ ds → d.bulk + 1 ≤ PyData.bulkAll ds
  | x :: ds, d, h => by
    simp only [PyData.bulkAll]
    rcases List.mem_cons.mp h with e | h
    · rw [e]; omega
    · have := bulkAll_mem h; omega
theorem bulkAll_set : ∀ {ds : List PyData} {i : Nat} {d e : PyData}, ds[i]? = some d → PyData.bulkAll (ds.set i e) + d.bulk = PyData.bulkAll ds + e.bulk
  | [], i, d, e, h => by simp at h
  | x :: ds, 0, d, e, h => by
    have h' : x = d := Option.some.inj h
    subst h'
    simp only [List.set_cons_zero, PyData.bulkAll]; omega
  | x :: ds, i + 1, d, e, h => by
    have := bulkAll_set (ds := ds) (i := i) (d := d) (e := e) h
    simp only [List.set_cons_succ, PyData.bulkAll]; omega
theorem bulkAll_erase : ∀ (ds : List PyData) (i : Nat), PyData.bulkAll (ds.eraseIdx i) ≤ PyData.bulkAll ds
  | [], i => by simp [PyData.bulkAll]
  | x :: ds, 0 => by simp only [List.eraseIdx_cons_zero, PyData.bulkAll]; omega
  | x :: ds, i + 1 => by
    have := bulkAll_erase ds i
    simp only [List.eraseIdx_cons_succ, PyData.bulkAll]; omega
theorem bulkAll_take_drop (ds : List PyData) (i : Nat) : PyData.bulkAll (ds.take i) + PyData.bulkAll (ds.drop i) = PyData.bulkAll ds := by
  rw [← bulkAll_append, List.take_append_drop]
theorem bulkAll_reverse : ∀ (ds : List PyData), PyData.bulkAll ds.reverse = PyData.bulkAll ds
  | [] => rfl
  | x :: ds => by
    rw [List.reverse_cons, bulkAll_append, bulkAll_reverse ds]
    simp only [PyData.bulkAll]; omega
theorem bulk_length : ∀ (ds : List PyData), ds.length ≤ PyData.bulkAll ds
  | [] => Nat.le_refl _
  | x :: ds => by
    have := bulk_length ds
    simp only [List.length_cons, PyData.bulkAll]; omega
/-- within bounds: numbers, depth, size -/
structure Ft (N m b : Nat) (d : PyData) : Prop where
  ok : okD N d = true
  dp : d.depth ≤ m
  bk : d.bulk ≤ b
structure FtAll (N m b : Nat) (ds : List PyData) : Prop where
  ok : ∀ d ∈ ds, okD N d = true
  dp : ∀ d ∈ ds, d.depth ≤ m
  bk : PyData.bulkAll ds ≤ b
theorem okD_mono {N M : Nat} (h : N ≤ M) : ∀ d : PyData, okD N d = true → okD M d = true := by
  intro d
  refine PyData.rec (motive_1 := fun d => okD N d = true → okD M d = true) (motive_2 := fun ds => okAll N ds = true → okAll M ds = true)
    (motive_3 := fun kvs => okKv N kvs = true → okKv M kvs = true) (motive_4 := fun p => okD N p.1 = true ∧ okD N p.2 = true → okD M p.1 = true ∧ okD M p.2 = true)
    ?_ ?_ ?_ ?_ ?_ ?_ ?_ ?_ ?_ ?_ ?_ ?_ d
  · intro _; rfl
  · intro _ _; rfl
  · intro i h'
    simp only [okD, decide_eq_true_eq] at *; omega
  · intro x h'
    simp only [okD] at *; exact h'
  · intro xs ih h'
    simp only [okD] at *; exact ih h'
  · intro xs ih h'
    simp only [okD] at *; exact ih h'
  · intro xs ih h'
    simp only [okD] at *; exact ih h'
  · intro _; rfl
  · intro x xs i1 i2 h'
    simp only [okAll, Bool.and_eq_true] at *; exact ⟨i1 h'.1, i2 h'.2⟩
  · intro _; rfl
  · intro x xs i1 i2 h'
    obtain ⟨a, b⟩ := x
    simp only [okKv, Bool.and_eq_true] at *
    exact ⟨i1 h'.1, i2 h'.2⟩
  · intro a b i1 i2 h'
    exact ⟨i1 h'.1, i2 h'.2⟩
theorem Ft.mono {N M m n b c : Nat} {d : PyData} (f : Ft N m b d) (h1 : N ≤ M) (h2 : m ≤ n) (h3 : b ≤ c) : Ft M n c d :=
  ⟨okD_mono h1 _ f.ok, Nat.le_trans f.dp h2, Nat.le_trans f.bk h3⟩
theorem FtAll.mono {N M m n b c : Nat} {ds : List PyData} (f : FtAll N m b ds) (h1 : N ≤ M) (h2 : m ≤ n) (h3 : b ≤ c) : FtAll M n c ds :=
  ⟨fun d h => okD_mono h1 _ (f.ok d h), fun d h => Nat.le_trans (f.dp d h) h2, Nat.le_trans f.bk h3⟩
theorem Ft.all {N m b : Nat} {ds : List PyData} (f : Ft N (m + 1) b (.tuple ds)) : FtAll N m b ds := by
  obtain ⟨h1, h2, h3⟩ := f
  simp only [okD, PyData.depth, PyData.bulk] at *
  exact ⟨okAll_iff.mp h1, depthAll_iff.mp (by omega), h3⟩
theorem Ft.allL {N m b : Nat} {ds : List PyData} (f : Ft N (m + 1) b (.list ds)) : FtAll N m b ds := by
  obtain ⟨h1, h2, h3⟩ := f
  simp only [okD, PyData.depth, PyData.bulk] at *
  exact ⟨okAll_iff.mp h1, depthAll_iff.mp (by omega), h3⟩
theorem Ft.tup_pos {N m b : Nat} {ds : List PyData} (f : Ft N m b (.tuple ds)) : 0 < m := by
  have := f.dp
  simp only [PyData.depth] at this; omega
theorem FtAll.tup {N m b : Nat} {ds : List PyData} (f : FtAll N m b ds) : Ft N (m + 1) b (.tuple ds) := by
  refine ⟨?_, ?_, ?_⟩
  · simp only [okD]; exact okAll_iff.mpr f.ok
  · simp only [PyData.depth]; have := depthAll_iff.mpr f.dp; omega
  · simp only [PyData.bulk]; exact f.bk
theorem FtAll.lst {N m b : Nat} {ds : List PyData} (f : FtAll N m b ds) : Ft N (m + 1) b (.list ds) := by
  refine ⟨?_, ?_, ?_⟩
  · simp only [okD]; exact okAll_iff.mpr f.ok
  · simp only [PyData.depth]; have := depthAll_iff.mpr f.dp; omega
  · simp only [PyData.bulk]; exact f.bk
theorem FtAll.mem {N m b : Nat} {ds : List PyData} {d : PyData} (f : FtAll N m b ds) (h : d ∈ ds) : Ft N m (b - 1) d :=
  ⟨f.ok d h, f.dp d h, by have := bulkAll_mem h; have := f.bk; omega⟩
theorem FtAll.nil {N m b : Nat} : FtAll N m b [] := ⟨(fun _ h => nomatch h), (fun _ h => nomatch h), Nat.zero_le _⟩
theorem FtAll.cons {N m b c : Nat} {d : PyData} {ds : List PyData} (f : Ft N m b d) (g : FtAll N m c ds) : FtAll N m (b + 1 + c) (d :: ds) := by
  refine ⟨fun e h => ?_, fun e h => ?_, ?_⟩
  · rcases List.mem_cons.mp h with h | h
    · rw [h]; exact f.ok
    · exact g.ok e h
  · rcases List.mem_cons.mp h with h | h
    · rw [h]; exact f.dp
    · exact g.dp e h
  · have := f.bk; have := g.bk
    simp only [PyData.bulkAll]; omega
theorem FtAll.append {N m b c : Nat} {ds es : List PyData} (f : FtAll N m b ds) (g : FtAll N m c es) : FtAll N m (b + c) (ds ++ es) := by
  refine ⟨fun e h => ?_, fun e h => ?_, ?_⟩
  · rcases List.mem_append.mp h with h | h
    · exact f.ok e h
    · exact g.ok e h
  · rcases List.mem_append.mp h with h | h
    · exact f.dp e h
    · exact g.dp e h
  · rw [bulkAll_append]; have := f.bk; have := g.bk; omega
theorem FtAll.sub {N m b : Nat} {ds es : List PyData} (f : FtAll N m b ds) (h : ∀ d ∈ es, d ∈ ds) (hb : PyData.bulkAll es ≤ PyData.bulkAll ds) : FtAll N m b es :=
  ⟨fun e he => f.ok e (h e he), fun e he => f.dp e (h e he), Nat.le_trans hb f.bk⟩
theorem FtAll.take {N m b : Nat} {ds : List PyData} (f : FtAll N m b ds) (i : Nat) : FtAll N m b (ds.take i) :=
  f.sub (fun d h => List.mem_of_mem_take h) (by have := bulkAll_take_drop ds i; omega)
theorem FtAll.drop {N m b : Nat} {ds : List PyData} (f : FtAll N m b ds) (i : Nat) : FtAll N m b (ds.drop i) :=
  f.sub (fun d h => List.mem_of_mem_drop h) (by have := bulkAll_take_drop ds i; omega)
theorem FtAll.erase {N m b : Nat} {ds : List PyData} (f : FtAll N m b ds) (i : Nat) : FtAll N m b (ds.eraseIdx i) :=
  f.sub (fun d h => List.mem_of_mem_eraseIdx h) (bulkAll_erase ds i)
theorem FtAll.reverse {N m b : Nat} {ds : List PyData} (f : FtAll N m b ds) : FtAll N m b ds.reverse :=
  f.sub (fun d h => List.mem_reverse.mp h) (by rw [bulkAll_reverse]; exact Nat.le_refl _)
theorem FtAll.insert {N m b c : Nat} {ds : List PyData} {d : PyData} (f : FtAll N m b ds) (g : Ft N m c d) (i : Nat) : FtAll N m (b + c + 1) (ds.take i ++ [d] ++ ds.drop i) := by
  refine ⟨fun e h => ?_, fun e h => ?_, ?_⟩
  · simp only [List.mem_append, List.mem_singleton] at h
    rcases h with (h | h) | h
    · exact f.ok e (List.mem_of_mem_take h)
    · rw [h]; exact g.ok
    · exact f.ok e (List.mem_of_mem_drop h)
  · simp only [List.mem_append, List.mem_singleton] at h
    rcases h with (h | h) | h
    · exact f.dp e (List.mem_of_mem_take h)
    · rw [h]; exact g.dp
    · exact f.dp e (List.mem_of_mem_drop h)
  · rw [bulkAll_append, bulkAll_append]
    have h1 := bulkAll_take_drop ds i
    have h2 := f.bk
    have h3 := g.bk
    simp only [PyData.bulkAll]; omega
theorem FtAll.set {N m b c : Nat} {ds : List PyData} {d e : PyData} {i : Nat} (f : FtAll N m b ds) (h : ds[i]? = some d) (g : Ft N m c e) (hc : c ≤ d.bulk + b + 20) : FtAll N m (2 * b + 20) (ds.set i e) := by
  refine ⟨fun x hx => ?_, fun x hx => ?_, ?_⟩
  · rcases List.mem_or_eq_of_mem_set hx with q | q
    · exact f.ok x q
    · rw [q]; exact g.ok
  · rcases List.mem_or_eq_of_mem_set hx with q | q
    · exact f.dp x q
    · rw [q]; exact g.dp
  · have h1 := bulkAll_set (e := e) h
    have h2 := f.bk
    have h3 := g.bk
    omega
theorem Ft.int {N m b : Nat} {i : Int} (h : i.natAbs ≤ N) : Ft N m b (.int i) := ⟨by simp [okD, h], Nat.zero_le _, Nat.zero_le _⟩
theorem Ft.bl {N m b : Nat} {i : Bool} : Ft N m b (.bool i) := ⟨rfl, Nat.zero_le _, Nat.zero_le _⟩
theorem Ft.non {N m b : Nat} : Ft N m b .none := ⟨rfl, Nat.zero_le _, Nat.zero_le _⟩
theorem Ft.str {N m b : Nat} {x : Str} (h : ∀ c ∈ x.cps.toList, c < 128) (hb : x.length ≤ b) : Ft N m b (.str x) :=
  ⟨by simpa only [okD, List.all_eq_true, decide_eq_true_eq] using h, Nat.zero_le _, hb⟩
theorem leaf_int {i : Int} {N : Nat} (h : i.natAbs ≤ N) (hN : N < 2 ^ 200) : (PyData.shown (.int i)).length ≤ 250 ∧ i.natAbs.log2 < 1920 := by
  have h1 : i.natAbs < 2 ^ 200 := Nat.lt_of_le_of_lt h hN
  have h2 : i.natAbs.log2 < 200 := PySem.Flt.log2_lt_of (by decide) h1
  have h3 := int_text_length_le (a := i) (k := 200) (by decide) h2
  refine ⟨?_, by omega⟩
  simp only [PyData.shown]
  rw [show ((toString i : String) : Str).length = (toString i).length from PySem.ofString_length _]
  omega
theorem ok_leaves {N : Nat} (hN : N < 2 ^ 200) (d : PyData) : okD N d = true → d.leavesShort 250 = true ∧ d.showable = true := by
  refine PyData.rec (motive_1 := fun d => okD N d = true → d.leavesShort 250 = true ∧ d.showable = true) (motive_2 := fun ds => okAll N ds = true → PyData.leavesShortAll 250 ds = true ∧ PyData.showableAll ds = true)
    (motive_3 := fun kvs => okKv N kvs = true → PyData.leavesShortKv 250 kvs = true ∧ PyData.showableKv kvs = true)
    (motive_4 := fun p => okD N p.1 = true ∧ okD N p.2 = true → (p.1.leavesShort 250 = true ∧ p.1.showable = true) ∧ (p.2.leavesShort 250 = true ∧ p.2.showable = true))
    ?_ ?_ ?_ ?_ ?_ ?_ ?_ ?_ ?_ ?_ ?_ ?_ d
  · intro _; exact ⟨rfl, rfl⟩
  · intro _ _; exact ⟨rfl, rfl⟩
  · intro i h'
    simp only [okD, decide_eq_true_eq] at h'
    have := leaf_int h' hN
    simp only [PyData.leavesShort, PyData.showable, decide_eq_true_eq]
    exact this
  · intro x h'
    simp only [okD, List.all_eq_true, decide_eq_true_eq] at h'
    refine ⟨?_, rfl⟩
    simp only [PyData.leavesShort, List.all_eq_true, decide_eq_true_eq]
    intro c hc
    exact Nat.lt_trans (h' c hc) (by decide)
  · intro xs ih h'
    simp only [okD] at h'
    simp only [PyData.leavesShort, PyData.showable]; exact ih h'
  · intro xs ih h'
    simp only [okD] at h'
    simp only [PyData.leavesShort, PyData.showable]; exact ih h'
  · intro xs ih h'
    simp only [okD] at h'
    simp only [PyData.leavesShort, PyData.showable]; exact ih h'
  · intro _; exact ⟨rfl, rfl⟩
  · intro x xs i1 i2 h'
    simp only [okAll, Bool.and_eq_true] at h'
    simp only [PyData.leavesShortAll, PyData.showableAll, Bool.and_eq_true]
    exact ⟨⟨(i1 h'.1).1, (i2 h'.2).1⟩, (i1 h'.1).2, (i2 h'.2).2⟩
  · intro _; exact ⟨rfl, rfl⟩
  · intro x xs i1 i2 h'
    obtain ⟨a, b⟩ := x
    simp only [okKv, Bool.and_eq_true] at h'
    simp only [PyData.leavesShortKv, PyData.showableKv, Bool.and_eq_true]
    have q1 := i1 h'.1
    have q2 := i2 h'.2
    exact ⟨⟨⟨q1.1.1, q1.2.1⟩, q2.1⟩, ⟨q1.1.2, q1.2.2⟩, q2.2⟩
  · intro a b i1 i2 h'
    exact ⟨i1 h'.1, i2 h'.2⟩
theorem Ft.fit {N m b : Nat} {d : PyData} (f : Ft N m b d) (hN : N < 2 ^ 200) (hm : m ≤ 60) (hb : b ≤ 60000) : Fit 60 60000 d :=
  have h := ok_leaves hN d f.ok
  ⟨h.1, h.2, Nat.le_trans f.dp hm, Nat.le_trans f.bk hb⟩
end Cm
set_option Elab.async false
set_option linter.all false
set_option maxRecDepth 100000
set_option maxHeartbeats 4000000
/-! ## 5. Tuples: == with the empty one, times 0 and 1, turned about -/
namespace Cm
open PySem PySem.Spec PyProof.Rows L2
section
variable {X : Cx}
/-- t == () -/
def rEqNo : R2 := fun x y H Q => ∃ a b xs, x = .ref a ∧ y = .ref b ∧ H a = some (.tup xs) ∧ H b = some (.tup []) ∧ Q (.bl (decide (xs = []))) H
theorem IsTup.isTuple' {h : Heap} {a : Addr} {its : Array Value} (t : IsTup h a its) : h.IsTuple a its := t
theorem op_eqNo (hu : X.A.units + 64 < cLine) : OpR X (compareOp .Eq) rEqNo := by
  intro pins s σ H x y v u Q I rx ry h
  obtain ⟨a, b, xs, rfl, rfl, ha, hb, q⟩ := h
  cases rx
  cases ry
  obtain ⟨its, r1, p1, _⟩ := I.tuple (SqT.of ha)
  obtain ⟨its2, r2, p2, _⟩ := I.tuple (SqT.of hb)
  cases r2
  refine SeqAt.eq_tupleAt (e := fun _ => true) (IsTup.isTuple' p1) (IsTup.isTuple' p2) (by omega) (fun j _ h2 => absurd h2 (Nat.not_lt_zero _)) ?_
  refine ⟨.bl (decide (xs = [])), H, I, ?_, q⟩
  show Value.bool _ = Value.bool _
  have e : its.length = xs.length := r1.length.symm
  cases xs with
  | nil =>
    have : its = [] := List.eq_nil_of_length_eq_zero e
    subst this
    rfl
  | cons y ys =>
    cases its with
    | nil => cases e
    | cons z zs => simp
/-- t * 0, t * 1 -/
def rRepT01 : R2 := fun x y H Q => ∃ l k xs, x = .ref l ∧ y = .int k ∧ H l = some (.tup xs) ∧ xs ≠ [] ∧
  ((k = 0 ∧ ∀ p, H p = none → Q (.ref p) (upd H p (.tup []))) ∨ (k = 1 ∧ Q (.ref l) H))
theorem tuple_mul0 (l : Addr) (items : Array Value) (n : Nat) (dd : Option Addr) (sl : Array (Option Value)) (u : Tok) (c1 : items.isEmpty = false) :
    Meets (Builtin.«tuple.__mul__» ⟨[.ref l, .int 0 u], []⟩) (fun _ R s => s.heap.get? l = some { cls := .type "tuple", dict := dd, data := .seq items n, slots := sl } ∧
      R (.ok (.ret (Value.ref s.heap.objs.size))) { s with heap := s.heap.push { cls := Value.type "tuple", data := Data.seq #[] }, toks := s.toks }) :=
  .of_wp fun prog w A R s h => by
    obtain ⟨hp, g, d, tk, os⟩ := s
    obtain ⟨hl, h⟩ := h
    have f1 := AutoSeq1.idx_int
    wp_walk using wpAny_loadPart' hl
    repeat (first
      | (refine wpAny_ite_false (decide_eq_false (by first | decide | simp [c1])) ?_; wp_walk using wpAny_loadPart' hl)
      | (refine wpAny_ite_true (decide_eq_true (by first | decide | simp [c1])) ?_; wp_walk using wpAny_loadPart' hl))
    exact ⟨_, rfl, h⟩
theorem tuple_mul1 (l : Addr) (items : Array Value) (n : Nat) (dd : Option Addr) (sl : Array (Option Value)) (u : Tok) :
    Meets (Builtin.«tuple.__mul__» ⟨[.ref l, .int 1 u], []⟩) (fun _ R s => s.heap.get? l = some { cls := .type "tuple", dict := dd, data := .seq items n, slots := sl } ∧
      R (.ok (.ret (Value.ref l))) { s with toks := s.toks }) :=
  .of_wp fun prog w A R s h => by
    obtain ⟨hp, g, d, tk, os⟩ := s
    obtain ⟨hl, h⟩ := h
    have f1 := AutoSeq1.idx_int
    wp_walk using wpAny_loadPart' hl
    repeat (first
      | (refine wpAny_ite_false (decide_eq_false (by first | decide | simp)) ?_; wp_walk using wpAny_loadPart' hl)
      | (refine wpAny_ite_true (decide_eq_true (by first | decide | simp)) ?_; wp_walk using wpAny_loadPart' hl))
    exact ⟨_, rfl, h⟩
theorem op_repT01 : OpR X (binaryOp .Mult) rRepT01 := by
  intro pins s σ H x y v u Q I rx ry h
  obtain ⟨l, k, xs, rfl, rfl, hT, hne, hk⟩ := h
  cases rx
  obtain ⟨t, rfl⟩ := ry
  obtain ⟨its, r, ⟨⟨cls, dd, data, sl⟩, ho, hc, n, hd⟩, hs⟩ := I.tuple (SqT.of hT)
  simp only at hc hd
  subst hc hd
  have hi : its.toArray.isEmpty = false := by
    cases its with
    | nil =>
      cases r
      exact absurd rfl hne
    | cons a b => rfl
  rcases hk with ⟨rfl, q⟩ | ⟨rfl, q⟩
  · refine wpAny_binaryOp_repeat_ref (T := "tuple") (U := "int") (by decide) ⟨_, ho, rfl⟩ (fun s' => typeIs_int s' 0 t) noFill_tuple_mul F.fills_int_mul F.slot_int_rmul repeat_tuple F.slot_int_index.lookup
      (call_meets F.slot_int_rmul (typeIs_int s 0 t) F.entry_int_rmul (F.args_int_rmul_2 _ _) (int_rmul_tuple 0 t l its.toArray n dd sl)
        ⟨ho, rfl, ⟨_, ho, rfl⟩, call_meets F.slot_tuple_mul ⟨_, ho, rfl⟩ F.entry_tuple_mul (F.args_tuple_mul_2 _ _) (tuple_mul0 l its.toArray n dd sl t hi) ⟨ho, ?_⟩⟩)
    refine ⟨.ref s.heap.objs.size, _, I.laid (t' := s.toks) (o := .tup []) (fun b ob q => Heap.get?_push_of_some _ q) (Nat.le_refl _) ?_, rfl, q _ (I.hok.fresh (Nat.le_refl _))⟩
    exact ⟨Nat.zero_le _, [], .nil, IsTup.new _ _⟩
  · refine wpAny_binaryOp_repeat_ref (T := "tuple") (U := "int") (by decide) ⟨_, ho, rfl⟩ (fun s' => typeIs_int s' 1 t) noFill_tuple_mul F.fills_int_mul F.slot_int_rmul repeat_tuple F.slot_int_index.lookup
      (call_meets F.slot_int_rmul (typeIs_int s 1 t) F.entry_int_rmul (F.args_int_rmul_2 _ _) (int_rmul_tuple 1 t l its.toArray n dd sl)
        ⟨ho, rfl, ⟨_, ho, rfl⟩, call_meets F.slot_tuple_mul ⟨_, ho, rfl⟩ F.entry_tuple_mul (F.args_tuple_mul_2 _ _) (tuple_mul1 l its.toArray n dd sl t) ⟨ho, ?_⟩⟩)
    exact ⟨.ref l, H, I.tok _, rfl, q⟩
/-! ### t[::-1] -/
theorem turned_applied {A : Around} {E : Value → Shared → Prop} {s : Shared} {sl : Addr} {vs : Value} {n : Nat} {Q : Int × Int × Nat → Shared → Prop} (hs : s.heap.IsSliceOf sl .none .none vs) (ps : IsPart vs (some (-1)))
    (h : Q ((n : Int) - 1, -1, n) s) : wpAny (model X.prog X.w) A (Builtin.Slice.sliceApplied (.ref sl) (pure (n : Int))) Q E s := by
  obtain ⟨os, hos, hcs, hds⟩ := id hs
  unfold Builtin.Slice.sliceApplied Builtin.Slice.sliceFields
  refine wpAny_bind (wpAny_bind (wpAny_field hos hds (x := .none) rfl (wpAny_bind (wpAny_field hos hds (x := .none) rfl (wpAny_bind (wpAny_field hos hds (x := vs) rfl (wpAny_pure ?_)))))))
  refine wpAny_bind (HT.slicePart_ ps ?_)
  show wpAny _ _ (if ((-1 : Int) == 0) = true then _ else _) _ _ s
  rw [if_neg (by decide)]
  refine wpAny_bind (HT.slicePart_ .none (wpAny_bind (HT.slicePart_ .none (wpAny_bind (wpAny_pure ?_)))))
  have e : Builtin.Slice.slicePlaces ((n : Int) - 1) (-1) (-1) = n := by
    unfold Builtin.Slice.slicePlaces
    rw [if_neg (by decide)]
    by_cases h0 : n = 0
    · subst h0; decide
    · rw [if_pos (by omega)]
      have : ((n : Int) - 1 - (-1) - 1) / (-(-1)) + 1 = (n : Int) := by
        rw [show (-(-1) : Int) = 1 from rfl, Int.ediv_one]; omega
      rw [this]; simp
  show wpAny _ _ (pure ((n : Int) - 1, (-1 : Int), Builtin.Slice.slicePlaces ((n : Int) - 1) (-1) (-1))) _ _ s
  rw [e]
  exact wpAny_pure h
theorem turned_pick (xs : List Value) : ((List.range xs.toArray.size).filterMap fun (k : Nat) => xs.toArray[(((xs.toArray.size : Nat) : Int) - 1 + (k : Int) * (-1)).toNat]?).toArray = xs.reverse.toArray := by
  congr 1
  rw [List.size_toArray]
  have g : ∀ (ys : List Value), (List.range ys.length).filterMap (fun k => ys[k]?) = ys := by
    intro ys
    induction ys with
    | nil => rfl
    | cons y ys ih =>
      rw [List.length_cons, List.range_succ_eq_map, List.filterMap_cons]
      simp only [List.getElem?_cons_zero, List.filterMap_map]
      congr 1
  have h := g xs.reverse
  rw [List.length_reverse] at h
  rw [← h]
  have cong : ∀ (l : List Nat) (f g : Nat → Option Value), (∀ k ∈ l, f k = g k) → l.filterMap f = l.filterMap g := by
    intro l f g e
    induction l with
    | nil => rfl
    | cons a l ih =>
      have e1 := e a List.mem_cons_self
      have e2 := ih fun k hk => e k (List.mem_cons_of_mem _ hk)
      simp only [List.filterMap_cons, e1, e2]
  refine cong _ _ _ fun k hk => ?_
  have hk' : k < xs.length := List.mem_range.mp hk
  rw [List.getElem?_reverse hk']
  have : (((xs.length : Nat) : Int) - 1 + (k : Int) * (-1)).toNat = xs.length - 1 - k := by omega
  rw [this]
  simp
theorem getItem_turned {A : Around} {E : Value → Shared → Prop} {s : Shared} {t sl : Addr} {items : List Value} {vs : Value} {Q : Value → Shared → Prop} (ht : IsTup s.heap t items.toArray) (hs : s.heap.IsSliceOf sl .none .none vs) (ps : IsPart vs (some (-1)))
    (h : Q (.ref s.heap.objs.size) { s with heap := s.heap.push { cls := .type "tuple", data := .seq items.reverse.toArray } })
    (hsz : items.length ≤ sizeLine) : wpAny (model X.prog X.w) A (getItem (.ref t) (.ref sl)) Q E s := by
  have room : sizeOk (.seq items.reverse.toArray) := by
    show items.reverse.toArray.size ≤ sizeLine
    rw [List.size_toArray, List.length_reverse]; exact hsz
  obtain ⟨os, hos, hcs, hds⟩ := id hs
  have hTs : s.TypeIs (.ref sl) "slice" := ⟨os, hos, hcs⟩
  unfold getItem
  try with_reducible refine wpAny_holding ?_
  first | refine wpAny_bind (wpAny_pure ?_) | skip
  refine wpAny_bind (wpAny_sequenceKey ht.typeIs (by decide) ?_)
  refine wpAny_bind (wpAny_callSpecial?_slot (name := Str.ofString "__getitem__") ht.typeIs PyProof.Rows.slot_tuple_getitem
    (wpAny_call_entry PyProof.Rows.slot_tuple_getitem ht.typeIs entry_tuple_getitem ?_ (args_tuple_getitem _ _)))
  show wpAny _ _ (Builtin.Tuple.tupleItemsOf (.ref t) >>= _) _ _ s
  refine wpAny_bind (tupleItemsOf_ ht ?_)
  refine wpAny_bind (wpAny_typeOf hTs ?_)
  rw [if_pos (by decide)]
  refine wpAny_bind (turned_applied (X := X) hs ps ?_)
  show wpAny _ _ (if ((((items.toArray.size : Nat) : Int) - 1 == 0) && ((-1 : Int) == 1) && (items.toArray.size == items.toArray.size)) = true then _ else _) _ _ s
  rw [if_neg (by simp), turned_pick]
  first
    | exact wpAny_bind (m := Builtin.Tuple.tupleExact _) (wpAny_newObj_type (wpAny_pure ⟨_, rfl, wpAny_pure h⟩) room)
    | exact wpAny_bind (m := Builtin.Tuple.tupleExact _) (wpAny_newObj_type (wpAny_bind (wpAny_pure (wpAny_pure ⟨_, rfl, wpAny_pure h⟩))) room)
    | exact wpAny_bind (wpAny_bind (m := Builtin.Tuple.tupleExact _) (wpAny_newObj_type (wpAny_pure (wpAny_pure ⟨_, rfl, wpAny_pure h⟩)) room))
    | exact wpAny_bind (wpAny_bind (m := Builtin.Tuple.tupleExact _) (wpAny_newObj_type (wpAny_pure ⟨_, rfl, wpAny_pure h⟩) room))
def tRevT (te : TE) : TE := fun σ H Q => te σ H fun x H1 => ∃ a xs, x = .ref a ∧ H1 a = some (.tup xs) ∧ ∀ p, H1 p = none → Q (.ref p) (upd H1 p (.tup xs.reverse))
theorem pe_rev {e : Expr} {te : TE} {k : Nat} {p1 p2 p3 pos : Pos} (he : PE X e te) : PE X (.Subscript e (.Slice none none (some (.UnaryOp .USub (.Constant (.int 1) k p1) p2)) p3) pos) (tRevT te) := by
  constructor
  intro pins s σ H Q I h
  refine Subscript_ (thn (he.run pins s σ H _ I h) ?_)
  rintro v s1 ⟨x, H1, I1, r1, a, xs, ex, hx, q⟩
  subst ex
  cases r1
  have hst : PO X (some (.UnaryOp .USub (.Constant (.int 1) k p1) p2)) (tPart (tUn (rU fun i => .int (-i)) (tC (.int 1)))) := po_some (pe_un un_neg pe_int)
  refine wpAny_Slice (thn (po_none.run pins s1 σ H1 (fun o H2 => o = none ∧ H2 = H1) I1 ⟨rfl, rfl⟩) ?_)
  rintro vl s2 ⟨l, H2, I2, pl, el, e2⟩
  subst el e2
  refine thn (po_none.run pins s2 σ H2 (fun o H3 => o = none ∧ H3 = H2) I2 ⟨rfl, rfl⟩) ?_
  rintro vu s3 ⟨u, H3, I3, pu, eu, e3⟩
  subst eu e3
  refine thn (hst.run pins s3 σ H3 (fun o H4 => o = some (-1) ∧ H4 = H3) I3 ⟨1, rfl, -1, rfl, rfl, rfl⟩) ?_
  rintro vs s4 ⟨o, H4, I4, ps, eo, e4⟩
  subst eo e4
  cases pl
  cases pu
  have I5 : Inv X pins σ H4 { s4 with heap := s4.heap.push { cls := .type "slice", data := .fields #[.none, .none, vs] } } :=
    I4.kept (t' := s4.toks) fun b ob q => Heap.get?_push_of_some _ q
  obtain ⟨its, r, ht, hz⟩ := I5.tuple (SqT.of hx)
  have hlen := r.length
  show wpAny (model X.prog X.w) X.A (subscriptTail e (.Slice none none (some (.UnaryOp .USub (.Constant (.int 1) k p1) p2)) p3) (.ref a) (.ref s4.heap.objs.size)) (EP X pins σ Q) X.xe _
  refine tail_any (ops := [.ref a, .ref s4.heap.objs.size]) ht.typeIs (PyProof.Rows.slot_tuple_getitem.lookup) ?_ (by with_unfolding_all rfl)
  refine getItem_turned ht (Heap.IsSliceOf.new _ _ _ vs) ps ?_ (by omega)
  refine ⟨.ref _, _, I5.laid (t' := s4.toks) (o := .tup xs.reverse) (fun b ob q => Heap.get?_push_of_some _ q) (Nat.le_refl _) ?_, rfl, q _ (I5.hok.fresh (Nat.le_refl _))⟩
  exact ⟨by rw [List.length_reverse]; exact hz, _, r.reverse, IsTup.new _ _⟩
end
section
variable {K : PySem.W.Frag} {H : Hp} {Q : VK} {σ : L2.St}
theorem r_rev {te : TE} (q : te σ H fun x H1 => ∃ a xs, x = .ref a ∧ H1 a = some (.tup xs) ∧ ∀ p, H1 p = none → Q (.ref p) (upd H1 p (.tup xs.reverse))) : tRevT te σ H Q := q
theorem r_isT {a : Addr} {xs : List V} {P : Addr → List V → Prop} (h : H a = some (.tup xs)) (q : P a xs) : ∃ b ys, V.ref a = .ref b ∧ H b = some (.tup ys) ∧ P b ys := ⟨a, xs, rfl, h, q⟩
theorem r_eqNo {a b : Addr} {xs : List V} (h : H a = some (.tup xs)) (h' : H b = some (.tup [])) (q : Q (.bl (decide (xs = []))) H) : rEqNo (.ref a) (.ref b) H Q := ⟨a, b, xs, rfl, rfl, h, h', q⟩
end
end Cm
namespace Cm
open PySem PySem.Spec PyProof.Rows L2
section
variable {K : PySem.W.Frag} {H : Hp} {Q : VK} {σ : L2.St}
theorem r_dnew (q : ∀ p, H p = none → Q (.ref p) (upd H p (.dK []))) : tDNewK σ H Q := q
theorem r_disp1 {i j : Int} (q : ∀ p, H p = none → Q (.ref p) (upd H p (.dK [(Sum.inl i, .int j)]))) : tDisp [(tC (.int i), tC (.int j))] σ H Q := by
  intro p hp
  refine ⟨upd_same, [(Sum.inl i, .int j)], rfl, (by show 1 ≤ 15; decide), ?_⟩
  rw [upd_upd]
  exact q p hp
end
end Cm
namespace Cm
open PySem PySem.Spec PyProof.Rows L2
section
variable {K : PySem.W.Frag} {H : Hp} {Q : VK} {p : Addr} {x y z v : V} {xs : List V} {R : Hp → Prop}
theorem r_ixL0 (h : H p = some (.lst (x :: xs))) (q : Q x H) : rIx K (.ref p) (.int 0) H Q := r_ixL h (atI_nat (j := 0) rfl) q
theorem r_ixL1 (h : H p = some (.lst (x :: y :: xs))) (q : Q y H) : rIx K (.ref p) (.int 1) H Q := r_ixL h (atI_nat (j := 1) rfl) q
theorem r_ixL2 (h : H p = some (.lst (x :: y :: z :: xs))) (q : Q z H) : rIx K (.ref p) (.int 2) H Q := r_ixL h (atI_nat (j := 2) rfl) q
theorem r_ixT0 (h : H p = some (.tup (x :: xs))) (q : Q x H) : rIx K (.ref p) (.int 0) H Q := r_ixT h (atI_nat (j := 0) rfl) q
theorem r_ixT1 (h : H p = some (.tup (x :: y :: xs))) (q : Q y H) : rIx K (.ref p) (.int 1) H Q := r_ixT h (atI_nat (j := 1) rfl) q
theorem r_ixT2 (h : H p = some (.tup (x :: y :: z :: xs))) (q : Q z H) : rIx K (.ref p) (.int 2) H Q := r_ixT h (atI_nat (j := 2) rfl) q
theorem r_setL0 (h : H p = some (.lst (x :: xs))) (q : R (upd H p (.lst (v :: xs)))) : rSetL (.ref p) (.int 0) v H R :=
  r_setAt h (by decide) (by simp only [List.length_cons]; omega) q
theorem r_setL1 (h : H p = some (.lst (x :: y :: xs))) (q : R (upd H p (.lst (x :: v :: xs)))) : rSetL (.ref p) (.int 1) v H R :=
  r_setAt h (by decide) (by simp only [List.length_cons]; omega) q
theorem r_setL2 (h : H p = some (.lst (x :: y :: z :: xs))) (q : R (upd H p (.lst (x :: y :: v :: xs)))) : rSetL (.ref p) (.int 2) v H R :=
  r_setAt h (by decide) (by simp only [List.length_cons]; omega) q
end
end Cm
namespace Cm
open PySem PySem.Spec PyProof.Rows L2
/-- nothing is known to stand at q -/
structure Fre (H : Hp) (q : Addr) : Prop where
  no : H q = none
section
variable {H H' H0 : Hp} {p q : Addr} {o u : HO}
theorem r_free {Q : Addr → Prop} (h : ∀ p, Fre H p → Q p) : ∀ p, H p = none → Q p := fun p n => h p ⟨n⟩
theorem Keep.newF (k : Keep p H H') (n : Fre H' q) : Keep p H (upd H' q o) := k.new n.no
theorem Keep.overF (k : Keep p H H') (n : Fre H q) : Keep p H (upd H' q o) := k.over n.no
theorem Keep.freeF (k : Keep p H0 H) (ne : q ≠ p) (n : Fre H q) : Fre H0 q := ⟨k.free ne n.no⟩
theorem Same.newF (k : Same H H') (n : Fre H' q) : Same H (upd H' q o) := Same.new k n.no
theorem Same.overF (k : Same H H') (n : Fre H q) : Same H (upd H' q o) := Same.over k n.no
theorem Same.freeF (k : Same H0 H) (n : Fre H q) : Fre H0 q := ⟨k.free n.no⟩
theorem Fre.of (n : Fre (upd H p o) q) : Fre H q := ⟨(upd_free n.no).2⟩
theorem g_newF (n : Fre H p) (hq : H q = some u) : upd H p o q = some u := g_new hq n.no
end
end Cm
namespace Cm
open PySem PySem.Spec PyProof.Rows L2
/-- what stands there is such data -/
inductive DtC (H : Hp) (p : Addr) : HO → PyData → Prop
  | tup {xs : List V} {ds : List PyData} : DtAll H p xs ds → DtC H p (.tup xs) (.tuple ds)
  | lst {xs : List V} {ds : List PyData} : DtAll H p xs ds → DtC H p (.lst xs) (.list ds)
  | dct {kvs : List (Key × V)} : (∀ x ∈ kvs, ∃ i, x.2 = V.int i) → DtC H p (.dK kvs) (.dict (kvs.map pairD))
theorem Dt.there {H : Hp} {p a : Addr} {o : HO} {d : PyData} (n : a ≠ p) (h : H a = some o) (c : DtC H p o d) : Dt H p (.ref a) d := by
  cases c with
  | tup x => exact .tup n h x
  | lst x => exact .lst n h x
  | dct x => exact .dct n h x
end Cm
namespace Cm
open PySem PySem.Spec PyProof.Rows L2
section
variable {K : PySem.W.Frag} {H : Hp} {Q : VK} {p : Addr} {xs : List V} {i : Int}
theorem r_pickI (h : H p = some (.lst xs)) (h0 : 0 ≤ i) (h1 : i < xs.length) (b : ∀ v ∈ xs, ∃ z, v = V.int z) (q : ∀ z, V.int z ∈ xs → Q (.int z) H) : rIx K (.ref p) (.int i) H Q :=
  r_pickL h h0 h1 fun v hv => by
    obtain ⟨z, rfl⟩ := b v hv
    exact q z hv
theorem r_pickS (h : H p = some (.lst xs)) (h0 : 0 ≤ i) (h1 : i < xs.length) (b : ∀ v ∈ xs, ∃ z, v = V.str z) (q : ∀ z, V.str z ∈ xs → Q (.str z) H) : rIx K (.ref p) (.int i) H Q :=
  r_pickL h h0 h1 fun v hv => by
    obtain ⟨z, rfl⟩ := b v hv
    exact q z hv
end
end Cm
namespace Cm
open PySem PySem.Spec PyProof.Rows L2
section
variable {K : PySem.W.Frag} {H : Hp} {σ : L2.St} {D : Ends}
theorem r_for {wi : TI} {g : TG} {tb : TS} (q : wi σ H fun J H1 => ∃ W : Nat → Nat → L2.St → Hp → Prop, (∃ m, W 0 m σ H1) ∧ ∀ i m σ H, W i m σ H →
    (J.stop i H ∧ D.nx σ H) ∨ (J.go i H ∧ ∃ N : L2.St → Hp → Prop, (∀ σ' H', N σ' H' → ∃ m', m' < m ∧ W (i + 1) m' σ' H') ∧ ∀ x H', J.yld i H x H' → g x σ H' fun σ2 H2 => tb { nx := N, rt := D.rt, bk := D.nx, ct := N } σ2 H2)) : tFor wi g tb D σ H := q
end
end Cm
namespace Cm
open PySem PySem.Spec PyProof.Rows L2
section
variable {K : PySem.W.Frag} {σ : L2.St} {H : Hp} {g : TG} {tb : TS} {nx : L2.St → Hp → Prop} {rt : VK}
theorem for_rng {lo : Int} {n : Nat} (Pv : Nat → L2.St → Hp → Prop) (h0 : Pv 0 σ H)
    (hs : ∀ i σ H, i < n → Pv i σ H → g (.int (lo + i)) σ H fun σ2 H2 => tb { nx := Pv (i + 1), rt := rt, bk := nx, ct := Pv (i + 1) } σ2 H2) (hd : ∀ σ H, Pv n σ H → nx σ H) :
    ∃ W : Nat → Nat → L2.St → Hp → Prop, (∃ m, W 0 m σ H) ∧ ∀ i m σ H, W i m σ H →
      ((Itr lo n).stop i H ∧ nx σ H) ∨ ((Itr lo n).go i H ∧ ∃ N : L2.St → Hp → Prop, (∀ σ' H', N σ' H' → ∃ m', m' < m ∧ W (i + 1) m' σ' H') ∧ ∀ x H', (Itr lo n).yld i H x H' → g x σ H' fun σ2 H2 => tb { nx := N, rt := rt, bk := nx, ct := N } σ2 H2) :=
  for_range (D := { nx := nx, rt := rt }) Pv h0 hs hd
theorem for_lst {a : Addr} {xs : List V} (Pv : Nat → L2.St → Hp → Prop) (h0 : Pv 0 σ H) (hl : ∀ i σ H, i ≤ xs.length → Pv i σ H → SqL K H a xs)
    (hs : ∀ i x σ H, xs[i]? = some x → Pv i σ H → g x σ H fun σ2 H2 => tb { nx := Pv (i + 1), rt := rt, bk := nx, ct := Pv (i + 1) } σ2 H2) (hd : ∀ σ H, Pv xs.length σ H → nx σ H) :
    ∃ W : Nat → Nat → L2.St → Hp → Prop, (∃ m, W 0 m σ H) ∧ ∀ i m σ H, W i m σ H →
      ((Itl K a).stop i H ∧ nx σ H) ∨ ((Itl K a).go i H ∧ ∃ N : L2.St → Hp → Prop, (∀ σ' H', N σ' H' → ∃ m', m' < m ∧ W (i + 1) m' σ' H') ∧ ∀ x H', (Itl K a).yld i H x H' → g x σ H' fun σ2 H2 => tb { nx := N, rt := rt, bk := nx, ct := N } σ2 H2) :=
  for_list (D := { nx := nx, rt := rt }) Pv h0 hl hs hd
end
end Cm
namespace Cm
open PySem PySem.Spec PyProof.Rows L2
theorem n_newF {H : Hp} {p q : Addr} {u : HO} (n : Fre H p) (h : H q = some u) : q ≠ p := ne_of_none h n.no
theorem n_newF' {H : Hp} {p q : Addr} {u : HO} (n : Fre H p) (h : H q = some u) : p ≠ q := (ne_of_none h n.no).symm
end Cm
namespace Cm
open PySem PySem.Spec PyProof.Rows L2
/-- a part of the heap that stands apart from p and f -/
structure Reg (R H : Hp) (p f : Addr) : Prop where
  sub : Same R H
  np : R p = none
  nf : R f = none
section
variable {R H H' : Hp} {p f q t : Addr} {o : HO}
theorem Reg.nil : Reg (fun _ => none) H p f := ⟨(fun _ _ h => by cases h), rfl, rfl⟩
theorem Reg.keep (r : Reg R H p f) (k : Keep p H H') : Reg R H' p f :=
  ⟨fun b o h => k b o (ne_of_none h r.np) (r.sub b o h), r.np, r.nf⟩
theorem Reg.new (r : Reg R H p f) (n : Fre H q) : Reg R (upd H q o) p f := ⟨Same.new r.sub n.no, r.np, r.nf⟩
theorem Reg.put (r : Reg R H p f) : Reg R (upd H f o) p f :=
  ⟨fun b u h => by rw [upd_ne (ne_of_none h r.nf)]; exact r.sub b u h, r.np, r.nf⟩
theorem Reg.add (r : Reg R H p f) (h : H t = some o) (ntp : t ≠ p) (ntf : t ≠ f) : Reg (upd R t o) H p f ∧ Same R (upd R t o) := by
  refine ⟨⟨fun b u e => ?_, by rw [upd_ne ntp.symm]; exact r.np, by rw [upd_ne ntf.symm]; exact r.nf⟩, fun b u e => ?_⟩
  · by_cases hb : b = t
    · subst hb
      rw [upd_same] at e
      cases e
      exact h
    · rw [upd_ne hb] at e
      exact r.sub b u e
  · by_cases hb : b = t
    · subst hb
      have := r.sub _ _ e
      rw [h] at this
      cases this
      exact upd_same
    · rw [upd_ne hb]
      exact e
end
end Cm
namespace Cm
open PySem PySem.Spec PyProof.Rows L2
section
variable {K : PySem.W.Frag} {H H1 : Hp} {Q : VK} {σ : L2.St} {D : Addr}
theorem r_lc {wi : TI} {g : TG} {tt : TT} {te : TE} {vs : List Nat} (q : wi σ H fun J H1 => ∀ D, H1 D = none → ∃ W : Nat → Nat → Hp → Prop, (∃ m, W 0 m (upd H1 D (.lst []))) ∧ ∀ i m H, W i m H →
    (J.stop i H ∧ Q (.ref D) H) ∨ (J.go i H ∧ ∃ Nx : Hp → Prop, (∀ H', Nx H' → ∃ m', m' < m ∧ W (i + 1) m' H') ∧ ∀ x H', J.yld i H x H' → g x (wipe σ vs) H' fun σ2 H2 => wipe σ2 vs = wipe σ vs ∧ tt σ2 H2 fun b H3 =>
      if b = true then te σ2 H3 fun y H4 => ∃ acc, H4 D = some (.lst acc) ∧ acc.length < sizeLine ∧ Nx (upd H4 D (.lst (acc ++ [y]))) else Nx H3)) : tLc wi g tt te vs σ H Q := q
theorem r_wipe {σ' : L2.St} {vs : List Nat} {P : Prop} (e : wipe σ' vs = wipe σ vs) (q : P) : wipe σ' vs = wipe σ vs ∧ P := ⟨e, q⟩
theorem r_yes {Q : Bool → Hp → Prop} (q : Q true H) : tYes σ H Q := q
theorem lc_close {ys : List V} {i : Nat} {y : V} (e : ys[i]? = some y) (hn : ys.length ≤ 1000) : ∃ acc, (upd H1 D (.lst (ys.take i))) D = some (.lst acc) ∧ acc.length < sizeLine ∧
    upd (upd H1 D (.lst (ys.take i))) D (.lst (acc ++ [y])) = upd H1 D (.lst (ys.take (i + 1))) := by
  obtain ⟨hi, he⟩ := List.getElem?_eq_some_iff.mp e
  refine ⟨_, upd_same, ?_, ?_⟩
  · have : (ys.take i).length ≤ 1000 := by rw [List.length_take]; omega
    exact Nat.lt_of_le_of_lt this (by decide)
  · rw [upd_upd, List.take_succ_eq_append_getElem hi, he]
theorem ints_dp : ∀ (ns : List Int), DpAll K H (ns.map V.int) (ns.map PyData.int)
  | [] => .nil
  | n :: ns => .cons (.int n) (ints_dp ns)
theorem ints_eqv : ∀ (a b : List Int), PyData.eqvAll (a.map PyData.int) (b.map PyData.int) = decide (a = b)
  | [], [] => rfl
  | [], _ :: _ => rfl
  | _ :: _, [] => rfl
  | x :: a, y :: b => by
    rw [List.map_cons, List.map_cons]
    simp only [PyData.eqvAll, PyData.eqv, ints_eqv a b, List.cons.injEq]
    by_cases h : x = y <;> simp [h]
theorem ints_lay : ∀ (a : List Int), PyData.canLayAll0 (a.map PyData.int) = true ∧ PyData.depthAll (a.map PyData.int) = 0
  | [] => ⟨rfl, rfl⟩
  | x :: a => by
    have h := ints_lay a
    rw [List.map_cons]
    refine ⟨?_, ?_⟩
    · simp only [PyData.canLayAll0, PyData.canLay0, Bool.true_and]; exact h.1
    · simp only [PyData.depthAll, PyData.depth, h.2]; rfl
theorem ints_shaped (a : List Int) : SeqAt.shaped (.list (a.map PyData.int)) = true := by
  have h := ints_lay a
  unfold SeqAt.shaped
  simp only [PyData.canLay0, PyData.depth, h.1, h.2]
  decide
theorem r_sameInts {a b : Addr} {ns ms : List Int} (h : H a = some (.lst (ns.map V.int))) (h' : H b = some (.lst (ms.map V.int))) (q : Q (.bl (decide (ns = ms))) H) : rSame K (.ref a) (.ref b) H Q := by
  refine .inr ⟨.list (ns.map .int), .list (ms.map .int), .lst (SqL.of h) (ints_dp ns), .lst (SqL.of h') (ints_dp ms), ints_shaped ns, ints_shaped ms, ?_⟩
  have e : PyData.eqv (.list (ns.map PyData.int)) (.list (ms.map PyData.int)) = decide (ns = ms) := by
    simp only [PyData.eqv]; exact ints_eqv ns ms
  rw [e]
  exact q
end
theorem fit_bools {a b : Bool} : Fit 60 60000 (.list [.bool a, .bool b]) := ⟨rfl, rfl, Nat.le_of_ble_eq_true rfl, Nat.le_of_ble_eq_true rfl⟩
end Cm
set_option Elab.async false
set_option linter.all false
set_option maxRecDepth 100000
set_option maxHeartbeats 4000000
/-! ## 6. Defs with defaults, calls by names -/
namespace Cm
open PySem PySem.Spec PyProof.Rows L2
def nV : List V → Nat → V
  | [], _ => .non
  | v :: _, 0 => v
  | _ :: vs, n + 1 => nV vs n
def nU : List Value → Nat → Value
  | [], _ => .none
  | v :: _, 0 => v
  | _ :: vs, n + 1 => nU vs n
theorem nRel : ∀ {vs : List V} {us : List Value} (i : Nat), Vals vs us → RelV (nV vs i) (nU us i)
  | _, _, _, .nil => rfl
  | _, _, 0, .cons r _ => r
  | _, _, i + 1, .cons _ r => nRel i r
/-- a def with defaults, the tuple of them at T -/
abbrev FnD (K : PySem.W.Frag) (x qual : Str) (st : Stmt) (dvs : List V) (f : Addr) (fd : FuncData) : Prop :=
  FunD K x qual (defArgs st) (defBody st) (defScope st) dvs [] f fd
theorem fnd_mk {K : PySem.W.Frag} {x qual : Str} {st : Stmt} {f T : Addr} {oc ocT : Value} {od an odT : Option Addr} {osl slT : Array (Option Value)} {kV doc pm cdv ct : Value}
    {its : List Value} {m : Nat} {dvs : List V}
    (l : K.lookup f = some ⟨oc, od, .func (PySem.W.fnOf x qual (defArgs st) (defBody st) (defScope st) (.ref T) kV doc pm an cdv ct), osl⟩)
    (c : PySem.W.codeIn K cdv qual = true) (k : PySem.W.keepIn K (.ref f) = true) (lT : K.lookup T = some ⟨ocT, odT, .seq its.toArray m, slT⟩) (hne : dvs ≠ []) (hv : Vals dvs its) :
    FnD K x qual st dvs f (PySem.W.fnOf x qual (defArgs st) (defBody st) (defScope st) (.ref T) kV doc pm an cdv ct) :=
  ⟨⟨oc, od, .ref T, kV, doc, pm, an, cdv, ct, osl, rfl, l, c, .inr ⟨hne, T, _, its, m, rfl, lT, rfl, hv⟩, .inl rfl⟩, k⟩
section
variable {P : Program} {w : World} {K : PySem.W.Frag} {mg : Str → Option Value} {base : Heap}
theorem fgd_of {CX : CXT} {x qual : Str} {st : Stmt} {dvs : List V} {f : Addr} {fd : FuncData}
    {N ps : List Str} {k : Nat} {sp : Sp} (F : FnD K x qual st dvs f fd)
    (S : FnScope N ps (defScope st)) (len : ∀ vs H Q E, sp vs H Q E → vs.length = ps.length)
    (hbody : ∀ (cdv : Value) (A : Around) (outer : List Env) (s : Shared) (H : Hp)
      (vs : List V) (Q : VK) (E : XK),
      Room k (A.deeper (envOfC qual (defScope st) s.heap.objs.size f cdv)) →
      A.guards = some [] → sp vs H Q E →
      ∃ t, PSs (cxOf CX P w K mg base N qual (defScope st) f cdv A outer s H E) (defBody st) t ∧
        t { nx := fun _ H' => Q .non H', rt := Q } (start N vs) H) :
    Fg P w K mg base CX (k + 1) f fd ps sp := by
  obtain ⟨oc, od, dV, kV, doc, pm, an, cdv, ct, osl, rfl, lk, hcd, _, _⟩ := F.ex
  refine ⟨len, ?_⟩
  intro A outer s H args us vs Q E hr hgd env hb r hsp
  have nvs : vs.length = ps.length := len _ _ _ _ hsp
  have old : ∀ b o, base.get? b = some o → s.heap.get? b = some o :=
    fun b o e => (env.bs b o e).1
  have KX : K.In s.heap := env.mod.kin.keeps old
  have lim : s.heap.NoLimit := env.mod.nolimit.keeps old
  have kinds : ∀ y ∈ ps.zip us, (defScope st).names.lookup y.1 = some .local ∨
      ((defScope st).names.lookup y.1 = some .cell ∧
        ((cellsFrom (s.heap.objs.size + 1) (defScope st).names []).lookup y.1).isSome = true) := by
    rintro ⟨n, v⟩ hy
    cases S.par n (List.of_mem_zip hy).1 with
    | inl q => exact .inl q
    | inr q => exact .inr ⟨q, PySem.W.cellsFrom_some _ _ _ (.inl q)⟩
  refine codeAny_call_function hr.depth (KX _ _ lk) rfl S.co S.gen rfl
    (PySem.W.codeRec_of KX hcd) (hb _ _ _ _ ?_)
  refine wpAny_newFunctionEnv_cells S.kind kinds ?_
  intro env' he s1 xx
  subst he
  refine ⟨lim.keeps xx.toInCall.keep, codeAny_func ?_⟩
  obtain ⟨t, ht, hq⟩ := hbody cdv A outer s H vs Q E (hr.deeper _) hgd hsp
  have I := inv_start (CX := CX) (P := P) (mg := mg) (E := E) S hr.hd env nvs r xx
  have leave : ∀ {σ' : L2.St} {H' : Hp} {v : V} {u : Value} {s' : Shared},
      Inv (cxOf CX P w K mg base N qual (defScope st) f cdv A outer s H E) [] σ' H' s' →
      RelV v u → Q v H' → CE outer P w H s Q u s' := by
    intro σ' H' v u s' J rv q
    exact ⟨v, H', J.os, J.bare, J.base, J.hok, rv, q⟩
  refine wpAny_mono (ht.run [] s1 (start N vs) H _ I hq) ?_ (fun e s' hs => hs)
  intro fl s' hs
  match fl, hs with
  | .ret u, hs =>
    obtain ⟨v, σ', H', J, rv, q⟩ := hs
    exact leave J rv q
  | .next, hs =>
    obtain ⟨σ', H', J, q⟩ := hs
    exact leave (v := V.non) (u := Value.none) J rfl q
  | .brk, hs =>
    obtain ⟨_, _, _, q⟩ := hs
    exact False.elim q
  | .cont, hs =>
    obtain ⟨_, _, _, q⟩ := hs
    exact False.elim q
theorem fgd_of0 {x qual : Str} {st : Stmt} {dvs : List V} {f : Addr} {fd : FuncData}
    {N ps : List Str} {k : Nat} {sp : Sp} (F : FnD K x qual st dvs f fd)
    (S : FnScope N ps (defScope st)) (len : ∀ vs H Q E, sp vs H Q E → vs.length = ps.length)
    (hbody : ∀ (cdv : Value) (A : Around) (outer : List Env) (s : Shared) (H : Hp)
      (vs : List V) (Q : VK) (E : XK),
      Room k (A.deeper (envOfC qual (defScope st) s.heap.objs.size f cdv)) →
      A.guards = some [] → sp vs H Q E →
      ∃ t, PSs (cxOf CX0 P w K mg base N qual (defScope st) f cdv A outer s H E).nox (defBody st) t ∧
        t { nx := fun _ H' => Q .non H', rt := Q } (start N vs) H) :
    Fg P w K mg base CX0 (k + 1) f fd ps sp := by
  refine fgd_of F S len ?_
  intro cdv A outer s H vs Q E hr hg hsp
  obtain ⟨t, h, q⟩ := hbody cdv A outer s H vs Q E hr hg hsp
  exact ⟨t, h.nox, q⟩
end
/-- what a call by names binds, in the parameters' order, the defaults among them -/
theorem kbn_mk {K : PySem.W.Frag} {fd : FuncData} {ps ks : List Str} {n : Nat} {T : Addr} {ocT : Value} {odT : Option Addr} {slT : Array (Option Value)} {its : List Value} {m : Nat}
    {g : List Value → List Value → List Value} {gV : List V → List V → List V}
    (lT : K.lookup T = some ⟨ocT, odT, .seq its.toArray m, slT⟩) (hr : ∀ {vs : List V} {us : List Value} {zs : List V} {ws : List Value}, Vals vs us → Vals zs ws → Vals (gV vs zs) (g us ws))
    (h : ∀ us ws : List Value, us.length = n → ws.length = ks.length → ∃ k, bindArgs fd ⟨us, ks.zip ws⟩ = seqItems? (.ref T) >>= k ∧ k (some its.toArray) = pure (ps.zip (g us ws))) : KBn K fd ps n ks g gV := by
  refine ⟨fun s us ws X l1 l2 => ?_, hr⟩
  obtain ⟨k, e1, e2⟩ := h us ws l1 l2
  refine BindsTo.of_looks fun M => ?_
  rw [e1]
  exact looks_items X lT rfl (.of_pure e2)
section
variable {X : Cx} {CX : CXT} {k n : Nat} {f : Addr} {fd : FuncData} {ps ks : List Str}
  {sp : Sp} {dvs : List V} {E : XK} {x : Str} {p pos : Pos}
  {e : Expr} {es : List Expr} {kws : List Keyword} {t tk : TA} {g : List Value → List Value → List Value} {gV : List V → List V → List V}
theorem pg_callD (F : Fg X.prog X.w X.K X.mg X.base CX k f fd ps sp) (hr : Room k X.A)
    (hgd : X.A.guards = some []) (hg : Gl X x) (hm : X.mg x = some (.ref f))
    (hk : PySem.W.keepIn X.K (.ref f) = true) (hb : ∃ ds, Vals dvs ds ∧ Binds X.K fd ps ds)
    (hx : Passes CX X E) (ha : PA X (e :: es) t)
    (hdb : (x == ("__debug__" : Str)) = false := by decide)
    (he : starEach (e :: es) X.env = (false, eval e X.env) :: starEach es X.env := by rfl)
    (hpl : (backTo pos (starEach es X.env)).any (·.1) = false := by rfl) :
    PE X (.Call (.Name x p) (e :: es) [] pos) (tCall sp dvs E t) := by
  obtain ⟨ds, hd, hb⟩ := hb
  exact pg_call F hr hgd hg hm hk hb hd hx ha hdb he hpl
theorem go_fnN {pins : List (Addr × Obj)} {σ : L2.St} {H : Hp} {s : Shared} {Q : VK}
    {us ws : List Value} {vs zs : List V}
    (F : Fg X.prog X.w X.K X.mg X.base CX k f fd ps sp) (hr : Room k X.A)
    (hg : X.A.guards = some []) (hb : KBn X.K fd ps n ks g gV)
    (hx : Passes CX X E) (I : Inv X pins σ H s) (r : Vals vs us) (rz : Vals zs ws)
    (l1 : vs.length = n) (l2 : zs.length = ks.length) (h : sp (gV vs zs) H Q E) :
    wpAny (model X.prog X.w) X.A (call (.ref f) us (ks.zip ws)) (EP X pins σ Q) X.xe s := by
  have both := hb.rel r rz
  have body := F.go X.A X.stack s H ⟨us, ks.zip ws⟩ (g us ws) (gV vs zs) Q E hr hg I.env0
    (hb.to s us ws I.kIn (r.length.symm.trans l1) (rz.length.symm.trans l2)) both h
  refine wpAny_call (codeAny_mono body ?_)
  intro r s' hq
  match r, hq with
  | .error e, hq => exact hx pins σ H s e s' I hq
  | .ok (.ret u), hq => exact I.after hq
theorem pg_callN (F : Fg X.prog X.w X.K X.mg X.base CX k f fd ps sp) (hr : Room k X.A)
    (hgd : X.A.guards = some []) (hg : Gl X x) (hm : X.mg x = some (.ref f))
    (hk : PySem.W.keepIn X.K (.ref f) = true) (hb : KBn X.K fd ps n ks g gV)
    (hx : Passes CX X E) (ha : PA X (e :: es) t) (hkw : PK X kws tk)
    (hall : (backToKw pos (keywordEach kws X.env)).all (·.1.isSome) = true := by rfl)
    (hks : (backToKw pos (keywordEach kws X.env)).filterMap (·.1) = ks := by rfl)
    (hdb : (x == ("__debug__" : Str)) = false := by decide)
    (he : starEach (e :: es) X.env = (false, eval e X.env) :: starEach es X.env := by rfl)
    (hpl : ((backTo pos (starEach (e :: es) X.env)).any (·.1) || (backToKw pos (keywordEach kws X.env)).any (·.1.isNone)) = false := by rfl) :
    PE X (.Call (.Name x p) (e :: es) kws pos) (tCallN n ks.length sp gV E t tk) := by
  constructor
  intro pins s σ H Q I h
  have args := ha.run pos pins s σ H _ I h
  refine wpAny_Call_Name_kw (ld_glob I hg hm ?_ hdb)
  refine PySem.W.callWith_KW (h₀ := X.base) I.ok.mod.kin hk hall (thn args ?_) hpl he
  rintro us s1 ⟨vs, H1, I1, r, q⟩
  refine thn (hkw.run pos pins s1 σ H1 _ I1 q) ?_
  rintro ws s2 ⟨zs, H2, I2, rz, l1, l2, q2⟩
  refine ⟨I2.kIn, ?_⟩
  rw [hks]
  exact go_fnN F hr hgd hb hx I2 r rz l1 l2 q2
theorem pg_callN0 (F : Fg X.prog X.w X.K X.mg X.base CX k f fd ps sp) (hr : Room k X.A)
    (hgd : X.A.guards = some []) (hg : Gl X x) (hm : X.mg x = some (.ref f))
    (hk : PySem.W.keepIn X.K (.ref f) = true) (hb : KBn X.K fd ps 0 ks g gV)
    (hx : Passes CX X E) (hkw : PK X kws tk)
    (hall : (backToKw pos (keywordEach kws X.env)).all (·.1.isSome) = true := by rfl)
    (hks : (backToKw pos (keywordEach kws X.env)).filterMap (·.1) = ks := by rfl)
    (hdb : (x == ("__debug__" : Str)) = false := by decide)
    (hpl : ((backTo pos (starEach [] X.env)).any (·.1) || (backToKw pos (keywordEach kws X.env)).any (·.1.isNone)) = false := by rfl) :
    PE X (.Call (.Name x p) [] kws pos) (tCallN 0 ks.length sp gV E tNil tk) := by
  constructor
  intro pins s σ H Q I h
  refine wpAny_Call_Name_kw (ld_glob I hg hm ?_ hdb)
  refine PySem.W.callWith_KW0 (h₀ := X.base) I.ok.mod.kin hk hall (thn (hkw.run pos pins s σ H _ I h) ?_) hpl
  rintro ws s2 ⟨zs, H2, I2, rz, l1, l2, q2⟩
  refine ⟨I2.kIn, ?_⟩
  rw [hks]
  exact go_fnN (us := []) (vs := []) F hr hgd hb hx I2 .nil rz l1 l2 q2
theorem r_callN {σ : L2.St} {H : Hp} {Q : VK} {m : Nat} (q : t σ H fun vs H1 => tk σ H1 fun zs H2 => vs.length = n ∧ zs.length = m ∧ sp (gV vs zs) H2 Q E) : tCallN n m sp gV E t tk σ H Q := q
theorem r_names {vs zs : List V} {m : Nat} {Q : Prop} (h1 : vs.length = n) (h2 : zs.length = m) (q : Q) : vs.length = n ∧ zs.length = m ∧ Q := ⟨h1, h2, q⟩
end
end Cm
set_option Elab.async false
set_option linter.all false
set_option maxRecDepth 100000
set_option maxHeartbeats 4000000
/-! ## 7. Instances of the program's own classes -/
namespace Cm
open PySem PySem.Spec PyProof.Rows L2
theorem under_guards {A : Around} {C : Addr} {us : List Value} {kw : List (Str × Value)} (h : A.guards = some []) : (A.under (.builtin "type.__call__" ⟨.ref C :: us, kw⟩)).guards = some [] := by
  first
    | exact h
    | (simp only [Around.under]; exact h)
    | (simp [Around.under, Code.weight, Code.isCreation, Code.isGuard, Code.isCaller, Code.frames, Code.isFrame, guardIds, h])
section
variable {X : Cx} {CX : CXT} {k n : Nat} {f C : Addr} {fd : FuncData} {ps ks : List Str} {sp : Sp} {E : XK} {x : Str} {p pos : Pos}
  {e : Expr} {es : List Expr} {kws : List Keyword} {t tk : TA} {g : List Value → List Value → List Value} {gV : List V → List V → List V}
theorem go_makeN {pins : List (Addr × Obj)} {σ : L2.St} {H : Hp} {s : Shared} {Q : VK} {us ws : List Value} {vs zs : List V}
    (M : Mk X.K C f) (F : Fg X.prog X.w X.K X.mg X.base CX k f fd ps sp) (hr : Room (k + 1) X.A) (hgd : X.A.guards = some [])
    (hb : KBn X.K fd ps (n + 1) ks g gV) (hx : Passes CX X E) (I : Inv X pins σ H s) (r : Vals vs us) (rz : Vals zs ws)
    (l1 : vs.length = n) (l2 : zs.length = ks.length)
    (h : ∀ x dx, H x = none → H dx = none → dx ≠ x → sp (gV (.ref x :: vs) zs) (upd (upd H dx (.own x)) x (.ins C dx [])) (fun v H2 => v = .non ∧ Q (.ref x) H2) E) :
    wpAny (model X.prog X.w) X.A (call (.ref C) us (ks.zip ws)) (EP X pins σ Q) X.xe s := by
  let nx := s.heap.objs.size + 1
  have start := h nx s.heap.objs.size (I.hok.fresh (Nat.le_succ _)) (I.hok.fresh (Nat.le_refl _)) (Nat.ne_of_lt (Nat.lt_succ_self _))
  have J := Inv.made (C := C) I
  have r1 : Vals (V.ref nx :: vs) (Value.ref nx :: us) := .cons rfl r
  have both := hb.rel r1 rz
  have k1 : (Value.ref nx :: us).length = n + 1 := r1.length.symm.trans (congrArg Nat.succ l1)
  have k2 : ws.length = ks.length := rz.length.symm.trans l2
  have body := F.go _ X.stack _ _ ⟨Value.ref nx :: us, ks.zip ws⟩ (g (Value.ref nx :: us) ws) _ _ E (hr.make C us (ks.zip ws))
    (under_guards hgd) (J.env0.make C us (ks.zip ws)) (hb.to _ (Value.ref nx :: us) ws J.kIn k1 k2) both start
  refine wpAny_call (make_map (f := f) I.kIn M.makes M.init (beq_iff_eq.mp M.fn) (codeAny_mono body ?_))
  intro rr s' hq
  match rr, hq with
  | .error e, hq => exact hx pins σ _ _ e s' J hq
  | .ok (.ret u), hq =>
    obtain ⟨v, H', J3, rv, ev, q⟩ := J.after hq
    subst ev
    exact ⟨rv, ⟨V.ref nx, H', J3, rfl, q⟩⟩
/-- C(k = v, ..) -/
theorem pg_makeN0 (M : Mk X.K C f) (F : Fg X.prog X.w X.K X.mg X.base CX k f fd ps sp) (hr : Room (k + 1) X.A) (hgd : X.A.guards = some [])
    (hg : Gl X x) (hm : X.mg x = some (.ref C)) (hb : KBn X.K fd ps 1 ks g gV) (hx : Passes CX X E) (hkw : PK X kws tk)
    (hall : (backToKw pos (keywordEach kws X.env)).all (·.1.isSome) = true := by rfl)
    (hks : (backToKw pos (keywordEach kws X.env)).filterMap (·.1) = ks := by rfl)
    (hdb : (x == ("__debug__" : Str)) = false := by decide)
    (hpl : ((backTo pos (starEach [] X.env)).any (·.1) || (backToKw pos (keywordEach kws X.env)).any (·.1.isNone)) = false := by rfl) :
    PE X (.Call (.Name x p) [] kws pos) (tMakeN C 0 ks.length sp gV E tNil tk) := by
  constructor
  intro pins s σ H Q I h
  refine wpAny_Call_Name_kw (ld_glob I hg hm ?_ hdb)
  refine PySem.W.callWith_KW0 (h₀ := X.base) I.ok.mod.kin M.kp hall (thn (hkw.run pos pins s σ H _ I h) ?_) hpl
  rintro ws s2 ⟨zs, H2, I2, rz, l1, l2, q2⟩
  refine ⟨I2.kIn, ?_⟩
  rw [hks]
  exact go_makeN (us := []) (vs := []) M F hr hgd hb hx I2 .nil rz l1 l2 q2
/-- C(e, .., k = v, ..) -/
theorem pg_makeN (M : Mk X.K C f) (F : Fg X.prog X.w X.K X.mg X.base CX k f fd ps sp) (hr : Room (k + 1) X.A) (hgd : X.A.guards = some [])
    (hg : Gl X x) (hm : X.mg x = some (.ref C)) (hb : KBn X.K fd ps (n + 1) ks g gV) (hx : Passes CX X E) (ha : PA X (e :: es) t) (hkw : PK X kws tk)
    (hall : (backToKw pos (keywordEach kws X.env)).all (·.1.isSome) = true := by rfl)
    (hks : (backToKw pos (keywordEach kws X.env)).filterMap (·.1) = ks := by rfl)
    (hdb : (x == ("__debug__" : Str)) = false := by decide)
    (he : starEach (e :: es) X.env = (false, eval e X.env) :: starEach es X.env := by rfl)
    (hpl : ((backTo pos (starEach (e :: es) X.env)).any (·.1) || (backToKw pos (keywordEach kws X.env)).any (·.1.isNone)) = false := by rfl) :
    PE X (.Call (.Name x p) (e :: es) kws pos) (tMakeN C n ks.length sp gV E t tk) := by
  constructor
  intro pins s σ H Q I h
  have args := ha.run pos pins s σ H _ I h
  refine wpAny_Call_Name_kw (ld_glob I hg hm ?_ hdb)
  refine PySem.W.callWith_KW (h₀ := X.base) I.ok.mod.kin M.kp hall (thn args ?_) hpl he
  rintro us s1 ⟨vs, H1, I1, r, q⟩
  refine thn (hkw.run pos pins s1 σ H1 _ I1 q) ?_
  rintro ws s2 ⟨zs, H2, I2, rz, l1, l2, q2⟩
  refine ⟨I2.kIn, ?_⟩
  rw [hks]
  exact go_makeN M F hr hgd hb hx I2 r rz l1 l2 q2
theorem r_makeN {σ : L2.St} {H : Hp} {Q : VK} {m : Nat} (q : t σ H fun vs H1 => tk σ H1 fun zs H2 => vs.length = n ∧ zs.length = m ∧
    ∀ x dx, H2 x = none → H2 dx = none → dx ≠ x → sp (gV (.ref x :: vs) zs) (upd (upd H2 dx (.own x)) x (.ins C dx [])) (fun v H3 => v = .non ∧ Q (.ref x) H3) E) :
    tMakeN C n m sp gV E t tk σ H Q := q
end
end Cm
set_option Elab.async false
set_option linter.all false
set_option maxRecDepth 100000
set_option maxHeartbeats 4000000
namespace Cm
open PySem PySem.Spec PyProof.Rows L2
open AutoSeq1 (wpAny_loadPart')
open PySem.SeqAt
section
variable {prog : Program} {w : World} {A : Around} {E : Value → Shared → Prop} {s : Shared} {Q : Fin → Shared → Prop} {K : PySem.W.Frag} {x C : Addr} {o : Obj}
theorem dec_non (q : Q (.done (.ret .notImplemented)) s) : wpAny (model prog w) A (Builtin.«NoneType.__eq__» ⟨[.none, .ref x], []⟩) Q E s := by
  obtain ⟨hp, g, d, tk, os⟩ := s
  wp_walk
  exact q
theorem dec_int {i : Int} {u : Tok} (ho : s.heap.get? x = some o) (hd : o.data = .plain) (q : Q (.done (.ret .notImplemented)) s) : wpAny (model prog w) A (Builtin.«int.__eq__» ⟨[.int i u, .ref x], []⟩) Q E s := by
  obtain ⟨hp, g, d, tk, os⟩ := s
  obtain ⟨c, dd, dt, sl⟩ := o
  simp only at hd
  subst hd
  wp_walk using wpAny_loadPart' ho, wpAny_load ho
  exact q
theorem dec_bool {i : Bool} (ho : s.heap.get? x = some o) (hd : o.data = .plain) (q : Q (.done (.ret .notImplemented)) s) : wpAny (model prog w) A (Builtin.«int.__eq__» ⟨[.bool i, .ref x], []⟩) Q E s := by
  obtain ⟨hp, g, d, tk, os⟩ := s
  obtain ⟨c, dd, dt, sl⟩ := o
  simp only at hd
  subst hd
  wp_walk using wpAny_loadPart' ho, wpAny_load ho
  exact q
theorem dec_str {i : Str} {u : Tok} (ho : s.heap.get? x = some o) (hd : o.data = .plain) (q : Q (.done (.ret .notImplemented)) s) : wpAny (model prog w) A (Builtin.«str.__eq__» ⟨[.str i u, .ref x], []⟩) Q E s := by
  obtain ⟨hp, g, d, tk, os⟩ := s
  obtain ⟨c, dd, dt, sl⟩ := o
  simp only at hd
  subst hd
  wp_walk using wpAny_loadPart' ho, wpAny_load ho
  exact q
theorem dec_list {l : Addr} (ho : s.heap.get? x = some o) (hc : o.cls = .ref C) (X : K.In s.heap) (hs : PySem.W.subIn K (.ref C) (.type "list") = some false) (q : Q (.done (.ret .notImplemented)) s) :
    wpAny (model prog w) A (Builtin.«list.__eq__» ⟨[.ref l, .ref x], []⟩) Q E s := by
  have sb : ∀ {A : Around} {Q : Bool → Shared → Prop} {E : Value → Shared → Prop}, Q false s → wpAny (model prog w) A (isSubtype (.ref C) (.type "list")) Q E s := fun q => (PySem.W.looks_subIn X hs).here q
  obtain ⟨hp, g, d, tk, os⟩ := s
  obtain ⟨c, dd, dt, sl⟩ := o
  simp only at hc
  subst hc
  wp_walk using wpAny_loadPart' ho, wpAny_load ho, sb
  exact q
theorem dec_tuple {l : Addr} (ho : s.heap.get? x = some o) (hc : o.cls = .ref C) (X : K.In s.heap) (hs : PySem.W.subIn K (.ref C) (.type "tuple") = some false) (q : Q (.done (.ret .notImplemented)) s) :
    wpAny (model prog w) A (Builtin.«tuple.__eq__» ⟨[.ref l, .ref x], []⟩) Q E s := by
  have sb : ∀ {A : Around} {Q : Bool → Shared → Prop} {E : Value → Shared → Prop}, Q false s → wpAny (model prog w) A (isSubtype (.ref C) (.type "tuple")) Q E s := fun q => (PySem.W.looks_subIn X hs).here q
  obtain ⟨hp, g, d, tk, os⟩ := s
  obtain ⟨c, dd, dt, sl⟩ := o
  simp only at hc
  subst hc
  wp_walk using wpAny_loadPart' ho, wpAny_load ho, sb
  exact q
theorem dec_dict {l : Addr} (ho : s.heap.get? x = some o) (hc : o.cls = .ref C) (X : K.In s.heap) (hs : PySem.W.subIn K (.ref C) (.type "dict") = some false) (q : Q (.done (.ret .notImplemented)) s) :
    wpAny (model prog w) A (Builtin.«dict.__eq__» ⟨[.ref l, .ref x], []⟩) Q E s := by
  have sb : ∀ {A : Around} {Q : Bool → Shared → Prop} {E : Value → Shared → Prop}, Q false s → wpAny (model prog w) A (isSubtype (.ref C) (.type "dict")) Q E s := fun q => (PySem.W.looks_subIn X hs).here q
  obtain ⟨hp, g, d, tk, os⟩ := s
  obtain ⟨c, dd, dt, sl⟩ := o
  simp only at hc
  subst hc
  wp_walk using wpAny_loadPart' ho, wpAny_load ho, sb
  exact q
end
end Cm
set_option Elab.async false
set_option linter.all false
set_option maxRecDepth 100000
set_option maxHeartbeats 4000000
namespace Cm
open PySem PySem.Spec PyProof.Rows L2
section
variable {prog : Program} {w : World} {A : Around} {E : Value → Shared → Prop} {s : Shared} {K : PySem.W.Frag} {x C f : Addr} {ox : Obj} {od : Option Obj} {a b tb : Value} {T : String} {Q : Value → Shared → Prop}
/-- data == an instance: the data's own == declines, the instance's is asked -/
theorem rc_reflect (hu : A.units < cLine) (X : K.In s.heap) (I : PySem.W.InstAt s.heap x ox C od) (hT : s.TypeIs a T) (hone : oneThing? .Eq a (.ref x) = none)
    (hsub : PySem.W.subIn K (.ref C) (.type T) = some false) (hs : PySem.W.findIn K (.ref C) "__eq__" = some (some (.ref f))) (hf : PySem.W.isFn K (.ref f) = true)
    (hdec : wpAny (model prog w) A (tryCompare a "__eq__" (.ref x)) (fun r s' => r = none ∧ s' = s) E s)
    (h : wpAny (model prog w) A (call (.ref f) [.ref x, a]) (PySem.W.CmpBack Q) E s) : wpAny (model prog w) A (richCompare .Eq a (.ref x)) Q E s := by
  have two : wpAny (model prog w) A (tryCompare (.ref x) "__eq__" a) (fun r s' => ∃ v, r = some v ∧ Q v s') E s := by
    unfold tryCompare
    refine wpAny_bind (PySem.W.ifBound_K X I hs hf (wpAny_mono h (fun v s' hv => ?_) fun _ _ e => e))
    cases v <;> first | exact hv.elim | exact wpAny_pure ⟨_, rfl, hv⟩
  simp only [richCompare, cmpInfo_Eq, hone]
  refine wpAny_holding (wpAny_bind (wpAny_cRoomFor hu ?_))
  refine wpAny_bind (wpAny_typeOf hT (wpAny_bind (I.type.here ?_)))
  split
  · refine wpAny_bind ((PySem.W.looks_subIn X hsub).here ?_)
    simp only [Bool.false_eq_true, if_false, Bool.not_false, if_true]
    refine wpAny_bind (m := tryCompare a _ (.ref x)) (wpAny_mono hdec (fun r s1 z => ?_) fun _ _ e => e)
    obtain ⟨z1, z2⟩ := z
    subst z1
    subst z2
    refine wpAny_bind (m := tryCompare (.ref x) _ a) (wpAny_mono two (fun r s2 z => ?_) fun _ _ e => e)
    obtain ⟨v, rfl, hq⟩ := z
    exact wpAny_pure hq
  · rename_i q
    exact absurd (by simp) q
theorem ifBound_objNe {args : List Value} {M : Model} {Q : Option Value → Shared → Prop} (X : K.In s.heap) (I : PySem.W.InstAt s.heap x ox C od) (hs : PySem.W.findIn K (.ref C) "__ne__" = some (some (.builtin "object.__ne__")))
    (h : wpAny M A (call (.builtin "object.__ne__") (.ref x :: args)) (fun v => Q (some v)) E s) : wpAny M A (callSpecialIfBound? (.ref x) "__ne__" args) Q E s := by
  simp only [callSpecialIfBound?, bindSpecialIfBound?]
  refine wpAny_holding (wpAny_bind (wpAny_bind (wpAny_bind (I.type.here ((PySem.W.looks_findIn X hs).here ?_)))))
  refine wpAny_bind (wpAny_askSetting (wpAny_ite ?_))
  have last : wpAny M A (call (.builtin "object.__ne__") ([.ref x] ++ args) >>= fun v => pure (some v)) Q E s :=
    wpAny_bind (wpAny_mono h (fun v s' h' => wpAny_pure h') fun _ _ h' => h')
  split
  · exact wpAny_bind (wpAny_of_eq (F.cmp_object.ne.bind _) (wpAny_pure (by exact last)))
  · exact wpAny_tryCatch (wpAny_bind (wpAny_of_eq (F.cmp_object.ne.bind _) (wpAny_pure (by exact last))))
theorem entry_ne (hu : A.units < cLine) (X : K.In s.heap) (I : PySem.W.InstAt s.heap x ox C od) (hs : PySem.W.findIn K (.ref C) "__eq__" = some (some (.ref f))) (hf : PySem.W.isFn K (.ref f) = true) {Q : Fin → Shared → Prop}
    (h : wpAny (model prog w) A (call (.ref f) [.ref x, b]) (fun v s' => ∃ c, v = .bool c ∧ Q (.done (.ret (.bool (!c)))) s') E s) :
    wpAny (model prog w) A (Builtin.«object.__ne__» ⟨[.ref x, b], []⟩) Q E s := by
  unfold Builtin.«object.__ne__»
  repeat (first
    | with_reducible refine wpAny_cRoomFor hu ?_
    | (refine wpAny_bind (m := callSpecialIfBound? (.ref x) (Str.ofString "__eq__") [b])
        (PySem.W.ifBound_K X I hs hf (wpAny_mono h (fun r s' hr => by
          obtain ⟨c, rfl, hq⟩ := hr
          repeat (first | exact hq | exact wpAny_pure hq | exact wpAny_truthy_bool hq | (refine wpAny_bind (m := truthy (.bool _)) (wpAny_truthy_bool ?_)) | wp_step)) fun _ _ e => e)))
    | wp_step)
theorem rc_ne (hu : A.units + 1 < cLine) (X : K.In s.heap) (I : PySem.W.InstAt s.heap x ox C od) (hb : PySem.W.Looks (model prog w) s.heap (typeOf b) tb) (hn : PySem.W.notFirst K C tb = true)
    (hm : PySem.W.mroIn K C (.type "object") = some true) (hne : PySem.W.findIn K (.ref C) "__ne__" = some (some (.builtin "object.__ne__")))
    (hs : PySem.W.findIn K (.ref C) "__eq__" = some (some (.ref f))) (hf : PySem.W.isFn K (.ref f) = true)
    (h : wpAny (model prog w) A.in1 (call (.ref f) [.ref x, b]) (fun v s' => ∃ c, v = .bool c ∧ Q (.bool (!c)) s') E s) : wpAny (model prog w) A (richCompare .NotEq (.ref x) b) Q E s := by
  have called : wpAny (model prog w) A (call (.builtin "object.__ne__") [.ref x, b]) (fun v s' => ∃ c, v = .bool c ∧ Q (.bool c) s') E s := by
    refine wpAny_call (codeAny_call_builtin F.cmp_object.ne.plain F.cmpEntry_ne (PySem.W.check_slot F.cmpKind_ne F.cmpSplit_ne (I.type.andThen (PySem.W.looks_mroIn X hm)) (F.cmpArgs_ne _ _) ?_))
    refine entry_ne (A := A.in1) hu X I hs hf (wpAny_mono h (fun v s' hv => ?_) fun _ _ e => e)
    obtain ⟨c, rfl, hq⟩ := hv
    exact ⟨c, rfl, _, rfl, hq⟩
  have one : wpAny (model prog w) A (tryCompare (.ref x) "__ne__" b) (fun r s' => ∃ c, r = some (.bool c) ∧ Q (.bool c) s') E s := by
    unfold tryCompare
    refine wpAny_bind (ifBound_objNe X I hne (wpAny_mono called (fun v s' hv => ?_) fun _ _ e => e))
    obtain ⟨c, rfl, hq⟩ := hv
    exact wpAny_pure ⟨c, rfl, hq⟩
  unfold richCompare
  simp only [oneThing_ref]
  refine wpAny_holding (wpAny_bind (wpAny_cRoomFor (Nat.lt_of_succ_lt hu) ?_))
  rw [cmpInfo_NotEq]
  dsimp only
  refine wpAny_bind (I.type.here (wpAny_bind (hb.here ?_)))
  split
  · rename_i q
    have e : PySem.W.subIn K tb (.ref C) = some false := by
      rcases Bool.or_eq_true_iff.mp hn with e | e
      · rw [beq_iff_eq.mp e] at q; simp at q
      · exact beq_iff_eq.mp e
    refine wpAny_bind ((PySem.W.looks_subIn X e).here ?_)
    simp only [Bool.false_eq_true, if_false]
    refine wpAny_bind (wpAny_mono one (fun r s' z => ?_) fun _ _ e => e)
    obtain ⟨v, rfl, hq⟩ := z
    exact wpAny_pure hq
  · refine wpAny_bind (wpAny_pure ?_)
    simp only [Bool.false_eq_true, if_false]
    refine wpAny_bind (wpAny_mono one (fun r s' z => ?_) fun _ _ e => e)
    obtain ⟨v, rfl, hq⟩ := z
    exact wpAny_pure hq
end
end Cm
set_option Elab.async false
set_option linter.all false
set_option maxRecDepth 100000
set_option maxHeartbeats 4000000
namespace Cm
open PySem PySem.Spec PyProof.Rows L2
/-- the seven kinds of data -/
def kinds : List String := ["NoneType", "bool", "int", "str", "list", "tuple", "dict"]
theorem kind_in (d : PyData) : kindD d ∈ kinds := by
  cases d <;> simp [kindD, kinds]
/-- an own class with an __eq__ of its own at gE -/
structure Own (K : PySem.W.Frag) (C gE : Addr) : Prop where
  eq : PySem.W.findIn K (.ref C) "__eq__" = some (some (.ref gE))
  fn : PySem.W.isFn K (.ref gE) = true
  ne : PySem.W.findIn K (.ref C) "__ne__" = some (some (.builtin "object.__ne__"))
  ob : PySem.W.mroIn K C (.type "object") = some true
  sub : ∀ T ∈ kinds, PySem.W.subIn K (.ref C) (.type T) = some false
theorem sub_kind {K : PySem.W.Frag} {C : Addr} (T : String) (h : T ∈ kinds) : PySem.W.subIn K (.type T) (.ref C) = some false := by
  have e : ∀ T ∈ kinds, ∃ l, fastBuiltinMro T = some l ∧ ∀ a : Addr, l.contains (.ref a) = false := by
    intro T h
    simp only [kinds, List.mem_cons, List.not_mem_nil, or_false] at h
    rcases h with h | h | h | h | h | h | h <;> subst h
    · exact ⟨[.type "NoneType", .type "object"], by decide +kernel, fun a => by simp⟩
    · exact ⟨[.type "bool", .type "int", .type "object"], by decide +kernel, fun a => by simp⟩
    · exact ⟨[.type "int", .type "object"], by decide +kernel, fun a => by simp⟩
    · exact ⟨[.type "str", .type "object"], by decide +kernel, fun a => by simp⟩
    · exact ⟨[.type "list", .type "object"], by decide +kernel, fun a => by simp⟩
    · exact ⟨[.type "tuple", .type "object"], by decide +kernel, fun a => by simp⟩
    · exact ⟨[.type "dict", .type "object"], by decide +kernel, fun a => by simp⟩
  obtain ⟨l, e1, e2⟩ := e T h
  show (fastBuiltinMro T).map (·.contains (.ref C)) = some false
  rw [e1]
  show some (l.contains (.ref C)) = some false
  rw [e2]
section
variable {X : Cx} {CX : CXT} {pins : List (Addr × Obj)} {σ : L2.St} {H : Hp} {s : Shared} {p C gE : Addr} {k : Nat} {f : Addr} {fd : FuncData} {ps : List Str} {sp : Sp} {E : XK}
theorem Dt.typeIs (I : Inv X pins σ H s) {v : V} {u : Value} {d : PyData} (h : Dt H p v d) (r : RelV v u) : s.TypeIs u (kindD d) := by
  cases h with
  | non => cases r; rfl
  | bl b => cases r; rfl
  | int i => obtain ⟨t, rfl⟩ := r; exact typeIs_int s i t
  | str x => obtain ⟨t, rfl⟩ := r; exact typeIs_str s x t
  | lst n e a =>
    cases r
    obtain ⟨its, rv, ⟨o, k, ho, hc, _, hdat⟩, _⟩ := I.list (SqL.of e)
    exact ⟨o, ho, hc⟩
  | tup n e a =>
    cases r
    obtain ⟨its, rv, ⟨o, ho, hc, k, hdat⟩, _⟩ := I.tuple (SqT.of e)
    exact ⟨o, ho, hc⟩
  | dct n e a =>
    cases r
    obtain ⟨_, no1, vs, rel, o, es, ep, ho, hx, hdat, _, hp, _⟩ := dk_of I.hok e
    exact ⟨o, ho, hx.1⟩
theorem looks_ty {M : Model} {u : Value} {T : String} (h : s.TypeIs u T) : PySem.W.Looks M s.heap (typeOf u) (.type T) := by
  intro A Q E s' kp q
  refine wpAny_typeOf (T := T) ?_ q
  match u, h with
  | .ref a, ⟨o, ho, hc⟩ => exact ⟨o, kp _ _ ho, hc⟩
  | .none, h => exact h
  | .ellipsis, h => exact h
  | .notImplemented, h => exact h
  | .bool _, h => exact h
  | .int _ _, h => exact h
  | .float _ _, h => exact h
  | .str _ _, h => exact h
  | .bytes _ _, h => exact h
  | .type _, h => exact h
  | .builtin _, h => exact h
/-- a def is called below the running body -/
theorem fn_at {A : Around} {Q : VK} {us : List Value} {vs : List V} (F : FnOk X.prog X.w X.K X.mg X.base CX k f fd ps sp) (hr : Room k A) (e0 : Env0 X.prog X.w X.K X.mg X.base A X.stack s H)
    (hb : Binds X.K fd ps []) (hx : Passes CX X E) (I : Inv X pins σ H s) (r : Vals vs us) (h : sp vs H Q E) :
    wpAny (model X.prog X.w) A (call (.ref f) us) (EP X pins σ Q) X.xe s := by
  have hl : us.length = ps.length := by rw [← r.length]; exact F.len _ _ _ _ h
  have bnd := hb s us I.kIn (by simpa using hl)
  have body := F.run A X.stack s H ⟨us, []⟩ us vs Q E hr e0 (by simpa using bnd) r h
  refine wpAny_call (codeAny_mono body ?_)
  intro r s' hq
  match r, hq with
  | .error e, hq => exact hx pins σ H s e s' I hq
  | .ok (.ret u), hq => exact I.after hq
def Oth (H : Hp) (C : Addr) (y : V) : Prop := (∃ b dy gs, y = .ref b ∧ H b = some (.ins C dy gs)) ∨ ∃ p d, Dt H p y d
def rOwnEq (C : Addr) (sp : Sp) (E : XK) : R2 := fun x y H Q =>
  (∃ a dx fs, x = .ref a ∧ H a = some (.ins C dx fs) ∧ Oth H C y ∧ sp [x, y] H (fun z H' => ∃ c, z = .bl c ∧ Q z H') E) ∨
  (∃ a dx fs p d, y = .ref a ∧ H a = some (.ins C dx fs) ∧ Dt H p x d ∧ sp [y, x] H (fun z H' => ∃ c, z = .bl c ∧ Q z H') E)
def rOwnNe (C : Addr) (sp : Sp) (E : XK) : R2 := fun x y H Q =>
  ∃ a dx fs, x = .ref a ∧ H a = some (.ins C dx fs) ∧ Oth H C y ∧ sp [x, y] H (fun z H' => ∃ c, z = .bl c ∧ Q (.bl (!c)) H') E
theorem oth_looks {y : V} {u : Value} (I : Inv X pins σ H s) (O : Oth H C y) (r : RelV y u) : ∃ tb, PySem.W.Looks (model X.prog X.w) s.heap (typeOf u) tb ∧ PySem.W.notFirst X.K C tb = true := by
  rcases O with ⟨b, dy, gs, rfl, hb⟩ | ⟨p, d, hd⟩
  · cases r
    obtain ⟨mB, J, _⟩ := ins_get I.hok hb
    obtain ⟨od, J, _⟩ := J.look
    exact ⟨.ref C, J.type, by simp [PySem.W.notFirst]⟩
  · refine ⟨_, looks_ty (hd.typeIs I r), ?_⟩
    unfold PySem.W.notFirst
    rw [sub_kind _ (kind_in d)]
    simp
theorem op_ownEq (Fn : FnOk X.prog X.w X.K X.mg X.base CX k gE fd ps sp) (hr : Room k X.A) (O : Own X.K C gE) (hb : Binds X.K fd ps []) (hx : Passes CX X E) : OpR X (compareOp .Eq) (rOwnEq C sp E) := by
  intro pins s σ H x y v u Q I rx ry hq
  show wpAny (model X.prog X.w) X.A (richCompare .Eq v u) (EP X pins σ Q) X.xe s
  obtain ⟨m, hF⟩ := I.fr
  rcases hq with ⟨a, dx, fs, rfl, ha, hy, q⟩ | ⟨a, dx, fs, p, d, rfl, ha, hd, q⟩
  · cases rx
    obtain ⟨mA, J, _⟩ := ins_get I.hok ha
    obtain ⟨od, J, _⟩ := J.look
    obtain ⟨tb, lk, nf⟩ := oth_looks I hy ry
    refine PySem.W.cmp_K (op := .Eq) hr.units0 hF I.ok.mod.kin J lk nf O.eq O.fn ?_
    refine wpAny_mono (fn_at (us := [.ref a, u]) (vs := [.ref a, y]) Fn hr I.env0 hb hx I (.cons rfl (.cons ry .nil)) q) (fun w s' z => ?_) fun _ _ x => x
    obtain ⟨z', H', I', rz, c, rfl, qz⟩ := z
    cases rz
    exact ⟨.bl c, H', I', rfl, qz⟩
  · cases ry
    obtain ⟨mA, JO, _⟩ := ins_get I.hok ha
    have hob := JO.obj
    obtain ⟨od, J, _⟩ := JO.look
    have hT := hd.typeIs I rx
    have hsub := O.sub _ (kind_in d)
    have back : wpAny (model X.prog X.w) X.A (call (.ref gE) [.ref a, v]) (PySem.W.CmpBack (EP X pins σ Q)) X.xe s := by
      refine wpAny_mono (fn_at (us := [.ref a, v]) (vs := [.ref a, x]) Fn hr I.env0 hb hx I (.cons rfl (.cons rx .nil)) q) (fun w s' z => ?_) fun _ _ x => x
      obtain ⟨z', H', I', rz, c, rfl, qz⟩ := z
      cases rz
      exact ⟨.bl c, H', I', rfl, qz⟩
    refine rc_reflect hr.units0 I.kIn J hT ?_ hsub O.eq O.fn ?_ back
    · cases hd with
      | non => cases rx; rfl
      | bl b => cases rx; rfl
      | int i => obtain ⟨t, rfl⟩ := rx; rfl
      | str z => obtain ⟨t, rfl⟩ := rx; rfl
      | lst n e a => cases rx; rfl
      | tup n e a => cases rx; rfl
      | dct n e a => cases rx; rfl
    · cases hd with
      | non =>
        cases rx
        exact wpAny_tryCompare_declines hT F.slot_NoneType_eq (GQ.call_here F.slot_NoneType_eq hT F.entry_NoneType_eq (F.args_NoneType_eq_2 _ _) (dec_non ⟨rfl, rfl, rfl⟩))
      | bl b =>
        cases rx
        exact wpAny_tryCompare_declines hT F.slot_bool_eq (GQ.call_here F.slot_bool_eq hT F.entry_int_eq (F.args_int_eq_2 _ _) (dec_bool hob rfl ⟨rfl, rfl, rfl⟩))
      | int i =>
        obtain ⟨t, rfl⟩ := rx
        exact wpAny_tryCompare_declines hT F.slot_int_eq (GQ.call_here F.slot_int_eq hT F.entry_int_eq (F.args_int_eq_2 _ _) (dec_int hob rfl ⟨rfl, rfl, rfl⟩))
      | str z =>
        obtain ⟨t, rfl⟩ := rx
        exact wpAny_tryCompare_declines hT F.slot_str_eq (GQ.call_here F.slot_str_eq hT F.entry_str_eq (F.args_str_eq_2 _ _) (dec_str hob rfl ⟨rfl, rfl, rfl⟩))
      | lst n e a =>
        cases rx
        exact wpAny_tryCompare_declines hT F.slot_list_eq (GQ.call_here F.slot_list_eq hT F.entry_list_eq (F.args_list_eq_2 _ _) (dec_list hob rfl I.kIn hsub ⟨rfl, rfl, rfl⟩))
      | tup n e a =>
        cases rx
        exact wpAny_tryCompare_declines hT F.slot_tuple_eq (GQ.call_here F.slot_tuple_eq hT F.entry_tuple_eq (F.args_tuple_eq_2 _ _) (dec_tuple hob rfl I.kIn hsub ⟨rfl, rfl, rfl⟩))
      | dct n e a =>
        cases rx
        exact wpAny_tryCompare_declines hT F.slot_dict_eq (GQ.call_here F.slot_dict_eq hT F.entry_dict_eq (F.args_dict_eq_2 _ _) (dec_dict hob rfl I.kIn hsub ⟨rfl, rfl, rfl⟩))
theorem op_ownNe (F : FnOk X.prog X.w X.K X.mg X.base CX k gE fd ps sp) (hr : Room (k + 1) X.A) (O : Own X.K C gE) (hb : Binds X.K fd ps []) (hx : Passes CX X E) : OpR X (compareOp .NotEq) (rOwnNe C sp E) := by
  intro pins s σ H x y v u Q I rx ry hq
  show wpAny (model X.prog X.w) X.A (richCompare .NotEq v u) (EP X pins σ Q) X.xe s
  obtain ⟨a, dx, fs, rfl, ha, hy, q⟩ := hq
  cases rx
  obtain ⟨mA, J, _⟩ := ins_get I.hok ha
  obtain ⟨od, J, _⟩ := J.look
  obtain ⟨tb, lk, nf⟩ := oth_looks I hy ry
  refine rc_ne (Nat.lt_of_le_of_lt (Nat.le_refl _) hr.in1.units0) I.kIn J lk nf O.ob O.ne O.eq O.fn ?_
  refine wpAny_mono (fn_at (A := X.A.in1) (us := [.ref a, u]) (vs := [.ref a, y]) F hr.in1 I.env0.in1 hb hx I (.cons rfl (.cons ry .nil)) q) (fun w s' z => ?_) fun _ _ x => x
  obtain ⟨z', H', I', rz, c, rfl, qz⟩ := z
  cases rz
  exact ⟨c, rfl, .bl (!c), H', I', rfl, qz⟩
end
end Cm
set_option Elab.async false
set_option linter.all false
set_option maxRecDepth 100000
set_option maxHeartbeats 4000000
namespace Cm
open PySem PySem.Spec PyProof.Rows L2
section
variable {prog : Program} {w : World} {A : Around} {E : Value → Shared → Prop} {s : Shared} {K : PySem.W.Frag} {x C f : Addr} {ox : Obj} {od : Option Obj}
/-- an own repr, asked from within a builtin's repr -/
theorem under_own {base : Nat} {Q : Str → Shared → Prop} (hz : base ≤ sizeLine) (hu : A.units < cLine) (X : K.In s.heap) (I : PySem.W.InstAt s.heap x ox C od)
    (hs : PySem.W.findIn K (.ref C) "__repr__" = some (some (.ref f))) (hf : PySem.W.isFn K (.ref f) = true)
    (h : wpAny (model prog w) A (call (.ref f) [.ref x]) (fun v s' => ∃ y t, v = .str y t ∧ Q y s') E s) : wpAny (model prog w) A (pyReprUnder base (.ref x)) Q E s := by
  have asked : wpAny (model prog w) A (callSpecialIfBoundBy? (fun g first => match reprUnder? g, first with
      | some twin, [self] => call twin [self, rawInt base]
      | _, _ => call g (first ++ [])) (.ref x) "__repr__") (fun r s' => ∃ y t, r = some (.str y t) ∧ Q y s') E s := by
    unfold callSpecialIfBoundBy?
    simp only [bindSpecialIfBound?]
    refine wpAny_holding (wpAny_bind (wpAny_bind (wpAny_bind (I.type.here ((PySem.W.looks_findIn X hs).here ?_)))))
    refine wpAny_bind (wpAny_askSetting (wpAny_ite ?_))
    have last : wpAny (model prog w) A (call (.ref f) ([.ref x] ++ []) >>= fun v => pure (some v)) (fun r s' => ∃ y t, r = some (.str y t) ∧ Q y s') E s :=
      wpAny_bind (wpAny_mono h (fun v s' ⟨y, t, e, q⟩ => wpAny_pure ⟨y, t, congrArg some e, q⟩) fun _ _ h' => h')
    split
    · exact wpAny_bind ((PySem.W.bind_fn X _ (beq_iff_eq.mp hf)).here (wpAny_pure (by exact last)))
    · exact wpAny_tryCatch (wpAny_bind ((PySem.W.bind_fn X _ (beq_iff_eq.mp hf)).here (wpAny_pure (by exact last))))
  unfold pyReprUnder pyReprObjUnder pyReprObjBy
  simp only []
  split
  · rename_i c
    exact absurd hz (by omega)
  · refine wpAny_bind ?_
    refine wpAny_bind (wpAny_cRoomFor hu ?_)
    refine wpAny_bind (wpAny_bind (I.type.here ((PySem.W.looks_findIn X hs).here ?_)))
    rw [if_neg (by simp)]
    refine wpAny_bind (wpAny_mono asked (fun r s' z => ?_) fun _ _ e => e)
    obtain ⟨y, t, rfl, q⟩ := z
    refine wpAny_bind (wpAny_isInstance (typeIs_str _ _ _) isSubtype_str_str ?_)
    rw [if_pos rfl]
    exact wpAny_pure (wpAny_pure q)
/-- what is shown while J stands -/
def ReprJ (prog : Program) (w : World) (A : Around) (E : Value → Shared → Prop) (J : Shared → Prop) (x : Value) (t : Str) : Prop :=
  ∀ (b : Nat), b + t.length ≤ sizeLine → ∀ (s : Shared) (Q : Str → Shared → Prop), J s → (∀ s', J s' → Q t s') → wpAny (model prog w) A (pyReprUnder b x) Q E s
theorem fold_J {J : Shared → Prop} {Q : (Array Str × Nat) → Shared → Prop} {vs : List Value} {ts : List Str} (hT : Paired (fun x t => ReprJ prog w A E J x t) vs ts) :
    ∀ (acc : Array Str) (n : Nat) (s : Shared), n + piled ts ≤ sizeLine → J s → (∀ s', J s' → Q ⟨acc ++ ts.toArray, n + piled ts⟩ s') →
    wpAny (model prog w) A (forIn vs (⟨acc, n⟩ : (Array Str × Nat)) tupBody) Q E s := by
  induction hT with
  | nil =>
    intro acc n s _ hJ h
    rw [List.forIn_nil]
    have last := h s hJ
    exact wpAny_pure (by simpa [piled] using last)
  | cons hx _ ih =>
    rename_i x t vs ts _hr
    intro acc n s hn hJ h
    rw [piled_cons] at hn
    rw [List.forIn_cons]
    refine wpAny_bind (wpAny_bind (hx (n + 1) (by omega) s _ hJ fun s1 J1 => wpAny_pure ?_))
    refine ih (acc.push t) (n + (t.length + 2)) s1 (by omega) J1 fun s2 J2 => ?_
    have last := h s2 J2
    rw [show n + piled (t :: ts) = n + (t.length + 2) + piled ts by rw [piled_cons]; omega] at last
    simpa using last
theorem tuple_J {a : Addr} {o : Obj} {items : Array Value} {n : Nat} {ts : List Str} {J : Shared → Prop} {Q : Value → Shared → Prop}
    (ha : s.heap.get? a = some o) (hc : o.cls = .type "tuple") (hd : o.data = .seq items n) (hg : A.guards = some [])
    (hT : Paired (fun x t => ReprJ prog w (A.under (.builtin "tuple.__repr__" ⟨[.ref a], []⟩)) E J x t) items.toList ts) (hJ : J s)
    (hz : (tupleText ts).length ≤ sizeLine) (hQ : ∀ s' u, J s' → Q (.str (tupleText ts) u) { s' with toks := s'.toks + 1 }) :
    wpAny (model prog w) A (call (.builtin "tuple.__repr__") [.ref a]) Q E s := by
  have hl : ts.length = items.size := by
    have := Paired.length hT
    simpa using this.symm
  have hp := piled_le_tupleText ts
  refine wpAny_call (codeAny_call_builtin_own (Code.quiet_builtin _ (by decide +kernel)) F.entry_tuple_repr (F.slot_tuple_repr.check _ _ _ _ _ _ _ _ ⟨o, ha, hc⟩ (F.args_tuple_repr_1 _) ?_))
  show wpOwn _ _ _ (Builtin.tupleReprAt 0 ⟨[.ref a], []⟩) _ _ s
  rw [tuple_repr_tree, tupleReprUnderWay_eq]
  refine wpOwn_bind (wpOwn_stackTailAny hg (tupGuardF_off _) (tupGuardF_pos _) ?_)
  rw [List.any_nil]
  refine wpOwn_of_wpAny ?_
  show wpAny _ _ (tupleReprRest 0 (.ref a)) _ _ s
  unfold tupleReprRest Builtin.Tuple.tupleItemsOf
  refine wpAny_bind (wpAny_bind (wpAny_seqItems ha hd (wpAny_pure ?_)))
  rw [← Array.forIn_toList]
  refine wpAny_bind (fold_J hT #[] 0 s (by omega) hJ fun s' J' => ?_)
  refine wpAny_bind (wpAny_mkStr (wpAny_pure ?_) (by simpa [tupleText, hl] using hz))
  have last := hQ s' s'.toks J'
  simpa [tupleText, hl] using last
end
section
variable {X : Cx} {CX : CXT} {pins : List (Addr × Obj)} {σ : L2.St} {H : Hp} {s : Shared} {C gR : Addr} {k : Nat} {fd : FuncData} {ps : List Str} {sp : Sp} {E : XK}
/-- repr(x) by the class's own def -/
def rReprO (C : Addr) (sp : Sp) (E : XK) : List V → Hp → VK → Prop := fun xs H Q => ∃ a dx fs, xs = [.ref a] ∧ H a = some (.ins C dx fs) ∧ sp [.ref a] H (fun z H' => ∃ y : Str, z = .str y ∧ Q z H') E
theorem call_reprO (Fn : FnOk X.prog X.w X.K X.mg X.base CX k gR fd ps sp) (hr : Room (k + 1) X.A) (hs : PySem.W.findIn X.K (.ref C) "__repr__" = some (some (.ref gR))) (hf : PySem.W.isFn X.K (.ref gR) = true)
    (hb : Binds X.K fd ps []) (hx : Passes CX X E) : CallR X (.builtin "repr") (rReprO C sp E) := by
  intro pins s σ H xs us Q I r h
  obtain ⟨a, dx, fs, rfl, ha, q⟩ := h
  obtain ⟨u, rfl, ru⟩ := r.one
  cases ru
  obtain ⟨mA, J, _⟩ := ins_get I.hok ha
  obtain ⟨od, J, _⟩ := J.look
  obtain ⟨m, hF⟩ := I.fr
  refine PySem.W.repr_K hr.in1.units0 hF I.ok.mod.kin J hs hf ?_
  refine wpAny_mono (fn_at (A := X.A.in1) (us := [.ref a]) (vs := [.ref a]) Fn hr.in1 I.env0.in1 hb hx I (.cons rfl .nil) q) (fun w s' z => ?_) fun _ _ x => x
  obtain ⟨z', H', I', rz, y, rfl, qz⟩ := z
  obtain ⟨t, rfl⟩ := rz
  exact ⟨.str y, H', I', ⟨t, rfl⟩, qz⟩
/-- repr of a tuple of instances, each shown by the class's own def, which leaves the heap -/
def rReprT (K : PySem.W.Frag) (C : Addr) (sp : Sp) (E : XK) : List V → Hp → VK → Prop := fun xs H Q => ∃ (t : Addr) (vs : List V) (ts : List Str), xs = [.ref t] ∧ H t = some (.tup vs) ∧
  Paired (fun v y => ∃ a dx fs, v = V.ref a ∧ H a = some (.ins C dx fs) ∧ sp [.ref a] H (fun z H' => z = .str y ∧ H' = H) E) vs ts ∧ (tupleText ts).length ≤ sizeLine ∧ Q (.str (tupleText ts)) H
theorem room_tup {A : Around} {args : Args} (r : Room (k + 1) A) : Room k (A.under (.builtin "tuple.__repr__" args)) := by
  refine ⟨?_, ?_, ?_⟩
  · exact r.hd
  · have h := r.dp
    have e : (A.under (.builtin "tuple.__repr__" args)).depth ≤ A.depth + 2 := by
      simp [Around.under, Code.weight, Code.isCreation, Code.isGuard, Code.isCaller, Code.frames, Code.isFrame, guardIds]
    omega
  · rw [units_under_tuple_repr]
    have h := r.un
    omega
theorem env_tup {A : Around} {args : Args} {outer : List Env} (e : Env0 X.prog X.w X.K X.mg X.base A outer s H) : Env0 X.prog X.w X.K X.mg X.base (A.under (.builtin "tuple.__repr__" args)) outer s H :=
  ⟨by first | exact e.frames | (simpa [Around.under, Code.envs, Code.isFrame, pushEnvs] using e.frames), e.mod, e.bs, e.bsz, e.funs, e.frf, e.hok, e.bare⟩
theorem call_reprT (Fn : FnOk X.prog X.w X.K X.mg X.base CX k gR fd ps sp) (hr : Room (k + 2) X.A) (hg : X.A.guards = some []) (hs : PySem.W.findIn X.K (.ref C) "__repr__" = some (some (.ref gR))) (hf : PySem.W.isFn X.K (.ref gR) = true)
    (hb : Binds X.K fd ps []) (hx : Passes CX X E) : CallR X (.builtin "repr") (rReprT X.K C sp E) := by
  intro pins s σ H xs us Q I r h
  obtain ⟨t, vs, ts, rfl, ht, hp, hz, q⟩ := h
  obtain ⟨u, rfl, ru⟩ := r.one
  cases ru
  obtain ⟨its, rv, ⟨o, ho, hc, n, hd⟩, _⟩ := I.tuple (SqT.of ht)
  refine call_repr_slot (show X.A.units + 1 < cLine from hr.in1.units0) ⟨o, ho, hc⟩ F.slot_tuple_repr ?_
  refine tuple_J (A := X.A.in1) (J := fun s' => Inv X pins σ H s') ho hc hd hg ?_ I hz fun s' u J' => ⟨_, _, rfl, .str (tupleText ts), H, J'.tok _, ⟨_, rfl⟩, q⟩
  have each : ∀ {vs : List V} {us : List Value} {ts : List Str}, Vals vs us → Paired (fun v y => ∃ a dx fs, v = V.ref a ∧ H a = some (.ins C dx fs) ∧ sp [.ref a] H (fun z H' => z = .str y ∧ H' = H) E) vs ts →
      Paired (fun x t' => ReprJ X.prog X.w (X.A.in1.under (.builtin "tuple.__repr__" ⟨[.ref t], []⟩)) X.xe (fun s' => Inv X pins σ H s') x t') us ts := by
    intro vs us ts rv hp
    induction hp generalizing us with
    | nil => cases rv; exact .nil
    | cons h _ ih =>
      cases rv with
      | cons r1 r2 =>
        refine .cons ?_ (ih r2)
        obtain ⟨a, dx, fs, rfl, ha, q⟩ := h
        cases r1
        intro b hb2 s' Q' J' hQ
        obtain ⟨mA, JO, _⟩ := ins_get J'.hok ha
        obtain ⟨od, JO, _⟩ := JO.look
        have rm : Room k (X.A.in1.under (.builtin "tuple.__repr__" ⟨[.ref t], []⟩)) := room_tup hr.in1
        refine under_own (by omega) rm.units0 J'.kIn JO hs hf ?_
        refine wpAny_mono (fn_at (us := [.ref a]) (vs := [.ref a]) Fn rm (env_tup J'.env0.in1) hb hx J' (.cons rfl .nil) q) (fun w s2 z => ?_) fun _ _ x => x
        obtain ⟨z', H', I', rz, rfl, rfl⟩ := z
        obtain ⟨tk, rfl⟩ := rz
        exact ⟨_, tk, rfl, hQ s2 I'⟩
  simpa using each rv hp
end
end Cm
set_option Elab.async false
set_option linter.all false
set_option maxRecDepth 100000
set_option maxHeartbeats 4000000
/-! ## 8. Steps for instances -/
namespace Cm
open PySem PySem.Spec PyProof.Rows L2
theorem pe_gstr {X : Cx} {x : Str} {i : Str} {pos : Pos} (hg : Gl X x) (hm : ∃ t, X.mg x = some (.str i t)) (hd : (x == ("__debug__" : Str)) = false := by decide) :
    PE X (.Name x pos) (tC (.str i)) := by
  obtain ⟨t, e⟩ := hm
  exact pe_glob hg e ⟨t, rfl⟩ hd
theorem pe_gref {X : Cx} {x : Str} {a : Addr} {pos : Pos} (hg : Gl X x) (hm : X.mg x = some (.ref a)) (hd : (x == ("__debug__" : Str)) = false := by decide) :
    PE X (.Name x pos) (tC (.ref a)) := pe_glob hg hm rfl hd
/-- a tuple of the written part -/
def WrT (K : PySem.W.Frag) (a : Addr) (xs : List V) : Prop := ∃ (o : Obj) (its : Array Value) (n : Nat), K.lookup a = some o ∧ o.cls = .type "tuple" ∧ o.data = .seq its n ∧ its.size ≤ sizeLine ∧ Vals xs its.toList
theorem WrT.sq {K : PySem.W.Frag} {H : Hp} {a : Addr} {xs : List V} (h : WrT K a xs) : SqT K H a xs := .inr h
theorem kbn_mk0 {K : PySem.W.Frag} {fd : FuncData} {ps ks : List Str} {n : Nat} {g : List Value → List Value → List Value} {gV : List V → List V → List V}
    (hr : ∀ {vs : List V} {us : List Value} {zs : List V} {ws : List Value}, Vals vs us → Vals zs ws → Vals (gV vs zs) (g us ws))
    (h : ∀ us ws : List Value, us.length = n → ws.length = ks.length → bindArgs fd ⟨us, ks.zip ws⟩ = pure (ps.zip (g us ws))) : KBn K fd ps n ks g gV :=
  ⟨fun s us ws X l1 l2 => .of_eq (h us ws l1 l2), hr⟩
/-- what isinstance asks of the class at C -/
structure IsiC (K : PySem.W.Frag) (C : Addr) : Prop where
  cl : Cls K C
  ha : PySem.W.findIn K (.ref C) "__class__" = some (some (.builtin "object.__class__"))
  hn : PySem.W.specialIn K (.builtin "object.__class__") "__get__" = some (some (.builtin "getset_descriptor.__get__"))
  ht : PySem.W.takesIn K (.builtin "object.__class__") = some true
  ob : PySem.W.mroIn K C (.type "object") = some true
  ks : PySem.W.kitOne K (.ref C) (.ref C) = some true
  kn : ∀ T ∈ kinds, PySem.W.kitOne K (.type T) (.ref C) = some false
theorem kit_own {K : PySem.W.Frag} {C : Addr} : PySem.W.kitOne K (.ref C) (.ref C) = some true := by
  unfold PySem.W.kitOne
  rw [if_pos (by simp)]
theorem kit_kind {K : PySem.W.Frag} {C : Addr} (c : PySem.W.isClsIn K C = true) (t : PySem.W.typeIn K (.ref C) = some (.type "type")) (T : String) (h : T ∈ kinds) : PySem.W.kitOne K (.type T) (.ref C) = some false := by
  unfold PySem.W.kitOne PySem.W.kitCls
  rw [if_neg (by simp)]
  show (if ((PySem.W.clsIn K C).isSome && PySem.W.typeIn K (.ref C) == some (.type "type")) = true then PySem.W.subIn K (.type T) (.ref C) else none) = some false
  rw [t, sub_kind T h]
  rw [if_pos (by rw [show (PySem.W.clsIn K C).isSome = true from c]; simp)]
section
variable {X : Cx} {CX : CXT} {k n : Nat} {f C : Addr} {fd : FuncData} {ps ks : List Str} {sp : Sp} {E : XK} {x : Str} {p pos : Pos}
  {e : Expr} {es : List Expr} {kws : List Keyword} {t tk : TA} {I : Type} {gV : List V → List V → List V}
theorem pg_makeN0E {g : Value → List Value → List Value → List Value} (M : Mk X.K C f) (F : Fg X.prog X.w X.K X.mg X.base CX k f fd ps sp) (hr : Room (k + 1) X.A) (hgd : X.A.guards = some [])
    (hg : Gl X x) (hm : X.mg x = some (.ref C)) (hb : ∃ d, KBn X.K fd ps 1 ks (g d) gV) (hx : Passes CX X E) (hkw : PK X kws tk)
    (hall : (backToKw pos (keywordEach kws X.env)).all (·.1.isSome) = true := by rfl)
    (hks : (backToKw pos (keywordEach kws X.env)).filterMap (·.1) = ks := by rfl)
    (hdb : (x == ("__debug__" : Str)) = false := by decide)
    (hpl : ((backTo pos (starEach [] X.env)).any (·.1) || (backToKw pos (keywordEach kws X.env)).any (·.1.isNone)) = false := by rfl) :
    PE X (.Call (.Name x p) [] kws pos) (tMakeN C 0 ks.length sp gV E tNil tk) := by
  obtain ⟨d, hb⟩ := hb
  exact pg_makeN0 M F hr hgd hg hm hb hx hkw hall hks hdb hpl
end
section
variable {K : PySem.W.Frag} {H : Hp} {Q : VK} {σ : L2.St} {D : Ends} {C : Addr}
theorem r_isiO {a dx : Addr} {fs : List (Str × V)} (c : IsiC K C) (h : H a = some (.ins C dx fs)) (q : Q (.bl true) H) : rIsi K [.ref a, .ref C] H Q :=
  ⟨_, _, _, _, _, rfl, .own C, .base (.ins h c.cl c.ha c.hn c.ht c.ob), c.ks, q⟩
theorem r_isiD {p : Addr} {x : V} {d : PyData} (c : IsiC K C) (h : Dt H p x d) (q : Q (.bl false) H) : rIsi K [x, .ref C] H Q :=
  ⟨_, _, _, _, _, rfl, .own C, h.kind, c.kn _ (kind_in d), q⟩
theorem r_fld {ta : TE} {f : Str} (q : ta σ H fun x H1 => ∃ a C dx fs v, x = .ref a ∧ H1 a = some (.ins C dx fs) ∧ Cls K C ∧ NoAttr K C f ∧ fs.lookup f = some v ∧ Q v H1) : tFld K ta f σ H Q := q
theorem r_fldAt {a dx : Addr} {fs : List (Str × V)} {f : Str} {v : V} {Q : V → Prop} (h : H a = some (.ins C dx fs)) (c : Cls K C) (n : NoAttr K C f) (l : fs.lookup f = some v) (q : Q v) :
    ∃ a' C' dx' fs' v', V.ref a = .ref a' ∧ H a' = some (.ins C' dx' fs') ∧ Cls K C' ∧ NoAttr K C' f ∧ fs'.lookup f = some v' ∧ Q v' := ⟨a, C, dx, fs, v, rfl, h, c, n, l, q⟩
theorem r_sfld {ta tv : TE} {f : Str} (q : tv σ H fun y H1 => ta σ H1 fun x H2 => ∃ a C dx fs, x = .ref a ∧ H2 a = some (.ins C dx fs) ∧ Cls K C ∧ NoAttr K C f ∧ fs.length < 1000 ∧
    D.nx σ (upd H2 a (.ins C dx (putF f y fs)))) : sFld K ta tv f D σ H := q
theorem r_sfldAt {a dx : Addr} {fs gs : List (Str × V)} {f : Str} {y : V} {Q : Hp → Prop} (h : H a = some (.ins C dx fs)) (c : Cls K C) (n : NoAttr K C f) (l : fs.length < 1000) (e : putF f y fs = gs) (q : Q (upd H a (.ins C dx gs))) :
    ∃ a' C' dx' fs', V.ref a = .ref a' ∧ H a' = some (.ins C' dx' fs') ∧ Cls K C' ∧ NoAttr K C' f ∧ fs'.length < 1000 ∧ Q (upd H a' (.ins C' dx' (putF f y fs'))) := ⟨a, C, dx, fs, rfl, h, c, n, l, e ▸ q⟩
theorem r_fmtI {te : TE} (q : te σ H fun x H1 => (∃ y : Str, x = .str y ∧ y.length ≤ sizeLine ∧ Q (.str y) H1) ∨ ∃ i : Int, x = .int i ∧ i.natAbs.log2 < 1920 ∧ Q (.str (toString i)) H1) : tFmt te σ H Q := q
theorem r_fmtInt {i : Int} {P1 : Str → Prop} {P2 : Int → Prop} (h : i.natAbs < 2 ^ 200) (q : P2 i) : (∃ y : Str, V.int i = .str y ∧ y.length ≤ sizeLine ∧ P1 y) ∨ ∃ j : Int, V.int i = .int j ∧ j.natAbs.log2 < 1920 ∧ P2 j := by
  refine .inr ⟨i, rfl, ?_, q⟩
  by_cases h0 : i.natAbs = 0
  · rw [h0]; decide
  · exact Nat.lt_of_lt_of_le ((Nat.log2_lt h0).mpr h) (by decide)
theorem r_fmtStr {z : Str} {P1 : Str → Prop} {P2 : Int → Prop} (h : z.length ≤ sizeLine) (q : P1 z) : (∃ y : Str, V.str z = .str y ∧ y.length ≤ sizeLine ∧ P1 y) ∨ ∃ j : Int, V.str z = .int j ∧ j.natAbs.log2 < 1920 ∧ P2 j :=
  .inl ⟨z, rfl, h, q⟩
theorem r_js0 {acc : Str} {Q : Str → Hp → Prop} (q : Q acc H) : tJs [] acc σ H Q := q
theorem r_js {t : TE} {ts : List TE} {acc : Str} {Q : Str → Hp → Prop} (q : t σ H fun x H1 => ∃ y : Str, x = .str y ∧ (acc ++ y).length ≤ sizeLine ∧ tJs ts (acc ++ y) σ H1 Q) : tJs (t :: ts) acc σ H Q := q
theorem r_jsStr {z : Str} {P : Str → Prop} {acc : Str} (h : (acc ++ z).length ≤ sizeLine) (q : P z) : ∃ y : Str, V.str z = .str y ∧ (acc ++ y).length ≤ sizeLine ∧ P y := ⟨z, rfl, h, q⟩
theorem r_strI {i : Int} {P : Int → Prop} (h : i.natAbs < 2 ^ 200) (q : P i) : ∃ j, [V.int i] = [V.int j] ∧ j.natAbs.log2 < 1920 ∧ P j := by
  refine ⟨i, rfl, ?_, q⟩
  by_cases h0 : i.natAbs = 0
  · rw [h0]; decide
  · exact Nat.lt_of_lt_of_le ((Nat.log2_lt h0).mpr h) (by decide)
theorem r_new {P : Addr → Addr → Prop} (q : ∀ x dx, H x = none → H dx = none → dx ≠ x → P x dx) : ∀ x dx, H x = none → H dx = none → dx ≠ x → P x dx := q
theorem Same.made {H H' : Hp} {x dx : Addr} {o u : HO} (k : Same H H') (h : H' x = none) (h' : H' dx = none) : Same H (upd (upd H' dx o) x u) := by
  intro b v e
  have e' := k _ _ e
  rw [upd_ne (ne_of_none e' h), upd_ne (ne_of_none e' h')]
  exact e'
end
end Cm
set_option Elab.async false
set_option linter.all false
set_option maxRecDepth 100000
set_option maxHeartbeats 4000000
/-! ## 9. Small tuples -/
namespace Cm
open PySem PySem.Spec PyProof.Rows L2
section
variable {K : PySem.W.Frag} {H : Hp} {Q : VK}
theorem r_plusTU {l b : Addr} {xs zs : List V} (h : H l = some (.tup xs)) (h' : H b = some (.tup zs)) (e : xs.length + zs.length ≤ 1000)
    (q : ∀ t H', Same H H' → H' t = some (.tup (xs ++ zs)) → Q (.ref t) H') : rPlus K (.ref l) (.ref b) H Q := by
  refine r_plusT h h' (Nat.le_trans e (by decide)) ?_ ?_ ?_
  · intro e0
    subst e0
    exact q b H (Same.refl H) h'
  · intro _ e0
    subst e0
    exact q l H (Same.refl H) (by rw [List.append_nil]; exact h)
  · intro _ _ p n
    exact q p _ (Same.new (Same.refl H) n) upd_same
theorem r_cutTU {a : Addr} {xs : List V} {lo hi : Option Int} (h : H a = some (.tup xs)) (q : ∀ t H', Same H H' → H' t = some (.tup (cutV xs lo hi)) → Q (.ref t) H') : rCut K (.ref a) lo hi H Q := by
  refine r_cutT h ?_ ?_
  · rintro ⟨e1, e2⟩
    refine q a H (Same.refl H) ?_
    unfold cutV
    rw [e1, e2, List.drop_zero, Nat.sub_zero, List.take_length]
    exact h
  · intro _ p n
    exact q p _ (Same.new (Same.refl H) n) upd_same
theorem r_cut3a {a : Addr} {x y z : V} {lo hi : Option Int} (h : H a = some (.tup [x, y, z])) (e1 : lo = none) (e2 : hi = some 0) (q : ∀ t H', Same H H' → H' t = some (.tup []) → Q (.ref t) H') : rCut K (.ref a) lo hi H Q := by
  subst e1 e2
  exact r_cutTU h fun t H' s g => q t H' s g
theorem r_cut3b {a : Addr} {x y z : V} {lo hi : Option Int} (h : H a = some (.tup [x, y, z])) (e1 : lo = none) (e2 : hi = some 1) (q : ∀ t H', Same H H' → H' t = some (.tup [x]) → Q (.ref t) H') : rCut K (.ref a) lo hi H Q := by
  subst e1 e2
  exact r_cutTU h fun t H' s g => q t H' s g
theorem r_cut3c {a : Addr} {x y z : V} {lo hi : Option Int} (h : H a = some (.tup [x, y, z])) (e1 : lo = none) (e2 : hi = some 2) (q : ∀ t H', Same H H' → H' t = some (.tup [x, y]) → Q (.ref t) H') : rCut K (.ref a) lo hi H Q := by
  subst e1 e2
  exact r_cutTU h fun t H' s g => q t H' s g
theorem r_cut3d {a : Addr} {x y z : V} {lo hi : Option Int} (h : H a = some (.tup [x, y, z])) (e1 : lo = some 1) (e2 : hi = none) (q : ∀ t H', Same H H' → H' t = some (.tup [y, z]) → Q (.ref t) H') : rCut K (.ref a) lo hi H Q := by
  subst e1 e2
  exact r_cutTU h fun t H' s g => q t H' s g
theorem r_cut3e {a : Addr} {x y z : V} {lo hi : Option Int} (h : H a = some (.tup [x, y, z])) (e1 : lo = some 2) (e2 : hi = none) (q : ∀ t H', Same H H' → H' t = some (.tup [z]) → Q (.ref t) H') : rCut K (.ref a) lo hi H Q := by
  subst e1 e2
  exact r_cutTU h fun t H' s g => q t H' s g
theorem r_cut3f {a : Addr} {x y z : V} {lo hi : Option Int} (h : H a = some (.tup [x, y, z])) (e1 : lo = some 3) (e2 : hi = none) (q : ∀ t H', Same H H' → H' t = some (.tup []) → Q (.ref t) H') : rCut K (.ref a) lo hi H Q := by
  subst e1 e2
  exact r_cutTU h fun t H' s g => q t H' s g
theorem shaped3 {a b : Int} {z : Str} (hz : PyData.strOk z = true) : SeqAt.shaped (.tuple [.int a, .int b, .str z]) = true := by
  unfold SeqAt.shaped
  simp only [PyData.canLay0, PyData.canLayAll0, PyData.depth, PyData.depthAll, hz]
  rfl
theorem r_sameT3 {t u : Addr} {a b a' b' : Int} {z z' : Str} (h : H t = some (.tup [.int a, .int b, .str z])) (h' : H u = some (.tup [.int a', .int b', .str z'])) (hz : PyData.strOk z = true) (hz' : PyData.strOk z' = true) (q : Q (.bl (decide (a = a' ∧ b = b' ∧ z = z'))) H) :
    rSame K (.ref t) (.ref u) H Q := by
  refine .inr ⟨.tuple [.int a, .int b, .str z], .tuple [.int a', .int b', .str z'], .tup (SqT.of h) (.cons (.int a) (.cons (.int b) (.cons (.str z) .nil))), .tup (SqT.of h') (.cons (.int a') (.cons (.int b') (.cons (.str z') .nil))), shaped3 hz, shaped3 hz', ?_⟩
  have e : PyData.eqv (.tuple [.int a, .int b, .str z]) (.tuple [.int a', .int b', .str z']) = decide (a = a' ∧ b = b' ∧ z = z') := by
    simp only [PyData.eqv, PyData.eqvAll]
    by_cases h1 : a = a' <;> by_cases h2 : b = b' <;> by_cases h3 : z = z' <;> simp [h1, h2, h3]
  rw [e]
  exact q
theorem r_unlikeT3 {t u : Addr} {a b a' b' : Int} {z z' : Str} (h : H t = some (.tup [.int a, .int b, .str z])) (h' : H u = some (.tup [.int a', .int b', .str z'])) (hz : PyData.strOk z = true) (hz' : PyData.strOk z' = true) (q : Q (.bl (!decide (a = a' ∧ b = b' ∧ z = z'))) H) :
    rUnlike K (.ref t) (.ref u) H Q := by
  refine .inr ⟨.tuple [.int a, .int b, .str z], .tuple [.int a', .int b', .str z'], .tup (SqT.of h) (.cons (.int a) (.cons (.int b) (.cons (.str z) .nil))), .tup (SqT.of h') (.cons (.int a') (.cons (.int b') (.cons (.str z') .nil))), shaped3 hz, shaped3 hz', ?_⟩
  have e : PyData.eqv (.tuple [.int a, .int b, .str z]) (.tuple [.int a', .int b', .str z']) = decide (a = a' ∧ b = b' ∧ z = z') := by
    simp only [PyData.eqv, PyData.eqvAll]
    by_cases h1 : a = a' <;> by_cases h2 : b = b' <;> by_cases h3 : z = z' <;> simp [h1, h2, h3]
  rw [e]
  exact q
end
theorem sql_same {K : PySem.W.Frag} {H H' : Hp} {a : Addr} {xs : List V} (s : Same H H') (h : SqL K H a xs) : SqL K H' a xs :=
  h.elim (fun h => .inl (h.elim (fun e => .inl (s _ _ e)) fun ⟨o, e⟩ => .inr ⟨o, s _ _ e⟩)) .inr
theorem Same.ofKeep {p : Addr} {H H1 H' : Hp} (s : Same H H1) (n : Fre H p) (k : Keep p H1 H') : Same H H' := fun b o h =>
  k b o (ne_of_none h n.no) (s b o h)
end Cm
namespace Cm
open PySem PySem.Spec PyProof.Rows L2
def top (i : Nat) : Stmt := PySem.Challenge.pw_classmarks_k03_rules_compared_and_shown.main.body.getD i (.Pass ⟨0, 0, 0, 0⟩)
structure Tx (K : PySem.W.Frag) (mg : Str → Option Value) where
  C_Rules : Addr
  m_Rules : mg "Rules" = some (.ref C_Rules)
  cl_Rules : Cls K C_Rules
  is_Rules : IsiC K C_Rules
  na_Rules_drop : NoAttr K C_Rules "drop"
  na_Rules_cut : NoAttr K C_Rules "cut"
  na_Rules_second : NoAttr K C_Rules "second"
  f_is_whole_from : Addr
  fd_is_whole_from : FuncData
  F_is_whole_from : Fun K "is_whole_from" "is_whole_from" (top 4) f_is_whole_from fd_is_whole_from
  b_is_whole_from : Binds K fd_is_whole_from ["thing", "least"] []
  m_is_whole_from : mg "is_whole_from" = some (.ref f_is_whole_from)
  f_is_whole_in : Addr
  fd_is_whole_in : FuncData
  F_is_whole_in : Fun K "is_whole_in" "is_whole_in" (top 5) f_is_whole_in fd_is_whole_in
  b_is_whole_in : Binds K fd_is_whole_in ["thing", "least", "most"] []
  m_is_whole_in : mg "is_whole_in" = some (.ref f_is_whole_in)
  f_is_drop : Addr
  fd_is_drop : FuncData
  F_is_drop : Fun K "is_drop" "is_drop" (top 10) f_is_drop fd_is_drop
  b_is_drop : Binds K fd_is_drop ["thing"] []
  m_is_drop : mg "is_drop" = some (.ref f_is_drop)
  f_is_cut : Addr
  fd_is_cut : FuncData
  F_is_cut : Fun K "is_cut" "is_cut" (top 11) f_is_cut fd_is_cut
  b_is_cut : Binds K fd_is_cut ["thing"] []
  m_is_cut : mg "is_cut" = some (.ref f_is_cut)
  f_is_second : Addr
  fd_is_second : FuncData
  F_is_second : Fun K "is_second" "is_second" (top 12) f_is_second fd_is_second
  b_is_second : Binds K fd_is_second ["thing"] []
  m_is_second : mg "is_second" = some (.ref f_is_second)
  f_Rules___init__ : Addr
  fd_Rules___init__ : FuncData
  F_Rules___init__ : FnD K "__init__" "Rules.__init__" (inClass (top 13) 0) [(.int 0), (.int 0), (.str "best")] f_Rules___init__ fd_Rules___init__
  b_Rules___init__ : Binds K fd_Rules___init__ ["self", "drop", "cut", "second"] []
  k1_Rules___init___drop_cut_second : KBn K fd_Rules___init__ ["self", "drop", "cut", "second"] 1 ["drop", "cut", "second"] (fun us ws => [nU us 0, nU ws 0, nU ws 1, nU ws 2]) (fun us ws => [nV us 0, nV ws 0, nV ws 1, nV ws 2])
  f_Rules___eq__ : Addr
  fd_Rules___eq__ : FuncData
  F_Rules___eq__ : Fun K "__eq__" "Rules.__eq__" (inClass (top 13) 1) f_Rules___eq__ fd_Rules___eq__
  b_Rules___eq__ : Binds K fd_Rules___eq__ ["self", "other"] []
  f_Rules___repr__ : Addr
  fd_Rules___repr__ : FuncData
  F_Rules___repr__ : Fun K "__repr__" "Rules.__repr__" (inClass (top 13) 2) f_Rules___repr__ fd_Rules___repr__
  b_Rules___repr__ : Binds K fd_Rules___repr__ ["self"] []
  f__law_cell_at : Addr
  fd__law_cell_at : FuncData
  F__law_cell_at : Fun K "_law_cell_at" "_law_cell_at" (top 15) f__law_cell_at fd__law_cell_at
  b__law_cell_at : Binds K fd__law_cell_at ["_law_script", "_law_k"] []
  m__law_cell_at : mg "_law_cell_at" = some (.ref f__law_cell_at)
  f__law_state : Addr
  fd__law_state : FuncData
  F__law_state : Fun K "_law_state" "_law_state" (top 16) f__law_state fd__law_state
  b__law_state : Binds K fd__law_state ["_law_script", "_law_k"] []
  m__law_state : mg "_law_state" = some (.ref f__law_state)
  f__law_take : Addr
  fd__law_take : FuncData
  F__law_take : Fun K "_law_take" "_law_take" (top 17) f__law_take fd__law_take
  b__law_take : Binds K fd__law_take ["_law_state_here", "_law_many"] []
  m__law_take : mg "_law_take" = some (.ref f__law_take)
  f__law_rule : Addr
  fd__law_rule : FuncData
  F__law_rule : Fun K "_law_rule" "_law_rule" (top 18) f__law_rule fd__law_rule
  b__law_rule : Binds K fd__law_rule ["_law_state_here"] []
  m__law_rule : mg "_law_rule" = some (.ref f__law_rule)
  f__law_made : Addr
  fd__law_made : FuncData
  F__law_made : Fun K "_law_made" "_law_made" (top 19) f__law_made fd__law_made
  b__law_made : Binds K fd__law_made ["_law_rule_here"] []
  m__law_made : mg "_law_made" = some (.ref f__law_made)
  f__law_odd : Addr
  fd__law_odd : FuncData
  F__law_odd : Fun K "_law_odd" "_law_odd" (top 20) f__law_odd fd__law_odd
  b__law_odd : Binds K fd__law_odd ["_law_state_here"] []
  m__law_odd : mg "_law_odd" = some (.ref f__law_odd)
  f__law_same : Addr
  fd__law_same : FuncData
  F__law_same : Fun K "_law_same" "_law_same" (top 21) f__law_same fd__law_same
  b__law_same : Binds K fd__law_same ["_law_found", "_law_due"] []
  m__law_same : mg "_law_same" = some (.ref f__law_same)
  f__law_other : Addr
  fd__law_other : FuncData
  F__law_other : Fun K "_law_other" "_law_other" (top 22) f__law_other fd__law_other
  b__law_other : Binds K fd__law_other ["_law_state_here", "_law_rule_here"] []
  m__law_other : mg "_law_other" = some (.ref f__law_other)
  f__law_text : Addr
  fd__law_text : FuncData
  F__law_text : Fun K "_law_text" "_law_text" (top 23) f__law_text fd__law_text
  b__law_text : Binds K fd__law_text ["_law_rule_here"] []
  m__law_text : mg "_law_text" = some (.ref f__law_text)
  f_law : Addr
  fd_law : FuncData
  F_law : Fun K "law" "law" (top 24) f_law fd_law
  b_law : Binds K fd_law ["_law_script"] []
  m_law : mg "law" = some (.ref f_law)
  M_Rules : Mk K C_Rules f_Rules___init__
  O_Rules : Own K C_Rules f_Rules___eq__
  rp_Rules : PySem.W.findIn K (.ref C_Rules) "__repr__" = some (some (.ref f_Rules___repr__))
  rf_Rules : PySem.W.isFn K (.ref f_Rules___repr__) = true
  m_MOST_CUT : ∃ t, mg "MOST_CUT" = some (.int 100 t)
  m_MOST_DROP : ∃ t, mg "MOST_DROP" = some (.int 5 t)
  a_SECONDS : Addr
  m_SECONDS : mg "SECONDS" = some (.ref a_SECONDS)
  l_SECONDS : WrT K a_SECONDS [(.str "best"), (.str "last"), (.str "mean")]
  m_bool : mg "bool" = none
  m_int : mg "int" = none
  m_isinstance : mg "isinstance" = none
  m_len : mg "len" = none
  m_list : mg "list" = none
  m_max : mg "max" = none
  m_min : mg "min" = none
  m_range : mg "range" = none
  m_repr : mg "repr" = none
  m_str : mg "str" = none
/-! ### rules -/
def rf (a b : Int) (z : Str) : List (Str × V) := [("drop", .int a), ("cut", .int b), ("second", .str z)]
theorem rf_put (a b : Int) (z : Str) : putF "second" (.str z) (putF "cut" (.int b) (putF "drop" (.int a) [])) = rf a b z := by
  have h1 : ¬ (("drop" : Str) = "cut") := by decide +kernel
  have h2 : ¬ (("drop" : Str) = "second") := by decide +kernel
  have h3 : ¬ (("cut" : Str) = "second") := by decide +kernel
  simp only [putF, rf, if_neg h1, if_neg h2, if_neg h3]
theorem rf_drop (a b : Int) (z : Str) : (rf a b z).lookup ("drop" : Str) = some (.int a) := by
  rw [← rf_put, lookup_putF, lookup_putF, lookup_putF]
  rw [if_neg (by decide +kernel), if_neg (by decide +kernel), if_pos rfl]
theorem rf_cut (a b : Int) (z : Str) : (rf a b z).lookup ("cut" : Str) = some (.int b) := by
  rw [← rf_put, lookup_putF, lookup_putF]
  rw [if_neg (by decide +kernel), if_pos rfl]
theorem rf_second (a b : Int) (z : Str) : (rf a b z).lookup ("second" : Str) = some (.str z) := by
  rw [← rf_put, lookup_putF]
  rw [if_pos rfl]
/-- values that rules can have -/
structure RuOk (a b : Int) (z : Str) : Prop where
  a0 : 0 ≤ a
  a1 : a ≤ 5
  b0 : 0 ≤ b
  b1 : b ≤ 100
  z : z = "best" ∨ z = "last" ∨ z = "mean"
theorem RuOk.zl {a b : Int} {z : Str} (r : RuOk a b z) : z.length = 4 := by
  rcases r.z with h | h | h <;> rw [h] <;> decide
theorem RuOk.zk {a b : Int} {z : Str} (r : RuOk a b z) : PyData.strOk z = true := by
  rcases r.z with h | h | h <;> rw [h] <;> decide +kernel
/-- an instance of Rules at x -/
structure Ru (C : Addr) (H : Hp) (x : Addr) (a b : Int) (z : Str) : Prop where
  at_ : ∃ dx, H x = some (.ins C dx (rf a b z))
theorem Ru.mono {C : Addr} {H H' : Hp} {x : Addr} {a b : Int} {z : Str} (r : Ru C H x a b z) (h : ∀ o, H x = some o → H' x = some o) : Ru C H' x a b z := by
  obtain ⟨dx, e⟩ := r.at_
  exact ⟨dx, h _ e⟩
theorem str_small {i : Int} (h0 : 0 ≤ i) (h1 : i ≤ 100) : (toString i : Str).length ≤ 3 := by
  have all : ∀ n : Fin 101, (toString (((n : Nat) : Int)) : Str).length ≤ 3 := by decide +kernel
  obtain ⟨n, rfl⟩ := Int.eq_ofNat_of_zero_le h0
  exact all ⟨n, by omega⟩
theorem ln0 : Str.empty.length = 0 := rfl
theorem ln1 : (Str.ofString "Rules(drop=").length = 11 := by decide
theorem ln2 : (Str.ofString ", cut=").length = 6 := by decide
theorem ln3 : (Str.ofString ", second=").length = 9 := by decide
theorem ln4 : (Str.ofString ")").length = 1 := by decide
theorem ln5 : (Str.ofString "(").length = 1 := by decide
theorem ln6 : (Str.ofString ", ").length = 2 := by decide
def ruleText (a b : Int) (z : Str) : Str := (((((("Rules(drop=" : Str) ++ toString a) ++ (", cut=" : Str)) ++ toString b) ++ (", second=" : Str)) ++ z) ++ (")" : Str)
def betweenD (lo hi : Int) : PyData → Bool
  | .int i => decide (lo ≤ i ∧ i ≤ hi)
  | _ => false
def fromD (lo : Int) : PyData → Bool
  | .int i => decide (lo ≤ i)
  | _ => false
def partsD (lo hi : Int) : PyData → Bool
  | .tuple ds => decide (lo ≤ (ds.length : Int) ∧ (ds.length : Int) ≤ hi)
  | _ => false
def sp_is_whole_in (_ : PySem.W.Frag) : Sp := fun vs H Q _ => ∃ (p : Addr) (v : V) (d : PyData) (lo hi : Int), vs = [v, .int lo, .int hi] ∧ Dt H p v d ∧ Q (.bl (betweenD lo hi d)) H
def sp_is_whole_from (_ : PySem.W.Frag) : Sp := fun vs H Q _ => ∃ (p : Addr) (v : V) (d : PyData) (lo : Int), vs = [v, .int lo] ∧ Dt H p v d ∧ Q (.bl (fromD lo d)) H
/-! ### draws -/
/-- a row of draws stands at p -/
def Dr (p : Addr) (H : Hp) : Prop := ∃ a b : Int, H p = some (.lst [.int a, .int b]) ∧ 0 ≤ a ∧ 0 ≤ b ∧ b < 2 ^ 40
theorem Dr.new {p q : Addr} {H : Hp} {o : HO} (d : Dr p H) (n : Fre H q) : Dr p (upd H q o) := by
  obtain ⟨a, b, h, r⟩ := d
  exact ⟨a, b, g_new h n.no, r⟩
theorem Dr.other {p q : Addr} {H : Hp} {o : HO} (d : Dr p H) (n : p ≠ q) : Dr p (upd H q o) := by
  obtain ⟨a, b, h, r⟩ := d
  exact ⟨a, b, g_other n h, r⟩
theorem Dr.same {p : Addr} {H H' : Hp} (s : Same H H') (d : Dr p H) : Dr p H' := by
  obtain ⟨a, b, h, r⟩ := d
  exact ⟨a, b, s _ _ h, r⟩
theorem Dr.at {p : Addr} {H : Hp} (d : Dr p H) : ∃ o, H p = some o := by
  obtain ⟨a, b, h, r⟩ := d
  exact ⟨_, h⟩
theorem Dr.ne {p q : Addr} {H : Hp} (d : Dr p H) (n : Fre H q) : q ≠ p := by
  obtain ⟨o, h⟩ := d.at
  exact (ne_of_none h n.no).symm
theorem Dr.neT {p t : Addr} {H : Hp} {xs : List V} (d : Dr p H) (h : H t = some (.tup xs)) : t ≠ p := by
  intro e
  obtain ⟨a, b, g, _⟩ := d
  rw [e, g] at h
  cases h
theorem r_pickK {K : PySem.W.Frag} {H : Hp} {Q : VK} {p : Addr} {ns : List Int} {i : Int} (h : SqL K H p (ns.map V.int)) (h0 : 0 ≤ i) (h1 : i < (ns.map V.int).length) (q : ∀ z, z ∈ ns → Q (.int z) H) : rIx K (.ref p) (.int i) H Q := by
  obtain ⟨v, m, e⟩ := atI_in h0 h1
  obtain ⟨z, hz, rfl⟩ := List.mem_map.mp m
  exact .inl ⟨p, _, i, _, rfl, rfl, h, e, q z hz⟩
def sp__law_cell_at (K : PySem.W.Frag) : Sp := fun vs H Q _ => ∃ (a : Addr) (ns : List Int) (k : Int), vs = [.ref a, .int k] ∧ SqL K H a (ns.map V.int) ∧ 0 ≤ k ∧ ∀ i, Q (.int i) H
def sp__law_state (K : PySem.W.Frag) : Sp := fun vs H Q _ => ∃ (a : Addr) (ns : List Int) (k : Int), vs = [.ref a, .int k] ∧ SqL K H a (ns.map V.int) ∧ 0 ≤ k ∧
  ∀ p H', Fre H p → Same H H' → Dr p H' → Q (.ref p) H'
def sp__law_take (_ : PySem.W.Frag) : Sp := fun vs H Q _ => ∃ (p : Addr) (n : Int), vs = [.ref p, .int n] ∧ Dr p H ∧ 0 < n ∧ n < 2 ^ 60 ∧
  ∀ r H', 0 ≤ r → r < n → Keep p H H' → Dr p H' → Q (.int r) H'
/-- the region R, and what came between H and H' -/
def Un (R H H' : Hp) : Hp := fun b => match R b with
  | some o => some o
  | none => match H b with
    | none => H' b
    | some _ => none
/-- no region -/
def N0 : Hp := fun _ => none
theorem Un.sub {p : Addr} {R H H' : Hp} (k : Keep p R H) (l : Keep p H H') : Keep p (Un R H H') H' := by
  intro b o nb h
  unfold Un at h
  cases hR : R b with
  | some u => rw [hR] at h; exact l _ _ nb (k _ _ nb (hR.trans h))
  | none =>
    rw [hR] at h
    cases hH : H b with
    | some u => rw [hH] at h; cases h
    | none => rw [hH] at h; exact h
theorem Un.reg {p : Addr} {R H H' : Hp} : Keep p R (Un R H H') := by
  intro b o nb h
  unfold Un
  rw [h]
theorem Un.keep {p : Addr} {S R H H1 H2 Hf : Hp} (s : Same S R) (kR : Keep p R H) (k : Keep p H H1) (n : ∀ b o, H1 b = none → H2 b = some o → Hf b = some o) : Keep p (Un S H1 H2) (Un R H Hf) := by
  intro b o nb h
  unfold Un at *
  cases hS : S b with
  | some u =>
    rw [hS] at h
    rw [s _ _ hS]
    exact h
  | none =>
    rw [hS] at h
    cases h1 : H1 b with
    | some u => rw [h1] at h; cases h
    | none =>
      rw [h1] at h
      have hH : H b = none := by
        cases e : H b with
        | none => rfl
        | some u => rw [k _ _ nb e] at h1; cases h1
      have hR : R b = none := by
        cases e : R b with
        | none => rfl
        | some u => rw [kR _ _ nb e] at hH; cases hH
      rw [hR, hH]
      exact n _ _ h1 h
theorem N0.same {R : Hp} : Same N0 R := fun _ _ h => by cases h
theorem N0.keep {p : Addr} {R : Hp} : Keep p N0 R := fun _ _ _ h => by cases h
theorem Dt.thereU {H H' : Hp} {p a : Addr} {o : HO} {d : PyData} (n : a ≠ p) (f : Fre H a) (h : H' a = some o) (c : DtC (Un N0 H H') p o d) : Dt (Un N0 H H') p (.ref a) d := by
  refine Dt.there n ?_ c
  unfold Un N0
  rw [f.no]
  exact h
/-- drawn data: some data within these bounds, in the region R or new -/
def Drawn_ (p : Addr) (R H : Hp) (N m b : Nat) (Q : VK) : Prop := ∀ v d H', Keep p H H' → Dr p H' → Dt (Un R H H') p v d → Ft N m b d → Q v H'
def sp__law_odd (_ : PySem.W.Frag) : Sp := fun vs H Q _ => ∃ (p : Addr), vs = [.ref p] ∧ Dr p H ∧ Drawn_ p N0 H (10 ^ 30) 3 10 Q
def sp_is_drop (_ : PySem.W.Frag) : Sp := fun vs H Q _ => ∃ (p : Addr) (v : V) (d : PyData), vs = [v] ∧ Dt H p v d ∧ Q (.bl (betweenD 0 5 d)) H
def sp_is_cut (_ : PySem.W.Frag) : Sp := fun vs H Q _ => ∃ (p : Addr) (v : V) (d : PyData), vs = [v] ∧ Dt H p v d ∧ Q (.bl (betweenD 0 100 d)) H
def sp_is_second (_ : PySem.W.Frag) : Sp := fun vs H Q _ => ∃ z : Str, vs = [.str z] ∧ (z = "best" ∨ z = "last" ∨ z = "mean") ∧ Q (.bl true) H
def sp_Rules___init__ (C : Addr) (_ : PySem.W.Frag) : Sp := fun vs H Q _ => ∃ (x dx : Addr) (a b : Int) (z : Str), vs = [.ref x, .int a, .int b, .str z] ∧ RuOk a b z ∧ H x = some (.ins C dx []) ∧
  ∀ H', (∀ q, q ≠ x → H' q = H q) → Ru C H' x a b z → Q .non H'
def sp_Rules___eq__ (C : Addr) (_ : PySem.W.Frag) : Sp := fun vs H Q _ => ∃ (x : Addr) (y : V) (a b : Int) (z : Str), vs = [.ref x, y] ∧ Ru C H x a b z ∧
  ((∃ (u : Addr) (a' b' : Int) (z' : Str), y = .ref u ∧ Ru C H u a' b' z' ∧ Q (.bl (decide (a = a' ∧ b = b' ∧ z = z'))) H) ∨ (∃ (p : Addr) (d : PyData), Dt H p y d ∧ Q (.bl false) H))
def sp_Rules___repr__ (C : Addr) (_ : PySem.W.Frag) : Sp := fun vs H Q _ => ∃ (x : Addr) (a b : Int) (z : Str), vs = [.ref x] ∧ Ru C H x a b z ∧ RuOk a b z ∧ Q (.str (ruleText a b z)) H
def sp__law_rule (_ : PySem.W.Frag) : Sp := fun vs H Q _ => ∃ (p : Addr), vs = [.ref p] ∧ Dr p H ∧
  ∀ t a b z H', Keep p H H' → Dr p H' → t ≠ p → H' t = some (.tup [.int a, .int b, .str z]) → RuOk a b z → Q (.ref t) H'
def sp__law_made (C : Addr) (_ : PySem.W.Frag) : Sp := fun vs H Q _ => ∃ (t : Addr) (a b : Int) (z : Str), vs = [.ref t] ∧ H t = some (.tup [.int a, .int b, .str z]) ∧ RuOk a b z ∧
  ∀ x H', Same H H' → H x = none → Ru C H' x a b z → Q (.ref x) H'
def sp__law_other (_ : PySem.W.Frag) : Sp := fun vs H Q _ => ∃ (p t : Addr) (a b : Int) (z : Str), vs = [.ref p, .ref t] ∧ Dr p H ∧ t ≠ p ∧ H t = some (.tup [.int a, .int b, .str z]) ∧ RuOk a b z ∧
  ∀ t' a' b' z' H', Keep p H H' → Dr p H' → t' ≠ p → H' t' = some (.tup [.int a', .int b', .str z']) → RuOk a' b' z' → Q (.ref t') H'
def sp__law_text (_ : PySem.W.Frag) : Sp := fun vs H Q _ => ∃ (t : Addr) (a b : Int) (z : Str), vs = [.ref t] ∧ H t = some (.tup [.int a, .int b, .str z]) ∧ RuOk a b z ∧ Q (.str (ruleText a b z)) H
def sp__law_same (_ : PySem.W.Frag) : Sp := fun vs H Q _ => ∃ (p : Addr) (v u : V) (d e : PyData), vs = [v, u] ∧ Dt H p v d ∧ Dt H p u e ∧ Fit 60 60000 d ∧ Fit 60 60000 e ∧ Q (.bl (decide (d.shown = e.shown))) H
def sp_law (K : PySem.W.Frag) : Sp := fun vs H Q _ => ∃ (a : Addr) (ns : List Int), vs = [.ref a] ∧ SqL K H a (ns.map V.int) ∧ ns.length ≤ 63 ∧ ∀ H', Q (.bl true) H'
section
variable {K : PySem.W.Frag} {H : Hp} {Q : VK} {E : XK} {p a : Addr} {v u : V} {d e : PyData} {n k lo hi : Int} {ns : List Int} {N m b : Nat}
theorem c_is_whole_in (h : Dt H p v d) (q : Q (.bl (betweenD lo hi d)) H) : sp_is_whole_in K ([v, .int lo, .int hi] ++ []) H Q E := ⟨p, v, d, lo, hi, rfl, h, q⟩
theorem c_is_whole_from (h : Dt H p v d) (q : Q (.bl (fromD lo d)) H) : sp_is_whole_from K ([v, .int lo] ++ []) H Q E := ⟨p, v, d, lo, rfl, h, q⟩
theorem c_is_drop (h : Dt H p v d) (q : Q (.bl (betweenD 0 5 d)) H) : sp_is_drop K ([v] ++ []) H Q E := ⟨p, v, d, rfl, h, q⟩
theorem c_is_cut (h : Dt H p v d) (q : Q (.bl (betweenD 0 100 d)) H) : sp_is_cut K ([v] ++ []) H Q E := ⟨p, v, d, rfl, h, q⟩
theorem c_is_dropI {i : Int} (h : 0 ≤ i) (h1 : i ≤ 5) (q : Q (.bl true) H) : sp_is_drop K ([.int i] ++ []) H Q E := ⟨0, _, _, rfl, Dt.int i, by rw [show betweenD 0 5 (.int i) = true from decide_eq_true ⟨h, h1⟩]; exact q⟩
theorem c_is_cutI {i : Int} (h : 0 ≤ i) (h1 : i ≤ 100) (q : Q (.bl true) H) : sp_is_cut K ([.int i] ++ []) H Q E := ⟨0, _, _, rfl, Dt.int i, by rw [show betweenD 0 100 (.int i) = true from decide_eq_true ⟨h, h1⟩]; exact q⟩
theorem c_is_second {z : Str} (h : z = "best" ∨ z = "last" ∨ z = "mean") (q : Q (.bl true) H) : sp_is_second K ([.str z] ++ []) H Q E := ⟨z, rfl, h, q⟩
theorem c__law_cell_at (h : SqL K H a (ns.map V.int)) (h0 : 0 ≤ k) (q : ∀ i, Q (.int i) H) : sp__law_cell_at K ([.ref a, .int k] ++ []) H Q E := ⟨a, ns, k, rfl, h, h0, q⟩
theorem c__law_state (h : SqL K H a (ns.map V.int)) (h0 : 0 ≤ k) (q : ∀ p H', Fre H p → Same H H' → Dr p H' → Q (.ref p) H') : sp__law_state K ([.ref a, .int k] ++ []) H Q E := ⟨a, ns, k, rfl, h, h0, q⟩
theorem c__law_take (h : Dr p H) (h0 : 0 < n) (h1 : n < 2 ^ 60) (q : ∀ r H', 0 ≤ r → r < n → Keep p H H' → Dr p H' → Q (.int r) H') : sp__law_take K ([.ref p, .int n] ++ []) H Q E := ⟨p, n, rfl, h, h0, h1, q⟩
theorem c__law_odd (h : Dr p H) (q : ∀ v d H', Keep p H H' → Dr p H' → Dt (Un N0 H H') p v d → Dt H' p v d → Ft (10 ^ 30) 3 10 d → Q v H') : sp__law_odd K ([.ref p] ++ []) H Q E :=
  ⟨p, rfl, h, fun v d H' k dr t f => q v d H' k dr t (t.keep (Un.sub N0.keep k)) f⟩
/-- the address that data keeps apart from -/
structure Mark (p : Addr) : Prop where
theorem c__law_same (_ : Mark p) (hd : Dt H p v d) (he : Dt H p u e) (f : Fit 60 60000 d) (g : Fit 60 60000 e) (q : Q (.bl (decide (d.shown = e.shown))) H) : sp__law_same K ([v, u] ++ []) H Q E := ⟨p, v, u, d, e, rfl, hd, he, f, g, q⟩
theorem c__law_rule (h : Dr p H) (q : ∀ t a b z H', Keep p H H' → Dr p H' → t ≠ p → H' t = some (.tup [.int a, .int b, .str z]) → RuOk a b z → Q (.ref t) H') : sp__law_rule K ([.ref p] ++ []) H Q E := ⟨p, rfl, h, q⟩
theorem c__law_made {C t : Addr} {a b : Int} {z : Str} (h : H t = some (.tup [.int a, .int b, .str z])) (r : RuOk a b z) (q : ∀ x H', Same H H' → H x = none → Ru C H' x a b z → Q (.ref x) H') : sp__law_made C K ([.ref t] ++ []) H Q E := ⟨t, a, b, z, rfl, h, r, q⟩
theorem c__law_other {t : Addr} {a b : Int} {z : Str} (h : Dr p H) (n : t ≠ p) (ht : H t = some (.tup [.int a, .int b, .str z])) (r : RuOk a b z)
    (q : ∀ t' a' b' z' H', Keep p H H' → Dr p H' → t' ≠ p → H' t' = some (.tup [.int a', .int b', .str z']) → RuOk a' b' z' → Q (.ref t') H') : sp__law_other K ([.ref p, .ref t] ++ []) H Q E := ⟨p, t, a, b, z, rfl, h, n, ht, r, q⟩
theorem c__law_text {t : Addr} {a b : Int} {z : Str} (h : H t = some (.tup [.int a, .int b, .str z])) (r : RuOk a b z) (q : Q (.str (ruleText a b z)) H) : sp__law_text K ([.ref t] ++ []) H Q E := ⟨t, a, b, z, rfl, h, r, q⟩
end
local macro_rules | `(tactic| walk_at "N0") => `(tactic| first
  | assumption
  | (refine Ne.symm ?_; assumption))
local macro_rules | `(tactic| walk_at "GG") => `(tactic| first
  | assumption
  | with_reducible exact upd_same
  | ((first
    | ((with_reducible refine' g_newF ?n ?h); (case n => assumption))
    | ((with_reducible refine' g_other ?n ?h); (case n => walk_at "N0"))
    | (refine' g_keep ?k ?n ?h; (case k => assumption); (case n => walk_at "N0"))
    | (refine' g_same ?s ?h; (case s => assumption))); (case h => walk_at "GG")))
local macro_rules | `(tactic| walk_at "NE") => `(tactic| first
  | walk_at "N0"
  | (refine' n_newF ?n ?h; (case n => assumption); (case h => walk_at "GG"))
  | (refine' n_newF' ?n ?h; (case n => assumption); (case h => walk_at "GG")))
local macro_rules | `(tactic| walk_at "FR") => `(tactic| first
  | assumption
  | (refine' Fre.of ?n; (case n => assumption))
  | (refine' Keep.freeF ?k ?ne ?n; (case n => assumption); (case k => walk_at "KP"); (case ne => walk_at "NE"))
  | (refine' Same.freeF ?k ?n; (case n => assumption); (case k => walk_at "SM")))
local macro_rules | `(tactic| walk_at "KP") => `(tactic| first
  | assumption
  | with_reducible exact Keep.refl _ _
  | ((first
    | ((with_reducible refine' Keep.newF ?k ?n); (case n => assumption))
    | (with_reducible refine' Keep.put ?k)
    | ((with_reducible refine' Keep.overF ?k ?n); (case n => walk_at "FR"))
    | (refine' Keep.trans ?k ?b; (case b => assumption))
    | (refine' Keep.trans ?k (Keep.of ?b); (case b => assumption))); (case k => walk_at "KP")))
local macro_rules | `(tactic| walk_at "SM") => `(tactic| first
  | assumption
  | with_reducible exact Same.refl _
  | ((first
    | ((with_reducible refine' Same.newF ?k ?n); (case n => assumption))
    | ((with_reducible refine' Same.overF ?k ?n); (case n => walk_at "FR"))
    | (refine' Same.trans ?k ?b; (case b => assumption))); (case k => walk_at "SM")))
local macro_rules | `(tactic| walk_at "G") => `(tactic| first
  | assumption
  | with_reducible exact upd_same
  | ((first
    | ((with_reducible refine' g_newF ?n ?h); (case n => assumption))
    | ((with_reducible refine' g_other ?n ?h); (case n => walk_at "NE"))
    | (refine' g_keep ?k ?n ?h; (case k => assumption); (case n => walk_at "NE"))
    | (refine' g_same ?s ?h; (case s => assumption))); (case h => walk_at "G")))
local macro_rules | `(tactic| walk_at "DT") => `(tactic| first
  | assumption
  | with_reducible exact Dt.int _
  | with_reducible exact Dt.str _
  | with_reducible exact Dt.bl _
  | with_reducible exact Dt.non
  | (refine' Dt.keep ?k ?h; (case h => assumption); (case k => walk_at "KP")))
local macro_rules | `(tactic| walk_at "DD") => `(tactic| first
  | walk_at "DT"
  | (refine' Dt.there ?n ?h ?c; (case n => walk_at "NE"); (case h => walk_at "G"); (case c => first
    | ((with_reducible refine' DtC.tup ?a); (case a => walk_at "DA"))
    | ((with_reducible refine' DtC.lst ?a); (case a => walk_at "DA"))
    | ((with_reducible refine' DtC.dct ?a); (case a => simp)))))
local macro_rules | `(tactic| walk_at "DA") => `(tactic| first
  | assumption
  | with_reducible exact DtAll.nil
  | ((with_reducible refine' DtAll.cons ?a ?b); (case a => walk_at "DD"); (case b => walk_at "DA")))
local macro_rules | `(tactic| walk_at "RG") => `(tactic| first
  | assumption
  | ((first
    | ((with_reducible refine' Reg.new ?r ?n); (case n => assumption))
    | (with_reducible refine' Reg.put ?r)
    | (refine' Reg.keep ?r ?k; (case k => assumption))); (case r => walk_at "RG")))
local macro_rules | `(tactic| walk_at "AR") => `(tactic| first
  | assumption
  | omega
  | decide
  | (simp only [List.length_map, List.length_append, List.length_cons, List.length_nil, List.length_set, List.length_reverse]; omega))
local macro_rules | `(tactic| walk_at "KD") => `(tactic| first | exact Or.inl rfl | exact Or.inr (Or.inl rfl) | exact Or.inr (Or.inr (Or.inl rfl)) | exact Or.inr (Or.inr (Or.inr (Or.inl rfl))) | exact Or.inr (Or.inr (Or.inr (Or.inr (Or.inl rfl)))) | exact Or.inr (Or.inr (Or.inr (Or.inr (Or.inr rfl)))))
local macro_rules | `(tactic| walk_at "S") => `(tactic| first
  | ((with_reducible refine' r_var ?h ?_); (case h => rfl))
  | with_reducible refine' r_c ?_
  | with_reducible refine' r_op ?_
  | with_reducible refine' r_cons ?_
  | with_reducible refine' r_nil ?_
  | with_reducible refine' r_cb ?_
  | with_reducible refine' r_call ?_
  | with_reducible refine' r_rI0 ?_
  | with_reducible refine' r_plusI ?_
  | with_reducible refine' r_isbl ?_
  | with_reducible refine' r_isint ?_
  | with_reducible refine' r_sameI ?_
  | with_reducible refine' r_unlikeI ?_
  | with_reducible refine' r_sameS ?_
  | with_reducible refine' r_unlikeS ?_
  | with_reducible refine' r_rU ?_
  | with_reducible refine' r_un ?_
  | with_reducible refine' r_tup ?_
  | with_reducible refine' r_lst ?_
  | ((with_reducible refine' r_small ?h ?_); (case h => walk_at "AR"))
  | with_reducible refine' r_if ?_
  | with_reducible refine' r_test ?_
  | with_reducible refine' r_B ?_
  | with_reducible refine' r_and ?_
  | with_reducible refine' r_or ?_
  | with_reducible refine' r_not ?_
  | with_reducible refine' r_andV ?_
  | with_reducible refine' r_orV ?_
  | with_reducible refine' r_notV ?_
  | with_reducible refine' r_chain ?_
  | with_reducible refine' iteT ?_
  | with_reducible refine' iteF ?_
  | with_reducible refine' r_next ?_
  | with_reducible refine' r_seq ?_
  | with_reducible refine' r_ret ?_
  | with_reducible refine' r_retN ?_
  | with_reducible refine' r_drop ?_
  | with_reducible refine' r_ifS ?_
  | with_reducible refine' r_asg ?_
  | with_reducible refine' r_break ?_
  | with_reducible refine' r_cont ?_
  | ((with_reducible refine' r_gname ?h ?_); (case h => first | (simp only [wipe, List.map_cons, List.map_nil, List.set_cons_zero, List.set_cons_succ]; rfl) | rfl))
  | with_reducible refine' r_gsub ?_
  | with_reducible refine' r_gnil ?_
  | with_reducible refine' r_gcons ?_
  | with_reducible refine' r_for ?_
  | with_reducible refine' r_lc ?_
  | ((with_reducible refine' r_wipe ?h ?_); (case h => rfl))
  | with_reducible refine' r_yes ?_
  | ((with_reducible refine' r_repr ?h ?f ?_); (case h => walk_at "DD"); (case f => walk_at "FT"))
  | with_reducible refine' r_par ?_
  | with_reducible refine' r_par3 ?_
  | with_reducible refine' r_two ?_
  | with_reducible refine' r_three ?_
  | with_reducible refine' r_sl ?_
  | with_reducible refine' r_nopart ?_
  | with_reducible refine' r_part ?_
  | with_reducible refine' r_bm ?_
  | with_reducible refine' r_bm0 ?_
  | with_reducible refine' r_tyS ?_
  | with_reducible refine' r_min2 ?_
  | with_reducible refine' r_rev ?_
  | ((with_reducible refine' r_isT ?h ?_); (case h => walk_at "G"))
  | ((with_reducible refine' r_eqNo ?h ?k ?_); (case h => walk_at "G"); (case k => walk_at "G"))
  | with_reducible refine' r_itup ?_
  | with_reducible refine' r_ilst ?_
  | ((with_reducible refine' r_atT ?h ?_); (case h => walk_at "G"))
  | with_reducible refine' r_dnew ?_
  | with_reducible refine' r_disp1 ?_
  | ((with_reducible refine' r_plusL ?h ?k ?e ?_); (case h => walk_at "G"); (case k => walk_at "G"); (case e => walk_at "AR"))
  | ((with_reducible refine' r_atL ?h ?_); (case h => walk_at "G"))
  | with_reducible refine' r_irng1 ?_
  | ((with_reducible refine' r_rng ?h ?k ?_); (case h => walk_at "AR"); (case k => walk_at "AR"))
  | with_reducible refine' r_max2 ?_
  | ((with_reducible refine' r_mod ?h ?_); (case h => walk_at "AR"))
  | ((with_reducible refine' r_div ?h ?k ?_); (case h => walk_at "AR"); (case k => walk_at "AR"))
  | ((with_reducible refine' r_pow ?h ?k ?m ?_); (case h => decide); (case k => decide); (case m => decide))
  | ((with_reducible refine' r_timesI ?h ?k ?_); (case h => walk_at "AR"); (case k => walk_at "AR"))
  | ((with_reducible refine' r_ixL0 ?h ?_); (case h => walk_at "G"))
  | ((with_reducible refine' r_ixL1 ?h ?_); (case h => walk_at "G"))
  | ((with_reducible refine' r_ixL2 ?h ?_); (case h => walk_at "G"))
  | ((with_reducible refine' r_ixT0 ?h ?_); (case h => walk_at "G"))
  | ((with_reducible refine' r_ixT1 ?h ?_); (case h => walk_at "G"))
  | ((with_reducible refine' r_ixT2 ?h ?_); (case h => walk_at "G"))
  | ((with_reducible refine' r_setL0 ?h ?_); (case h => walk_at "G"))
  | ((with_reducible refine' r_setL1 ?h ?_); (case h => walk_at "G"))
  | ((with_reducible refine' r_setL2 ?h ?_); (case h => walk_at "G"))
  | ((with_reducible refine' r_pickI ?h ?k ?l ?b ?_); (case h => walk_at "G"); (case k => walk_at "AR"); (case l => walk_at "AR"); (case b => (simp; done)); intro z hz; simp only [List.mem_cons, V.int.injEq, List.not_mem_nil, or_false] at hz)
  | ((with_reducible refine' r_pickS ?h ?k ?l ?b ?_); (case h => walk_at "G"); (case k => walk_at "AR"); (case l => walk_at "AR"); (case b => (simp; done)); intro z hz; simp only [List.mem_cons, V.str.injEq, List.not_mem_nil, or_false] at hz)
  | ((with_reducible refine' r_tyL ?h ?_); (case h => walk_at "G"))
  | ((with_reducible refine' r_append ?h ?e ?_); (case h => walk_at "G"); (case e => walk_at "AR"))
  | ((with_reducible refine' r_isi ?h ?e ?f ?_); (case h => walk_at "DT"); (case e => walk_at "KD"); (case f => first | exact (rfl : _ = true) | exact (rfl : _ = false) | rfl))
  | ((with_reducible refine' r_lenL ?h ?_); (case h => walk_at "G"))
  | ((with_reducible refine' r_lenT ?h ?_); (case h => walk_at "G"))
  | ((with_reducible refine' r_lenK ?h ?_); (case h => assumption))
  | ((with_reducible refine' r_listL ?h ?_); (case h => walk_at "G"))
  | ((with_reducible refine' r_listT ?h ?_); (case h => walk_at "G"))
  | ((with_reducible refine' r_tupL ?h ?_); (case h => walk_at "G"))
  | ((with_reducible refine' r_gtup ?h ?e ?_); (case h => walk_at "G"); (case e => rfl))
  | ((with_reducible refine' r_free ?_); intro _ _)
  | ((with_reducible refine' iteT_of ?h ?_); (case h => rfl))
  | ((with_reducible refine' iteF_of ?h ?_); (case h => rfl))
  | ((with_reducible refine' r_ite ?_ ?_) <;> intro hc <;> (try simp only [decide_eq_true_eq, decide_eq_false_iff_not, Bool.not_eq_true', Bool.not_eq_false', Bool.not_eq_true, Bool.not_eq_false, Bool.not_true, Bool.not_false, Bool.true_eq_false, Bool.false_eq_true, Int.not_lt, Int.not_le] at hc) <;> (try (exfalso; omega)))
  | simp only [List.set_cons_zero, List.set_cons_succ]
  | dsimp only)
local macro_rules | `(tactic| walk_at "D0") => `(tactic| first
  | assumption
  | ((with_reducible refine' Dr.new ?a ?n); (case n => assumption); (case a => walk_at "D0"))
  | ((with_reducible refine' Dr.other ?a ?n); (case n => first | assumption | (refine Ne.symm ?_; assumption)); (case a => walk_at "D0")))
local macro_rules | `(tactic| walk_at "N0") => `(tactic| first
  | assumption
  | (refine Ne.symm ?_; assumption)
  | (refine' Dr.ne ?d ?n; (case n => assumption); (case d => walk_at "D0"))
  | (refine Ne.symm ?_; refine' Dr.ne ?d ?n; (case n => assumption); (case d => walk_at "D0")))
local macro_rules | `(tactic| walk_at "DR") => `(tactic| first
  | assumption
  | ((first
    | ((with_reducible refine' Dr.new ?a ?n); (case n => assumption))
    | ((with_reducible refine' Dr.other ?a ?n); (case n => walk_at "N0"))
    | (refine' Dr.same ?s ?a; (case s => assumption))); (case a => walk_at "DR")))
local macro_rules | `(tactic| walk_at "LN") => `(tactic| (rw [sizeLine_eq]; (try simp only [strLen_append, ln0, ln1, ln2, ln3, ln4, ln5, ln6]); omega))
local macro_rules | `(tactic| walk_at "S") => `(tactic| first
  | ((with_reducible refine' c_is_whole_in ?h ?_); (case h => walk_at "DT"))
  | ((with_reducible refine' c_is_whole_from ?h ?_); (case h => walk_at "DT"))
  | ((with_reducible refine' c__law_cell_at ?h ?k ?_); (case h => assumption); (case k => walk_at "AR"); intro _)
  | ((with_reducible refine' c__law_state ?h ?k ?_); (case h => assumption); (case k => walk_at "AR"); intro _ _ _ _ _)
  | ((with_reducible refine' c__law_take ?h ?k ?l ?_); (case h => walk_at "DR"); (case k => walk_at "AR"); (case l => walk_at "AR"); intro _ _ _ _ _ _)
  | ((with_reducible refine' c__law_odd ?h ?_); (case h => walk_at "DR"); intro _ _ _ _ _ _ _ _)
  | ((with_reducible refine' c_is_dropI ?h ?k ?_); (case h => walk_at "AR"); (case k => walk_at "AR"))
  | ((with_reducible refine' c_is_cutI ?h ?k ?_); (case h => walk_at "AR"); (case k => walk_at "AR"))
  | ((with_reducible refine' c_is_drop ?h ?_); (case h => walk_at "DT"))
  | ((with_reducible refine' c_is_cut ?h ?_); (case h => walk_at "DT"))
  | ((with_reducible refine' c_is_second ?h ?_); (case h => assumption))
  | ((with_reducible refine' c__law_rule ?h ?_); (case h => walk_at "DR"); intro _ _ _ _ _ _ _ _ _ _)
  | ((with_reducible refine' c__law_made ?h ?r ?_); (case h => walk_at "G"); (case r => assumption); intro _ _ _ _ _)
  | ((with_reducible refine' c__law_other ?h ?n ?t ?r ?_); (case h => walk_at "DR"); (case n => walk_at "NE"); (case t => walk_at "G"); (case r => assumption); intro _ _ _ _ _ _ _ _ _ _)
  | ((with_reducible refine' c__law_text ?h ?r ?_); (case h => walk_at "G"); (case r => assumption))
  | with_reducible refine' r_callN ?_
  | with_reducible refine' r_makeN ?_
  | ((with_reducible refine' r_names ?h ?k ?_); (case h => rfl); (case k => rfl))
  | with_reducible refine' r_fld ?_
  | ((with_reducible refine' r_fldAt ?h ?c ?n ?l ?_); (case h => walk_at "G"); (case c => assumption); (case n => assumption); (case l => first | exact rf_drop _ _ _ | exact rf_cut _ _ _ | exact rf_second _ _ _))
  | with_reducible refine' r_sfld ?_
  | with_reducible refine' r_fmtI ?_
  | ((with_reducible refine' r_jsStr ?h ?_); (case h => walk_at "LN"))
  | ((with_reducible refine' r_strI ?h ?_); (case h => omega))
  | ((with_reducible refine' r_fmtInt ?h ?_); (case h => omega))
  | ((with_reducible refine' r_fmtStr ?h ?_); (case h => walk_at "LN"))
  | ((with_reducible refine' r_plusS ?h ?_); (case h => walk_at "LN"))
  | with_reducible refine' r_js0 ?_
  | with_reducible refine' r_js ?_
  | dsimp only [nV])
local macro_rules | `(tactic| walk_at "FT") => `(tactic| first
  | assumption
  | (refine' Ft.fit ?f ?a ?b ?c; (case f => assumption); (case a => first | decide | omega); (case b => first | decide | omega); (case c => first | decide | omega)))
local macro_rules | `(tactic| walk_at "DD") => `(tactic| (refine' Dt.thereU ?n ?f ?h ?c; (case n => walk_at "NE"); (case f => walk_at "FR"); (case h => walk_at "G"); (case c => first
    | ((with_reducible refine' DtC.tup ?a); (case a => walk_at "DA"))
    | ((with_reducible refine' DtC.lst ?a); (case a => walk_at "DA"))
    | ((with_reducible refine' DtC.dct ?a); (case a => simp)))))
section
variable {P : Program} {w : World} {K : PySem.W.Frag} {mg : Str → Option Value} {base : Heap}
theorem sc_is_whole_from : FnScope ["thing", "least"] ["thing", "least"] (defScope (top 4)) := ⟨rfl, rfl, rfl, by decide +kernel, rfl, by decide +kernel, by decide +kernel⟩
theorem ok_is_whole_from (T : Tx K mg)  :
    Fg P w K mg base CX0 1 T.f_is_whole_from T.fd_is_whole_from ["thing", "least"] (sp_is_whole_from K) := by
  refine fg_of0 T.F_is_whole_from sc_is_whole_from (fun vs H Q E h => ?_) (fun cdv A outer s H vs Q E hr hg h => ?_)
  · obtain ⟨p, v, d, lo, rfl, _⟩ := h
    rfl
  · obtain ⟨p, v, d, lo, rfl, hd, q⟩ := h
    refine ⟨_, (pss_one (ps_ret (pe_and (pe_callB (r := rIsi K) call_isi (by rfl) T.m_isinstance (by decide +kernel) (pa_cons (pv 0) (pa_cons (pe_bltn (v := .ty "int") (by rfl) T.m_int (by decide +kernel) rfl) pa_nil))) (pe_and (pe_not (pe_callB (r := rIsi K) call_isi (by rfl) T.m_isinstance (by decide +kernel) (pa_cons (pv 0) (pa_cons (pe_bltn (v := .ty "bool") (by rfl) T.m_bool (by decide +kernel) rfl) pa_nil)))) (pe_one (pe_cmpR op_le (pv 1) (pv 0) (nomark _))))))), ?_⟩
    refine at_start (show L2.start _ [_, _] = [some _, some _] from rfl) ?_
    have hd0 := hd
    cases hd
    all_goals repeat' (walk_at "S")
    all_goals (refine r_conv ?_ q; simp_all [fromD])
theorem sc_is_whole_in : FnScope ["thing", "least", "most"] ["thing", "least", "most"] (defScope (top 5)) := ⟨rfl, rfl, rfl, by decide +kernel, rfl, by decide +kernel, by decide +kernel⟩
theorem ok_is_whole_in (T : Tx K mg) (G_is_whole_from : Fg P w K mg base CX0 1 T.f_is_whole_from T.fd_is_whole_from ["thing", "least"] (sp_is_whole_from K)) :
    Fg P w K mg base CX0 2 T.f_is_whole_in T.fd_is_whole_in ["thing", "least", "most"] (sp_is_whole_in K) := by
  refine fg_of0 T.F_is_whole_in sc_is_whole_in (fun vs H Q E h => ?_) (fun cdv A outer s H vs Q E hr hg h => ?_)
  · obtain ⟨p, v, d, lo, hi, rfl, _⟩ := h
    rfl
  · obtain ⟨p, v, d, lo, hi, rfl, hd, q⟩ := h
    refine ⟨_, (pss_one (ps_ret (pe_and (pg_call G_is_whole_from (hr.mono (by decide)) hg rfl T.m_is_whole_from T.F_is_whole_from.kp T.b_is_whole_from .nil pass0 (pa_cons (pv 0) (pa_cons (pv 1) pa_nil))) (pe_one (pe_cmpR op_le (pv 0) (pv 2) (nomark _)))))), ?_⟩
    refine at_start (show L2.start _ [_, _, _] = [some _, some _, some _] from rfl) ?_
    have hd0 := hd
    cases hd
    all_goals repeat' (walk_at "S")
    all_goals (refine r_conv ?_ q; first | (simp_all [betweenD, fromD]; done) | (simp_all [betweenD, fromD]; omega))
theorem sc_is_drop : FnScope ["thing"] ["thing"] (defScope (top 10)) := ⟨rfl, rfl, rfl, by decide +kernel, rfl, by decide +kernel, by decide +kernel⟩
theorem ok_is_drop (T : Tx K mg) (G_is_whole_in : Fg P w K mg base CX0 2 T.f_is_whole_in T.fd_is_whole_in ["thing", "least", "most"] (sp_is_whole_in K)) :
    Fg P w K mg base CX0 3 T.f_is_drop T.fd_is_drop ["thing"] (sp_is_drop K) := by
  refine fg_of0 T.F_is_drop sc_is_drop (fun vs H Q E h => ?_) (fun cdv A outer s H vs Q E hr hg h => ?_)
  · obtain ⟨p, v, d, rfl, _⟩ := h
    rfl
  · obtain ⟨p, v, d, rfl, hd, q⟩ := h
    refine ⟨_, (pss_one (ps_ret (pg_call G_is_whole_in (hr.mono (by decide)) hg rfl T.m_is_whole_in T.F_is_whole_in.kp T.b_is_whole_in .nil pass0 (pa_cons (pv 0) (pa_cons pe_int (pa_cons (pe_gint rfl T.m_MOST_DROP) pa_nil)))))), ?_⟩
    refine at_start (show L2.start _ [_] = [some _] from rfl) ?_
    repeat' (walk_at "S")
    exact q
theorem sc_is_cut : FnScope ["thing"] ["thing"] (defScope (top 11)) := ⟨rfl, rfl, rfl, by decide +kernel, rfl, by decide +kernel, by decide +kernel⟩
theorem ok_is_cut (T : Tx K mg) (G_is_whole_in : Fg P w K mg base CX0 2 T.f_is_whole_in T.fd_is_whole_in ["thing", "least", "most"] (sp_is_whole_in K)) :
    Fg P w K mg base CX0 3 T.f_is_cut T.fd_is_cut ["thing"] (sp_is_cut K) := by
  refine fg_of0 T.F_is_cut sc_is_cut (fun vs H Q E h => ?_) (fun cdv A outer s H vs Q E hr hg h => ?_)
  · obtain ⟨p, v, d, rfl, _⟩ := h
    rfl
  · obtain ⟨p, v, d, rfl, hd, q⟩ := h
    refine ⟨_, (pss_one (ps_ret (pg_call G_is_whole_in (hr.mono (by decide)) hg rfl T.m_is_whole_in T.F_is_whole_in.kp T.b_is_whole_in .nil pass0 (pa_cons (pv 0) (pa_cons pe_int (pa_cons (pe_gint rfl T.m_MOST_CUT) pa_nil)))))), ?_⟩
    refine at_start (show L2.start _ [_] = [some _] from rfl) ?_
    repeat' (walk_at "S")
    exact q
theorem sc__law_cell_at : FnScope ["_law_script", "_law_k"] ["_law_script", "_law_k"] (defScope (top 15)) := ⟨rfl, rfl, rfl, by decide +kernel, rfl, by decide +kernel, by decide +kernel⟩
theorem ok__law_cell_at (T : Tx K mg)  :
    Fg P w K mg base CX0 1 T.f__law_cell_at T.fd__law_cell_at ["_law_script", "_law_k"] (sp__law_cell_at K) := by
  refine fg_of0 T.F__law_cell_at sc__law_cell_at (fun vs H Q E h => ?_) (fun cdv A outer s H vs Q E hr hg h => ?_)
  · obtain ⟨a, ns, k, rfl, _⟩ := h
    rfl
  · obtain ⟨a, ns, k, rfl, hs, h0, q⟩ := h
    refine ⟨_, (pss_cons (ps_if (pt_cmpR op_lt (pv 1) (pe_callB (r := rLen K) call_size (by rfl) T.m_len (by decide +kernel) (pa_cons (pv 0) pa_nil)) (nomark _))
    (pss_one (ps_ret (pe_ix (r := rIx K) ix_seq (pv 0) (pv 1) (fun _ _ => rfl))))
    pss_nil)
    (pss_one (ps_ret pe_int))), ?_⟩
    refine at_start (show L2.start _ [_, _] = [some _, some _] from rfl) ?_
    repeat' (walk_at "S")
    · exact r_pickK hs h0 (by assumption) fun z _ => q z
    · exact q _
theorem sc__law_state : FnScope ["_law_script", "_law_k", "_law_cell"] ["_law_script", "_law_k"] (defScope (top 16)) := ⟨rfl, rfl, rfl, by decide +kernel, rfl, by decide +kernel, by decide +kernel⟩
theorem ok__law_state (T : Tx K mg) (G__law_cell_at : Fg P w K mg base CX0 1 T.f__law_cell_at T.fd__law_cell_at ["_law_script", "_law_k"] (sp__law_cell_at K)) :
    Fg P w K mg base CX0 2 T.f__law_state T.fd__law_state ["_law_script", "_law_k"] (sp__law_state K) := by
  refine fg_of0 T.F__law_state sc__law_state (fun vs H Q E h => ?_) (fun cdv A outer s H vs Q E hr hg h => ?_)
  · obtain ⟨a, ns, k, rfl, _⟩ := h
    rfl
  · obtain ⟨a, ns, k, rfl, hs, h0, q⟩ := h
    refine ⟨_, (pss_cons (ps_set (i := 2) sc__law_state.nd rfl (by first | exact Or.inl rfl | exact Or.inr rfl) (pg_call G__law_cell_at (hr.mono (by decide)) hg rfl T.m__law_cell_at T.F__law_cell_at.kp T.b__law_cell_at .nil pass0 (pa_cons (pv 0) (pa_cons (pv 1) pa_nil))))
    (pss_cons (ps_if (pt_cmpR op_ge (pv 2) (pe_op op_power pe_int pe_int) (nomark _))
    (pss_one (ps_ret (pe_lst (pa_cons (pe_op op_sub (pv 2) (pe_op op_power pe_int pe_int)) (pa_cons (pe_op (r := rPlus K) op_plus (pe_op op_rest (pv 2) pe_int) pe_int) pa_nil)))))
    pss_nil)
    (pss_one (ps_ret (pe_lst (pa_cons pe_int (pa_cons (pe_op (r := rPlus K) op_plus (pe_op op_rest (pv 2) pe_int) pe_int) pa_nil))))))), ?_⟩
    refine at_start (show L2.start _ [_, _] = [some _, some _, none] from rfl) ?_
    repeat' (walk_at "S")
    · rename_i i hc p np
      refine q p _ np (Same.newF (Same.refl H) np) ⟨_, _, upd_same, ?_, ?_, ?_⟩
      · have : (10 : Int) ^ (Int.toNat 18) = 1000000000000000000 := by decide
        omega
      · omega
      · omega
    · rename_i i hc p np
      exact q p _ np (Same.newF (Same.refl H) np) ⟨_, _, upd_same, by omega, by omega, by omega⟩
theorem sc__law_take : FnScope ["_law_state_here", "_law_many", "_law_found", "_law_stirred"] ["_law_state_here", "_law_many"] (defScope (top 17)) := ⟨rfl, rfl, rfl, by decide +kernel, rfl, by decide +kernel, by decide +kernel⟩
theorem ok__law_take (T : Tx K mg)  :
    Fg P w K mg base CX0 1 T.f__law_take T.fd__law_take ["_law_state_here", "_law_many"] (sp__law_take K) := by
  refine fg_of0 T.F__law_take sc__law_take (fun vs H Q E h => ?_) (fun cdv A outer s H vs Q E hr hg h => ?_)
  · obtain ⟨p, n, rfl, _⟩ := h
    rfl
  · obtain ⟨p, n, rfl, ⟨a, b, hp, ha, hb, hc⟩, n0, n1, q⟩ := h
    refine ⟨_, (pss_cons (ps_if (pt_cmpR op_gt (pe_ix (r := rIx K) ix_seq (pv 0) pe_int (fun _ _ => rfl)) pe_int (nomark _))
    (pss_cons (ps_set (i := 2) sc__law_take.nd rfl (by first | exact Or.inl rfl | exact Or.inr rfl) (pe_op op_rest (pe_ix (r := rIx K) ix_seq (pv 0) pe_int (fun _ _ => rfl)) (pv 1)))
    (pss_cons (ps_asg (pe_op op_div (pe_ix (r := rIx K) ix_seq (pv 0) pe_int (fun _ _ => rfl)) (pv 1)) (pg_sub (pv 0) pe_int set_list))
    (pss_one (ps_ret (pv 2)))))
    pss_nil)
    (pss_cons (ps_asg (pe_op op_rest (pe_op (r := rPlus K) op_plus (pe_op (r := rTimes K) op_times (pe_ix (r := rIx K) ix_seq (pv 0) pe_int (fun _ _ => rfl)) pe_int) pe_int) pe_int) (pg_sub (pv 0) pe_int set_list))
    (pss_cons (ps_set (i := 3) sc__law_take.nd rfl (by first | exact Or.inl rfl | exact Or.inr rfl) (pe_op op_rest (pe_op (r := rPlus K) op_plus (pe_op (r := rPlus K) op_plus (pe_op (r := rTimes K) op_times (pe_ix (r := rIx K) ix_seq (pv 0) pe_int (fun _ _ => rfl)) (pe_ix (r := rIx K) ix_seq (pv 0) pe_int (fun _ _ => rfl))) (pe_op (r := rTimes K) op_times pe_int (pe_ix (r := rIx K) ix_seq (pv 0) pe_int (fun _ _ => rfl)))) pe_int) pe_int))
    (pss_cons (ps_set (i := 3) sc__law_take.nd rfl (by first | exact Or.inl rfl | exact Or.inr rfl) (pe_op op_rest (pe_op (r := rPlus K) op_plus (pe_op (r := rPlus K) op_plus (pe_op (r := rTimes K) op_times (pv 3) (pv 3)) (pe_op (r := rTimes K) op_times pe_int (pv 3))) pe_int) pe_int))
    (pss_one (ps_ret (pe_op op_rest (pe_op op_div (pv 3) pe_int) (pv 1)))))))), ?_⟩
    refine at_start (show L2.start _ [_, _] = [some _, some _, none, none] from rfl) ?_
    repeat' (walk_at "S")
    · exact q _ _ (Int.emod_nonneg _ (by omega)) (Int.emod_lt_of_pos _ n0) (Keep.set) ⟨_, _, upd_same, Int.ediv_nonneg (by omega) (by omega), hb, hc⟩
    · exact q _ _ (Int.emod_nonneg _ (by omega)) (Int.emod_lt_of_pos _ n0) (Keep.set) ⟨_, _, upd_same, ha, by omega, by omega⟩
theorem sc__law_odd : FnScope ["_law_state_here", "_law_some"] ["_law_state_here"] (defScope (top 20)) := ⟨rfl, rfl, rfl, by decide +kernel, rfl, by decide +kernel, by decide +kernel⟩
theorem ok__law_odd (T : Tx K mg) (G__law_take : Fg P w K mg base CX0 1 T.f__law_take T.fd__law_take ["_law_state_here", "_law_many"] (sp__law_take K)) :
    Fg P w K mg base CX0 2 T.f__law_odd T.fd__law_odd ["_law_state_here"] (sp__law_odd K) := by
  refine fg_of0 T.F__law_odd sc__law_odd (fun vs H Q E h => ?_) (fun cdv A outer s H vs Q E hr hg h => ?_)
  · obtain ⟨p, rfl, _⟩ := h
    rfl
  · obtain ⟨p, rfl, hp, q⟩ := h
    refine ⟨_, (pss_cons (ps_set (i := 1) sc__law_odd.nd rfl (by first | exact Or.inl rfl | exact Or.inr rfl) (pe_lst (pa_cons pe_non (pa_cons pe_bl (pa_cons pe_bl (pa_cons pe_int (pa_cons pe_int (pa_cons (pe_un un_neg pe_int) (pa_cons (pe_op op_power pe_int pe_int) (pa_cons pe_str (pa_cons pe_str (pa_cons pe_str (pa_cons pe_str (pa_cons (pe_tup pa_nil) (pa_cons (pe_lst pa_nil) (pa_cons pe_dnewK (pa_cons (pe_tup (pa_cons pe_int pa_nil)) (pa_cons (pe_lst (pa_cons pe_int pa_nil)) (pa_cons (pe_tup (pa_cons pe_non pa_nil)) (pa_cons (pe_tup (pa_cons (pe_tup pa_nil) pa_nil)) pa_nil))))))))))))))))))))
    (pss_one (ps_ret (pe_ix (r := rIx K) ix_seq (pe_op (r := rPlus K) op_plus (pv 1) (pe_lst (pa_cons pe_str (pa_cons (pe_disp (pps_cons pe_int pe_int pps_nil) (by rfl) (by rfl) (fun z => by cases z) (by decide)) pa_nil)))) (pg_call G__law_take (hr.mono (by decide)) hg rfl T.m__law_take T.F__law_take.kp T.b__law_take .nil pass0 (pa_cons (pv 0) (pa_cons pe_int pa_nil))) (fun _ _ => rfl))))), ?_⟩
    refine at_start (show L2.start _ [_] = [some _, none] from rfl) ?_
    repeat' (walk_at "S")
    rename_i r H2 r0 r1 kp dr
    refine' r_pickL ?h r0 ?l ?q
    case h => walk_at "G"
    case l => walk_at "AR"
    case q =>
      intro v hv
      simp only [List.cons_append, List.nil_append, List.mem_cons, List.not_mem_nil, or_false] at hv
      rcases hv with h | h | h | h | h | h | h | h | h | h | h | h | h | h | h | h | h | h | h | h <;> rw [h]
      all_goals (refine' q _ _ _ ?a dr ?b ?c; (case a => walk_at "KP"); (case b => walk_at "DD"); (case c => exact ⟨by decide +kernel, by decide +kernel, by decide +kernel⟩))
theorem sc__law_same : FnScope ["_law_found", "_law_due"] ["_law_found", "_law_due"] (defScope (top 21)) := ⟨rfl, rfl, rfl, by decide +kernel, rfl, by decide +kernel, by decide +kernel⟩
theorem ok__law_same (T : Tx K mg)  :
    Fg P w K mg base CX0 1 T.f__law_same T.fd__law_same ["_law_found", "_law_due"] (sp__law_same K) := by
  refine fg_of0 T.F__law_same sc__law_same (fun vs H Q E h => ?_) (fun cdv A outer s H vs Q E hr hg h => ?_)
  · obtain ⟨p, v, u, d, e, rfl, _⟩ := h
    rfl
  · obtain ⟨p, v, u, d, e, rfl, hd, he, f, g, q⟩ := h
    refine ⟨_, (pss_one (ps_ret (pe_cmpR (r := rSame K) (op_same hr.units) (pe_callB (call_repr hg hr.units p) (by rfl) T.m_repr (by decide +kernel) (pa_cons (pv 0) pa_nil)) (pe_callB (call_repr hg hr.units p) (by rfl) T.m_repr (by decide +kernel) (pa_cons (pv 1) pa_nil)) (nomark _)))), ?_⟩
    refine at_start (show L2.start _ [_, _] = [some _, some _] from rfl) ?_
    repeat' (walk_at "S")
    exact q
end
section
variable {P : Program} {w : World} {K : PySem.W.Frag} {mg : Str → Option Value} {base : Heap}
theorem sc_is_second : FnScope ["thing"] ["thing"] (defScope (top 12)) := ⟨rfl, rfl, rfl, by decide +kernel, rfl, by decide +kernel, by decide +kernel⟩
theorem ok_is_second (T : Tx K mg)  :
    Fg P w K mg base CX0 1 T.f_is_second T.fd_is_second ["thing"] (sp_is_second K) := by
  refine fg_of0 T.F_is_second sc_is_second (fun vs H Q E h => ?_) (fun cdv A outer s H vs Q E hr hg h => ?_)
  · obtain ⟨z, rfl, _⟩ := h
    rfl
  · obtain ⟨z, rfl, hz, q⟩ := h
    refine ⟨_, (pss_one (ps_ret (pe_and (pe_callB (r := rIsi K) call_isi (by rfl) T.m_isinstance (by decide +kernel) (pa_cons (pv 0) (pa_cons (pe_bltn (v := .ty "str") (by rfl) T.m_str (by decide +kernel) rfl) pa_nil))) (pe_one (pe_cmpR (r := rIn K false) op_in_seq (pv 0) (pe_gref rfl T.m_SECONDS) (by rfl)))))), ?_⟩
    refine at_start (show L2.start _ [_] = [some _] from rfl) ?_
    repeat' (walk_at "S")
    refine r_isi (p := 0) (Dt.str _) (Or.inr (Or.inr (Or.inl rfl))) rfl ?_
    repeat' (walk_at "S")
    refine ⟨_, _, rfl, .inr T.l_SECONDS.sq, rfl, rfl, ?_⟩
    rw [if_neg (by decide)]
    refine r_conv ?_ q
    rcases hz with h | h | h <;> rw [h] <;> decide +kernel
theorem sc_Rules___init__ : FnScope ["self", "drop", "cut", "second"] ["self", "drop", "cut", "second"] (defScope (inClass (top 13) 0)) := ⟨rfl, rfl, rfl, by decide +kernel, rfl, by decide +kernel, by decide +kernel⟩
theorem ok_Rules___init__ (T : Tx K mg) (G_is_cut : Fg P w K mg base CX0 3 T.f_is_cut T.fd_is_cut ["thing"] (sp_is_cut K)) (G_is_drop : Fg P w K mg base CX0 3 T.f_is_drop T.fd_is_drop ["thing"] (sp_is_drop K)) (G_is_second : Fg P w K mg base CX0 1 T.f_is_second T.fd_is_second ["thing"] (sp_is_second K)) :
    Fg P w K mg base CX0 4 T.f_Rules___init__ T.fd_Rules___init__ ["self", "drop", "cut", "second"] (sp_Rules___init__ T.C_Rules K) := by
  refine fgd_of0 T.F_Rules___init__ sc_Rules___init__ (fun vs H Q E h => ?_) (fun cdv A outer s H vs Q E hr hg h => ?_)
  · obtain ⟨x, dx, a, b, z, rfl, _⟩ := h
    rfl
  · obtain ⟨x, dx, a, b, z, rfl, ⟨a0, a1, b0, b1, hz⟩, hx, q⟩ := h
    refine ⟨_, (pss_cons (ps_if (pt_not (pt_val (pg_call G_is_drop (hr.mono (by decide)) hg rfl T.m_is_drop T.F_is_drop.kp T.b_is_drop .nil pass0 (pa_cons (pv 1) pa_nil))))
    (pss_one ps_never)
    pss_nil)
    (pss_cons (ps_if (pt_not (pt_val (pg_call G_is_cut (hr.mono (by decide)) hg rfl T.m_is_cut T.F_is_cut.kp T.b_is_cut .nil pass0 (pa_cons (pv 2) pa_nil))))
    (pss_one ps_never)
    pss_nil)
    (pss_cons (ps_if (pt_not (pt_val (pg_call G_is_second (hr.mono (by decide)) hg rfl T.m_is_second T.F_is_second.kp T.b_is_second .nil pass0 (pa_cons (pv 3) pa_nil))))
    (pss_one ps_never)
    pss_nil)
    (pss_cons (ps_fld (pv 0) (pv 1) rfl)
    (pss_cons (ps_fld (pv 0) (pv 2) rfl)
    (pss_one (ps_fld (pv 0) (pv 3) rfl))))))), ?_⟩
    refine at_start (show L2.start _ [_, _, _, _] = [some _, some _, some _, some _] from rfl) ?_
    repeat' (walk_at "S")
    refine r_sfldAt hx T.cl_Rules T.na_Rules_drop (Nat.zero_lt_succ _) rfl ?_
    repeat' (walk_at "S")
    refine r_sfldAt upd_same T.cl_Rules T.na_Rules_cut (by show 1 < 1000; decide) rfl ?_
    repeat' (walk_at "S")
    refine r_sfldAt upd_same T.cl_Rules T.na_Rules_second (by show 2 < 1000; decide) rfl ?_
    repeat' (walk_at "S")
    rw [rf_put]
    refine q _ (fun b' n => by rw [upd_ne n, upd_ne n, upd_ne n]) ⟨dx, upd_same⟩
theorem sc_Rules___eq__ : FnScope ["self", "other"] ["self", "other"] (defScope (inClass (top 13) 1)) := ⟨rfl, rfl, rfl, by decide +kernel, rfl, by decide +kernel, by decide +kernel⟩
theorem ok_Rules___eq__ (T : Tx K mg)  :
    FnOk P w K mg base CX0 1 T.f_Rules___eq__ T.fd_Rules___eq__ ["self", "other"] (sp_Rules___eq__ T.C_Rules K) := by
  refine T.F_Rules___eq__.ok sc_Rules___eq__ (fun vs H Q E h => ?_) (fun cdv A outer s H vs Q E hr h => ?_)
  · obtain ⟨x, y, a, b, z, rfl, _⟩ := h
    rfl
  · obtain ⟨x, y, a, b, z, rfl, ⟨dx, hx⟩, h⟩ := h
    refine ⟨_, (pss_one (ps_ret (pe_and (pe_callB (r := rIsi K) call_isi (by rfl) T.m_isinstance (by decide +kernel) (pa_cons (pv 1) (pa_cons (pe_gref rfl T.m_Rules) pa_nil))) (pe_and (pe_cmpR (r := rSame K) (op_same hr.units) (pe_fld (pv 0) rfl) (pe_fld (pv 1) rfl) (nomark _)) (pe_and (pe_cmpR (r := rSame K) (op_same hr.units) (pe_fld (pv 0) rfl) (pe_fld (pv 1) rfl) (nomark _)) (pe_one (pe_cmpR (r := rSame K) (op_same hr.units) (pe_fld (pv 0) rfl) (pe_fld (pv 1) rfl) (nomark _)))))))), ?_⟩
    refine at_start (show L2.start _ [_, _] = [some _, some _] from rfl) ?_
    have hc0 := T.cl_Rules
    have hn1 := T.na_Rules_drop
    have hn2 := T.na_Rules_cut
    have hn3 := T.na_Rules_second
    rcases h with ⟨u, a', b', z', rfl, ⟨du, hu⟩, q⟩ | ⟨p, d, hd, q⟩
    · repeat' (walk_at "S")
      refine r_isiO T.is_Rules hu ?_
      repeat' (walk_at "S")
      all_goals (refine r_conv ?_ q; simp_all)
    · repeat' (walk_at "S")
      refine r_isiD T.is_Rules hd ?_
      repeat' (walk_at "S")
      exact q
theorem sc_Rules___repr__ : FnScope ["self"] ["self"] (defScope (inClass (top 13) 2)) := ⟨rfl, rfl, rfl, by decide +kernel, rfl, by decide +kernel, by decide +kernel⟩
theorem ok_Rules___repr__ (T : Tx K mg)  :
    FnOk P w K mg base CX0 1 T.f_Rules___repr__ T.fd_Rules___repr__ ["self"] (sp_Rules___repr__ T.C_Rules K) := by
  refine T.F_Rules___repr__.ok sc_Rules___repr__ (fun vs H Q E h => ?_) (fun cdv A outer s H vs Q E hr h => ?_)
  · obtain ⟨x, a, b, z, rfl, _⟩ := h
    rfl
  · obtain ⟨x, a, b, z, rfl, ⟨dx, hx⟩, ok, q⟩ := h
    have hc0 := T.cl_Rules
    have hn1 := T.na_Rules_drop
    have hn2 := T.na_Rules_cut
    have hn3 := T.na_Rules_second
    have zl := ok.zl
    obtain ⟨a0, a1, b0, b1, hz⟩ := ok
    have la := str_small a0 (show a ≤ 100 by omega)
    have lb := str_small b0 b1
    refine ⟨_, (pss_one (ps_ret (pe_joined (PJ.cons pe_str (PJ.cons (pe_fmt (pe_fld (pv 0) rfl)) (PJ.cons pe_str (PJ.cons (pe_fmt (pe_fld (pv 0) rfl)) (PJ.cons pe_str (PJ.cons (pe_fmt (pe_fld (pv 0) rfl)) (PJ.cons pe_str PJ.nil)))))))))), ?_⟩
    refine at_start (show L2.start _ [_] = [some _] from rfl) ?_
    repeat' (walk_at "S")
    rw [Str.empty_append]
    exact q
theorem sc__law_text : FnScope ["_law_rule_here", "_law_text_here"] ["_law_rule_here"] (defScope (top 23)) := ⟨rfl, rfl, rfl, by decide +kernel, rfl, by decide +kernel, by decide +kernel⟩
theorem ok__law_text (T : Tx K mg)  :
    Fg P w K mg base CX0 1 T.f__law_text T.fd__law_text ["_law_rule_here"] (sp__law_text K) := by
  refine fg_of0 T.F__law_text sc__law_text (fun vs H Q E h => ?_) (fun cdv A outer s H vs Q E hr hg h => ?_)
  · obtain ⟨t, a, b, z, rfl, _⟩ := h
    rfl
  · obtain ⟨t, a, b, z, rfl, ht, ok, q⟩ := h
    have zl := ok.zl
    obtain ⟨a0, a1, b0, b1, hz⟩ := ok
    have la := str_small a0 (show a ≤ 100 by omega)
    have lb := str_small b0 b1
    refine ⟨_, (pss_cons (ps_set (i := 1) sc__law_text.nd rfl (by first | exact Or.inl rfl | exact Or.inr rfl) (pe_op (r := rPlus K) op_plus (pe_op (r := rPlus K) op_plus (pe_op (r := rPlus K) op_plus pe_str (pe_callTy call_str_int (by rfl) T.m_str (by decide +kernel) (pa_cons (pe_ix (r := rIx K) ix_seq (pv 0) pe_int (fun _ _ => rfl)) pa_nil))) pe_str) (pe_callTy call_str_int (by rfl) T.m_str (by decide +kernel) (pa_cons (pe_ix (r := rIx K) ix_seq (pv 0) pe_int (fun _ _ => rfl)) pa_nil))))
    (pss_one (ps_ret (pe_op (r := rPlus K) op_plus (pe_op (r := rPlus K) op_plus (pe_op (r := rPlus K) op_plus (pv 1) pe_str) (pe_ix (r := rIx K) ix_seq (pv 0) pe_int (fun _ _ => rfl))) pe_str)))), ?_⟩
    refine at_start (show L2.start _ [_] = [some _, none] from rfl) ?_
    repeat' (walk_at "S")
    exact q
theorem sc__law_rule : FnScope ["_law_state_here", "_law_leave", "_law_loss"] ["_law_state_here"] (defScope (top 18)) := ⟨rfl, rfl, rfl, by decide +kernel, rfl, by decide +kernel, by decide +kernel⟩
theorem ok__law_rule (T : Tx K mg) (G__law_take : Fg P w K mg base CX0 1 T.f__law_take T.fd__law_take ["_law_state_here", "_law_many"] (sp__law_take K)) :
    Fg P w K mg base CX0 2 T.f__law_rule T.fd__law_rule ["_law_state_here"] (sp__law_rule K) := by
  refine fg_of0 T.F__law_rule sc__law_rule (fun vs H Q E h => ?_) (fun cdv A outer s H vs Q E hr hg h => ?_)
  · obtain ⟨p, rfl, _⟩ := h
    rfl
  · obtain ⟨p, rfl, hp, q⟩ := h
    refine ⟨_, (pss_cons (ps_par (i := 1) (j := 2) (by rfl) sc__law_rule.nd rfl rfl (by decide) rfl rfl (pa_cons (pg_call G__law_take (hr.mono (by decide)) hg rfl T.m__law_take T.F__law_take.kp T.b__law_take .nil pass0 (pa_cons (pv 0) (pa_cons pe_int pa_nil))) (pa_cons (pe_ix (r := rIx K) ix_seq (pe_lst (pa_cons pe_int (pa_cons pe_int (pa_cons (pg_call G__law_take (hr.mono (by decide)) hg rfl T.m__law_take T.F__law_take.kp T.b__law_take .nil pass0 (pa_cons (pv 0) (pa_cons pe_int pa_nil))) (pa_cons (pg_call G__law_take (hr.mono (by decide)) hg rfl T.m__law_take T.F__law_take.kp T.b__law_take .nil pass0 (pa_cons (pv 0) (pa_cons pe_int pa_nil))) pa_nil))))) (pg_call G__law_take (hr.mono (by decide)) hg rfl T.m__law_take T.F__law_take.kp T.b__law_take .nil pass0 (pa_cons (pv 0) (pa_cons pe_int pa_nil))) (fun _ _ => rfl)) pa_nil)) (by rfl))
    (pss_one (ps_ret (pe_tup (pa_cons (pv 1) (pa_cons (pv 2) (pa_cons (pe_ix (r := rIx K) ix_seq (pe_lst (pa_cons pe_str (pa_cons pe_str (pa_cons pe_str pa_nil)))) (pg_call G__law_take (hr.mono (by decide)) hg rfl T.m__law_take T.F__law_take.kp T.b__law_take .nil pass0 (pa_cons (pv 0) (pa_cons pe_int pa_nil))) (fun _ _ => rfl)) pa_nil))))))), ?_⟩
    refine at_start (show L2.start _ [_] = [some _, none, none] from rfl) ?_
    repeat' (walk_at "S")
    rename_i r0 H0 a0 a1 k0 d0 r1 H1 b0 b1 k1 d1 r2 H2 c0 c1 k2 d2 l nl r3 H3 e0 e1 k3 d3 zz hzz l2 nl2 r4 H4 g0 g1 k4 d4 zs hzs t nt
    exact q _ _ _ _ _ (by walk_at "KP") (by walk_at "DR") (by walk_at "NE") upd_same ⟨a0, by omega, by omega, by omega, hzs⟩
theorem sc__law_made : FnScope ["_law_rule_here"] ["_law_rule_here"] (defScope (top 19)) := ⟨rfl, rfl, rfl, by decide +kernel, rfl, by decide +kernel, by decide +kernel⟩
theorem ok__law_made (T : Tx K mg) (G_Rules___init__ : Fg P w K mg base CX0 4 T.f_Rules___init__ T.fd_Rules___init__ ["self", "drop", "cut", "second"] (sp_Rules___init__ T.C_Rules K)) :
    Fg P w K mg base CX0 6 T.f__law_made T.fd__law_made ["_law_rule_here"] (sp__law_made T.C_Rules K) := by
  refine fg_of0 T.F__law_made sc__law_made (fun vs H Q E h => ?_) (fun cdv A outer s H vs Q E hr hg h => ?_)
  · obtain ⟨t, a, b, z, rfl, _⟩ := h
    rfl
  · obtain ⟨t, a, b, z, rfl, ht, ok, q⟩ := h
    refine ⟨_, (pss_one (ps_ret (pg_makeN0 T.M_Rules G_Rules___init__ (hr.mono (by decide)) hg rfl T.m_Rules T.k1_Rules___init___drop_cut_second pass0 (pk_cons (pe_ix (r := rIx K) ix_seq (pv 0) pe_int (fun _ _ => rfl)) (pk_cons (pe_ix (r := rIx K) ix_seq (pv 0) pe_int (fun _ _ => rfl)) (pk_cons (pe_ix (r := rIx K) ix_seq (pv 0) pe_int (fun _ _ => rfl)) pk_nil)))))), ?_⟩
    refine at_start (show L2.start _ [_] = [some _] from rfl) ?_
    repeat' (walk_at "S")
    intro x dx hx hdx ne
    refine ⟨x, dx, a, b, z, rfl, ok, upd_same, ?_⟩
    intro H' hsame ru
    have hold : ∀ b' o, H b' = some o → H' b' = some o := fun b' o e => by
      rw [hsame _ (ne_of_none e hx), upd_ne (ne_of_none e hx), upd_ne (ne_of_none e hdx)]
      exact e
    exact ⟨rfl, q x H' hold hx ru⟩
end
local macro_rules | `(tactic| walk_at "S") => `(tactic| first
  | ((with_reducible refine' r_plusTU ?h ?k ?e ?_); (case h => walk_at "G"); (case k => walk_at "G"); (case e => walk_at "AR"); intro _ _ _ _)
  | ((with_reducible refine' r_cut3a ?h ?e1 ?e2 ?_); (case h => walk_at "G"); (case e1 => exact rfl); (case e2 => exact rfl); intro _ _ _ _)
  | ((with_reducible refine' r_cut3b ?h ?e1 ?e2 ?_); (case h => walk_at "G"); (case e1 => exact rfl); (case e2 => exact rfl); intro _ _ _ _)
  | ((with_reducible refine' r_cut3c ?h ?e1 ?e2 ?_); (case h => walk_at "G"); (case e1 => exact rfl); (case e2 => exact rfl); intro _ _ _ _)
  | ((with_reducible refine' r_cut3d ?h ?e1 ?e2 ?_); (case h => walk_at "G"); (case e1 => exact rfl); (case e2 => exact rfl); intro _ _ _ _)
  | ((with_reducible refine' r_cut3e ?h ?e1 ?e2 ?_); (case h => walk_at "G"); (case e1 => exact rfl); (case e2 => exact rfl); intro _ _ _ _)
  | ((with_reducible refine' r_cut3f ?h ?e1 ?e2 ?_); (case h => walk_at "G"); (case e1 => exact rfl); (case e2 => exact rfl); intro _ _ _ _)
  | fail)
section
variable {P : Program} {w : World} {K : PySem.W.Frag} {mg : Str → Option Value} {base : Heap}
theorem sc__law_other : FnScope ["_law_state_here", "_law_rule_here", "_law_place", "_law_other_here"] ["_law_state_here", "_law_rule_here"] (defScope (top 22)) := ⟨rfl, rfl, rfl, by decide +kernel, rfl, by decide +kernel, by decide +kernel⟩
theorem ok__law_other (T : Tx K mg) (G__law_rule : Fg P w K mg base CX0 2 T.f__law_rule T.fd__law_rule ["_law_state_here"] (sp__law_rule K)) (G__law_take : Fg P w K mg base CX0 1 T.f__law_take T.fd__law_take ["_law_state_here", "_law_many"] (sp__law_take K)) :
    Fg P w K mg base CX0 3 T.f__law_other T.fd__law_other ["_law_state_here", "_law_rule_here"] (sp__law_other K) := by
  refine fg_of0 T.F__law_other sc__law_other (fun vs H Q E h => ?_) (fun cdv A outer s H vs Q E hr hg h => ?_)
  · obtain ⟨p, t, a, b, z, rfl, _⟩ := h
    rfl
  · obtain ⟨p, t, a, b, z, rfl, hp, ntp, ht, ok, q⟩ := h
    refine ⟨_, (pss_cons (ps_par (i := 2) (j := 3) (by rfl) sc__law_other.nd rfl rfl (by decide) rfl rfl (pa_cons (pg_call G__law_take (hr.mono (by decide)) hg rfl T.m__law_take T.F__law_take.kp T.b__law_take .nil pass0 (pa_cons (pv 0) (pa_cons pe_int pa_nil))) (pa_cons (pg_call G__law_rule (hr.mono (by decide)) hg rfl T.m__law_rule T.F__law_rule.kp T.b__law_rule .nil pass0 (pa_cons (pv 0) pa_nil)) pa_nil)) (by rfl))
    (pss_cons (ps_if (pt_cmpR (r := rSame K) (op_same hr.units) (pv 2) pe_int (nomark _))
    (pss_one (ps_ret (pe_ix (r := rIx K) ix_seq (pe_lst (pa_cons (pv 1) (pa_cons (pv 3) pa_nil))) (pg_call G__law_take (hr.mono (by decide)) hg rfl T.m__law_take T.F__law_take.kp T.b__law_take .nil pass0 (pa_cons (pv 0) (pa_cons pe_int pa_nil))) (fun _ _ => rfl))))
    pss_nil)
    (pss_one (ps_ret (pe_op (r := rPlus K) op_plus (pe_op (r := rPlus K) op_plus (pe_slice (r := rCut K) sl_cut (pv 1) po_none (po_some (pv 2))) (pe_tup (pa_cons (pe_ix (r := rIx K) ix_seq (pv 3) (pv 2) (fun _ _ => rfl)) pa_nil))) (pe_slice (r := rCut K) sl_cut (pv 1) (po_some (pe_op (r := rPlus K) op_plus (pv 2) pe_int)) po_none)))))), ?_⟩
    refine at_start (show L2.start _ [_, _] = [some _, some _, none, none] from rfl) ?_
    repeat' (walk_at "S")
    · rename_i pl H1 l0 l1 k1 d1 t2 a2 b2 z2 H2 k2 d2 n2 g2 ok2 hc l nl r H3 r0 r1 k3 d3
      refine r_pickL (xs := [.ref t, .ref t2]) (by walk_at "G") r0 (by walk_at "AR") ?_
      intro v hv
      simp only [List.mem_cons, List.not_mem_nil, or_false] at hv
      rcases hv with h | h <;> rw [h]
      · exact q _ _ _ _ _ (by walk_at "KP") d3 ntp (by walk_at "G") ok
      · exact q _ _ _ _ _ (by walk_at "KP") d3 n2 (by walk_at "G") ok2
    · rename_i pl H1 l0 l1 k1 d1 t2 a2 b2 z2 H2 k2 d2 n2 g2 ok2 hc
      have ht2 : H2 t = some (.tup [.int a, .int b, .str z]) := by walk_at "G"
      have kp2 : Keep p H H2 := by walk_at "KP"
      obtain ⟨a0, a1, b0, b1, hz⟩ := ok
      obtain ⟨a0', a1', b0', b1', hz'⟩ := ok2
      obtain rfl | rfl | rfl : pl = 0 ∨ pl = 1 ∨ pl = 2 := by omega
      all_goals repeat' (walk_at "S")
      all_goals (rename_i t9 H9 s9 g9; have d9 : Dr p H9 := by walk_at "DR")
      all_goals refine q t9 _ _ _ H9 (by walk_at "KP") d9 (Dr.neT d9 g9) g9 ⟨?_, ?_, ?_, ?_, ?_⟩
      all_goals assumption
end
section
variable {K : PySem.W.Frag} {H : Hp} {Q : VK} {E : XK} {C x y p t : Addr} {a b a' b' : Int} {z z' : Str} {v : V} {d : PyData}
theorem r_eqOO (r1 : Ru C H x a b z) (r2 : Ru C H y a' b' z') (q : Q (.bl (decide (a = a' ∧ b = b' ∧ z = z'))) H) : rOwnEq C (sp_Rules___eq__ C K) E (.ref x) (.ref y) H Q := by
  obtain ⟨dx, h1⟩ := r1.at_
  obtain ⟨dy, h2⟩ := r2.at_
  exact .inl ⟨x, dx, _, rfl, h1, .inl ⟨y, dy, _, rfl, h2⟩, x, .ref y, a, b, z, rfl, r1, .inl ⟨y, a', b', z', rfl, r2, _, rfl, q⟩⟩
theorem r_eqOD (r1 : Ru C H x a b z) (hd : Dt H p v d) (q : Q (.bl false) H) : rOwnEq C (sp_Rules___eq__ C K) E (.ref x) v H Q := by
  obtain ⟨dx, h1⟩ := r1.at_
  exact .inl ⟨x, dx, _, rfl, h1, .inr ⟨p, d, hd⟩, x, v, a, b, z, rfl, r1, .inr ⟨p, d, hd, _, rfl, q⟩⟩
theorem r_eqDO (r1 : Ru C H x a b z) (hd : Dt H p v d) (q : Q (.bl false) H) : rOwnEq C (sp_Rules___eq__ C K) E v (.ref x) H Q := by
  obtain ⟨dx, h1⟩ := r1.at_
  exact .inr ⟨x, dx, _, p, d, rfl, h1, hd, x, v, a, b, z, rfl, r1, .inr ⟨p, d, hd, _, rfl, q⟩⟩
theorem r_neOO (r1 : Ru C H x a b z) (r2 : Ru C H y a' b' z') (q : Q (.bl (!decide (a = a' ∧ b = b' ∧ z = z'))) H) : rOwnNe C (sp_Rules___eq__ C K) E (.ref x) (.ref y) H Q := by
  obtain ⟨dx, h1⟩ := r1.at_
  obtain ⟨dy, h2⟩ := r2.at_
  exact ⟨x, dx, _, rfl, h1, .inl ⟨y, dy, _, rfl, h2⟩, x, .ref y, a, b, z, rfl, r1, .inl ⟨y, a', b', z', rfl, r2, _, rfl, q⟩⟩
theorem r_neOD (r1 : Ru C H x a b z) (hd : Dt H p v d) (q : Q (.bl true) H) : rOwnNe C (sp_Rules___eq__ C K) E (.ref x) v H Q := by
  obtain ⟨dx, h1⟩ := r1.at_
  exact ⟨x, dx, _, rfl, h1, .inr ⟨p, d, hd⟩, x, v, a, b, z, rfl, r1, .inr ⟨p, d, hd, _, rfl, q⟩⟩
theorem r_reprO (r1 : Ru C H x a b z) (ok : RuOk a b z) (q : Q (.str (ruleText a b z)) H) : rReprO C (sp_Rules___repr__ C K) E [.ref x] H Q := by
  obtain ⟨dx, h1⟩ := r1.at_
  exact ⟨x, dx, _, rfl, h1, x, a, b, z, rfl, r1, ok, _, rfl, q⟩
theorem text_len (ok : RuOk a b z) : (ruleText a b z).length ≤ 100 := by
  have zl := ok.zl
  obtain ⟨a0, a1, b0, b1, hz⟩ := ok
  have la := str_small a0 (show a ≤ 100 by omega)
  have lb := str_small b0 b1
  unfold ruleText
  simp only [strLen_append, ln0, ln1, ln2, ln3, ln4, ln5, ln6]
  omega
theorem two_text (s1 s2 : Str) : tupleText [s1, s2] = ((((("(" : Str) ++ s1) ++ (", " : Str)) ++ s2) ++ (")" : Str)) := by
  show (("(" : Str) ++ (s1 ++ (", " : Str) ++ s2)) ++ (")" : Str) = _
  simp only [Str.append_assoc]
theorem r_reprT (ht : H t = some (.tup [.ref x, .ref y])) (r1 : Ru C H x a b z) (r2 : Ru C H y a' b' z') (ok : RuOk a b z) (ok' : RuOk a' b' z')
    (q : Q (.str ((((("(" : Str) ++ ruleText a b z) ++ (", " : Str)) ++ ruleText a' b' z') ++ (")" : Str))) H) : rReprT K C (sp_Rules___repr__ C K) E [.ref t] H Q := by
  obtain ⟨dx, h1⟩ := r1.at_
  obtain ⟨dy, h2⟩ := r2.at_
  refine ⟨t, _, [ruleText a b z, ruleText a' b' z'], rfl, ht, .cons ⟨x, dx, _, rfl, h1, x, a, b, z, rfl, r1, ok, rfl, rfl⟩ (.cons ⟨y, dy, _, rfl, h2, y, a', b', z', rfl, r2, ok', rfl, rfl⟩ .nil), ?_, ?_⟩
  · rw [two_text]
    have l1 := text_len ok
    have l2 := text_len ok'
    rw [sizeLine_eq]
    simp only [strLen_append, ln0, ln1, ln2, ln3, ln4, ln5, ln6]
    omega
  · rw [two_text]
    exact q
theorem fit_b4 {a b c d : Bool} : Fit 60 60000 (.list [.bool a, .bool b, .bool c, .bool d]) := ⟨rfl, rfl, Nat.le_of_ble_eq_true rfl, Nat.le_of_ble_eq_true rfl⟩
theorem fit_b3 {a b c : Bool} : Fit 60 60000 (.list [.bool a, .bool b, .bool c]) := ⟨rfl, rfl, Nat.le_of_ble_eq_true rfl, Nat.le_of_ble_eq_true rfl⟩
theorem Ru.neD {p x : Addr} (r : Ru C H x a b z) (d : Dr p H) : x ≠ p := by
  intro e
  obtain ⟨dx, h⟩ := r.at_
  obtain ⟨i, j, g, _⟩ := d
  rw [e, g] at h
  cases h
end
theorem r_isTrue {b : Bool} {P : Bool → Prop} (e : b = true) (q : P true) : ∃ c, V.bl b = V.bl c ∧ P c := ⟨b, rfl, by rw [e]; exact q⟩
theorem Ru.newF {C : Addr} {H : Hp} {x q : Addr} {a b : Int} {z : Str} {o : HO} (r : Ru C H x a b z) (n : Fre H q) : Ru C (upd H q o) x a b z := r.mono fun u e => g_newF n e
theorem Ru.same {C : Addr} {H H' : Hp} {x : Addr} {a b : Int} {z : Str} (r : Ru C H x a b z) (s : Same H H') : Ru C H' x a b z := r.mono fun u e => s _ _ e
theorem Ru.keep {C p : Addr} {H H' : Hp} {x : Addr} {a b : Int} {z : Str} (r : Ru C H x a b z) (n : x ≠ p) (k : Keep p H H') : Ru C H' x a b z := r.mono fun u e => k _ _ n e
local macro_rules | `(tactic| walk_at "RU") => `(tactic| first
  | with_reducible assumption
  | ((first
    | ((with_reducible refine' Ru.newF ?r ?n); (case n => with_reducible assumption))
    | (refine' Ru.same ?r ?s; (case s => with_reducible assumption))
    | (refine' Ru.keep ?r ?n ?k; (case k => with_reducible assumption); (case n => with_reducible assumption))); (case r => walk_at "RU")))
local macro_rules | `(tactic| walk_at "S") => `(tactic| first
  | ((with_reducible refine' r_sameT3 ?h ?k ?z ?y ?_); (case h => walk_at "G"); (case k => walk_at "G"); (case z => exact RuOk.zk (by assumption)); (case y => exact RuOk.zk (by assumption)))
  | ((with_reducible refine' r_unlikeT3 ?h ?k ?z ?y ?_); (case h => walk_at "G"); (case k => walk_at "G"); (case z => exact RuOk.zk (by assumption)); (case y => exact RuOk.zk (by assumption)))
  | ((with_reducible refine' r_timesL ?h ?k ?l ?m ?_); (case h => walk_at "G"); (case k => decide); (case l => decide); (case m => walk_at "AR"))
  | ((with_reducible refine' r_eqOO ?h ?k ?_); (case h => walk_at "RU"); (case k => walk_at "RU"))
  | ((with_reducible refine' r_neOO ?h ?k ?_); (case h => walk_at "RU"); (case k => walk_at "RU"))
  | ((with_reducible refine' r_eqOD ?h ?k ?_); (case h => walk_at "RU"); (case k => walk_at "DT"))
  | ((with_reducible refine' r_eqDO ?h ?k ?_); (case h => walk_at "RU"); (case k => walk_at "DT"))
  | ((with_reducible refine' r_neOD ?h ?k ?_); (case h => walk_at "RU"); (case k => walk_at "DT"))
  | ((with_reducible refine' r_reprO ?h ?k ?_); (case h => walk_at "RU"); (case k => assumption))
  | ((with_reducible refine' r_reprT ?h ?k ?l ?m ?n ?_); (case h => walk_at "G"); (case k => walk_at "RU"); (case l => walk_at "RU"); (case m => assumption); (case n => assumption))
  | fail)
section
variable {P : Program} {w : World} {K : PySem.W.Frag} {mg : Str → Option Value} {base : Heap}
theorem sc_law : FnScope ["_law_script", "_law_k", "_law_state_here", "_law_turn", "_law_rule_here", "_law_mate", "_law_one", "_law_two", "_law_due", "_law_thing"] ["_law_script"] (defScope (top 24)) := ⟨rfl, rfl, rfl, by decide +kernel, rfl, by decide +kernel, by decide +kernel⟩
theorem ok_law (T : Tx K mg) (G_Rules___eq__ : FnOk P w K mg base CX0 1 T.f_Rules___eq__ T.fd_Rules___eq__ ["self", "other"] (sp_Rules___eq__ T.C_Rules K)) (G_Rules___repr__ : FnOk P w K mg base CX0 1 T.f_Rules___repr__ T.fd_Rules___repr__ ["self"] (sp_Rules___repr__ T.C_Rules K)) (G__law_made : Fg P w K mg base CX0 6 T.f__law_made T.fd__law_made ["_law_rule_here"] (sp__law_made T.C_Rules K)) (G__law_odd : Fg P w K mg base CX0 2 T.f__law_odd T.fd__law_odd ["_law_state_here"] (sp__law_odd K)) (G__law_other : Fg P w K mg base CX0 3 T.f__law_other T.fd__law_other ["_law_state_here", "_law_rule_here"] (sp__law_other K)) (G__law_rule : Fg P w K mg base CX0 2 T.f__law_rule T.fd__law_rule ["_law_state_here"] (sp__law_rule K)) (G__law_same : Fg P w K mg base CX0 1 T.f__law_same T.fd__law_same ["_law_found", "_law_due"] (sp__law_same K)) (G__law_state : Fg P w K mg base CX0 2 T.f__law_state T.fd__law_state ["_law_script", "_law_k"] (sp__law_state K)) (G__law_text : Fg P w K mg base CX0 1 T.f__law_text T.fd__law_text ["_law_rule_here"] (sp__law_text K)) :
    Fg P w K mg base CX0 7 T.f_law T.fd_law ["_law_script"] (sp_law K) := by
  refine fg_of0 T.F_law sc_law (fun vs H Q E h => ?_) (fun cdv A outer s H vs Q E hr hg h => ?_)
  · obtain ⟨a, ns, rfl, _⟩ := h
    rfl
  · obtain ⟨a, ns, rfl, hs, hl, q⟩ := h
    refine ⟨_, (pss_cons (ps_for PassesOwn.never rfl (pi_range1 rfl T.m_range (pa_cons (pe_callB (call_most rfl) (by rfl) T.m_max (by decide +kernel) (pa_cons pe_int (pa_cons (pe_callB (call_least rfl) (by rfl) T.m_min (by decide +kernel) (pa_cons (pe_callB (r := rLen K) call_size (by rfl) T.m_len (by decide +kernel) (pa_cons (pv 0) pa_nil)) (pa_cons pe_int pa_nil))) pa_nil))) pa_nil)) (pg_name (i := 1) sc_law.nd rfl (by first | exact Or.inl rfl | exact Or.inr rfl))
    (pss_cons (ps_set (i := 2) sc_law.nd rfl (by first | exact Or.inl rfl | exact Or.inr rfl) (pg_call G__law_state (hr.mono (by decide)) hg rfl T.m__law_state T.F__law_state.kp T.b__law_state .nil pass0 (pa_cons (pv 0) (pa_cons (pv 1) pa_nil))))
    (pss_one (ps_for PassesOwn.never rfl (pi_range1 rfl T.m_range (pa_cons pe_int pa_nil)) (pg_name (i := 3) sc_law.nd rfl (by first | exact Or.inl rfl | exact Or.inr rfl))
    (pss_cons (ps_set (i := 4) sc_law.nd rfl (by first | exact Or.inl rfl | exact Or.inr rfl) (pg_call G__law_rule (hr.mono (by decide)) hg rfl T.m__law_rule T.F__law_rule.kp T.b__law_rule .nil pass0 (pa_cons (pv 2) pa_nil)))
    (pss_cons (ps_set (i := 5) sc_law.nd rfl (by first | exact Or.inl rfl | exact Or.inr rfl) (pg_call G__law_other (hr.mono (by decide)) hg rfl T.m__law_other T.F__law_other.kp T.b__law_other .nil pass0 (pa_cons (pv 2) (pa_cons (pv 4) pa_nil))))
    (pss_cons (ps_par (i := 6) (j := 7) (by rfl) sc_law.nd rfl rfl (by decide) rfl rfl (pa_cons (pg_call G__law_made (hr.mono (by decide)) hg rfl T.m__law_made T.F__law_made.kp T.b__law_made .nil pass0 (pa_cons (pv 4) pa_nil)) (pa_cons (pg_call G__law_made (hr.mono (by decide)) hg rfl T.m__law_made T.F__law_made.kp T.b__law_made .nil pass0 (pa_cons (pv 5) pa_nil)) pa_nil)) (by rfl))
    (pss_cons (ps_set (i := 8) sc_law.nd rfl (by first | exact Or.inl rfl | exact Or.inr rfl) (pe_op (r := rPlus K) op_plus (pe_op (r := rTimes K) op_times (pe_lst (pa_cons (pe_cmpR (r := rSame K) (op_same hr.units) (pv 4) (pv 5) (nomark _)) pa_nil)) pe_int) (pe_lst (pa_cons (pe_cmpR (r := rUnlike K) (op_unlike hr.units) (pv 4) (pv 5) (nomark _)) (pa_cons pe_bl pa_nil)))))
    (pss_cons (ps_if (pt_not (pt_val (pg_call G__law_same (hr.mono (by decide)) hg rfl T.m__law_same T.F__law_same.kp T.b__law_same .nil pass0 (pa_cons (pe_lst (pa_cons (pe_cmpR (op_ownEq G_Rules___eq__ (hr.mono (by decide)) T.O_Rules T.b_Rules___eq__ pass0) (pv 6) (pv 7) (nomark _)) (pa_cons (pe_cmpR (op_ownEq G_Rules___eq__ (hr.mono (by decide)) T.O_Rules T.b_Rules___eq__ pass0) (pv 7) (pv 6) (nomark _)) (pa_cons (pe_cmpR (op_ownNe G_Rules___eq__ (hr.mono (by decide)) T.O_Rules T.b_Rules___eq__ pass0) (pv 6) (pv 7) (nomark _)) (pa_cons (pe_cmpR (op_ownEq G_Rules___eq__ (hr.mono (by decide)) T.O_Rules T.b_Rules___eq__ pass0) (pv 6) (pv 6) (nomark _)) pa_nil))))) (pa_cons (pv 8) pa_nil)))))
    (pss_one (ps_ret pe_bl))
    pss_nil)
    (pss_cons (ps_for PassesOwn.never rfl (pi_list (pe_lst (pa_cons (pv 4) (pa_cons (pe_callTy (r := rListOf K) call_listed (by rfl) T.m_list (by decide +kernel) (pa_cons (pv 4) pa_nil)) (pa_cons (pe_callB (call_reprO G_Rules___repr__ (hr.mono (by decide)) T.rp_Rules T.rf_Rules T.b_Rules___repr__ pass0) (by rfl) T.m_repr (by decide +kernel) (pa_cons (pv 6) pa_nil)) (pa_cons (pg_call G__law_odd (hr.mono (by decide)) hg rfl T.m__law_odd T.F__law_odd.kp T.b__law_odd .nil pass0 (pa_cons (pv 2) pa_nil)) (pa_cons pe_non pa_nil))))))) (pg_name (i := 9) sc_law.nd rfl (by first | exact Or.inl rfl | exact Or.inr rfl))
    (pss_one (ps_if (pt_not (pt_val (pg_call G__law_same (hr.mono (by decide)) hg rfl T.m__law_same T.F__law_same.kp T.b__law_same .nil pass0 (pa_cons (pe_lst (pa_cons (pe_cmpR (op_ownEq G_Rules___eq__ (hr.mono (by decide)) T.O_Rules T.b_Rules___eq__ pass0) (pv 6) (pv 9) (nomark _)) (pa_cons (pe_cmpR (op_ownEq G_Rules___eq__ (hr.mono (by decide)) T.O_Rules T.b_Rules___eq__ pass0) (pv 9) (pv 6) (nomark _)) (pa_cons (pe_cmpR (op_ownNe G_Rules___eq__ (hr.mono (by decide)) T.O_Rules T.b_Rules___eq__ pass0) (pv 6) (pv 9) (nomark _)) pa_nil)))) (pa_cons (pe_lst (pa_cons pe_bl (pa_cons pe_bl (pa_cons pe_bl pa_nil)))) pa_nil)))))
    (pss_one (ps_ret pe_bl))
    pss_nil)))
    (pss_cons (ps_set (i := 8) sc_law.nd rfl (by first | exact Or.inl rfl | exact Or.inr rfl) (pe_op (r := rPlus K) op_plus (pe_op (r := rPlus K) op_plus (pe_op (r := rPlus K) op_plus (pe_op (r := rPlus K) op_plus pe_str (pg_call G__law_text (hr.mono (by decide)) hg rfl T.m__law_text T.F__law_text.kp T.b__law_text .nil pass0 (pa_cons (pv 4) pa_nil))) pe_str) (pg_call G__law_text (hr.mono (by decide)) hg rfl T.m__law_text T.F__law_text.kp T.b__law_text .nil pass0 (pa_cons (pv 5) pa_nil))) pe_str))
    (pss_one (ps_if (PW.pt (pw_or (pt_cmpR (r := rUnlike K) (op_unlike hr.units) (pe_callB (call_reprO G_Rules___repr__ (hr.mono (by decide)) T.rp_Rules T.rf_Rules T.b_Rules___repr__ pass0) (by rfl) T.m_repr (by decide +kernel) (pa_cons (pv 6) pa_nil)) (pg_call G__law_text (hr.mono (by decide)) hg rfl T.m__law_text T.F__law_text.kp T.b__law_text .nil pass0 (pa_cons (pv 4) pa_nil)) (nomark _)) (pw_or1 (pt_cmpR (r := rUnlike K) (op_unlike hr.units) (pe_callB (call_reprT G_Rules___repr__ (hr.mono (by decide)) hg T.rp_Rules T.rf_Rules T.b_Rules___repr__ pass0) (by rfl) T.m_repr (by decide +kernel) (pa_cons (pe_tup (pa_cons (pv 6) (pa_cons (pv 7) pa_nil))) pa_nil)) (pv 8) (nomark _)))))
    (pss_one (ps_ret pe_bl))
    pss_nil)))))))))))))
    (pss_one (ps_ret pe_bl))), ?_⟩
    refine at_start (show L2.start _ [_] = [some _, none, none, none, none, none, none, none, none, none] from rfl) ?_
    repeat' (walk_at "S")
    refine for_rng (fun i σ H' => ∃ v1 v2 v3 v4 v5 v6 v7 v8 v9, σ = [some (.ref a), v1, v2, v3, v4, v5, v6, v7, v8, v9] ∧ Same H H') ⟨_, _, _, _, _, _, _, _, _, rfl, Same.refl H⟩ ?_ ?_
    · rintro i σ H1 hi ⟨v1, v2, v3, v4, v5, v6, v7, v8, v9, rfl, s1⟩
      have hs1 : SqL K H1 a (ns.map V.int) := sql_same s1 hs
      have hi0 : 0 ≤ (0 : Int) + (i : Int) := by omega
      repeat' (walk_at "S")
      rename_i p H2 np s2 d2
      have mk : Mark p := ⟨⟩
      refine for_rng (fun j σ H' => ∃ v1 v3 v4 v5 v6 v7 v8 v9, σ = [some (.ref a), v1, some (.ref p), v3, v4, v5, v6, v7, v8, v9] ∧ Keep p H2 H' ∧ Dr p H') ⟨_, _, _, _, _, _, _, _, rfl, Keep.refl _ _, d2⟩ ?_ ?_
      · rintro j σ H3 hj ⟨v1, v3, v4, v5, v6, v7, v8, v9, rfl, k3, d3⟩
        repeat' (walk_at "S")
        rename_i t a1 b1 z1 H4 k4 d4 nt ht ok1 t' a2 b2 z2 H5 k5 d5 nt' ht' ok2 x H6 s6 nx ru1 y H7 s7 ny ru2 l1 nl1 l2 nl2 l3 nl3
        have ru1' : Ru T.C_Rules H7 x a1 b1 z1 := ru1.mono fun o e => s7 _ _ e
        clear ru1 nx ny
        have d7 : Dr p H7 := by walk_at "DR"
        have nxp : x ≠ p := ru1'.neD d7
        have nyp : y ≠ p := ru2.neD d7
        have ht7 : H7 t = some (.tup [.int a1, .int b1, .str z1]) := by walk_at "G"
        have ht7' : H7 t' = some (.tup [.int a2, .int b2, .str z2]) := by walk_at "G"
        have k7 : Keep p H2 H7 := by walk_at "KP"
        have e2 : (List.replicate (Int.toNat 2) [V.bl (decide (a1 = a2 ∧ b1 = b2 ∧ z1 = z2))]).flatten = [V.bl (decide (a1 = a2 ∧ b1 = b2 ∧ z1 = z2)), V.bl (decide (a1 = a2 ∧ b1 = b2 ∧ z1 = z2))] := rfl
        rw [e2] at nl3 ⊢
        repeat' (walk_at "S")
        rename_i l4 nl4 l5 nl5
        have d10 := ((d7.new (o := .lst [V.bl (decide (a1 = a2 ∧ b1 = b2 ∧ z1 = z2))]) nl1).new (o := .lst [V.bl (decide (a1 = a2 ∧ b1 = b2 ∧ z1 = z2)), V.bl (decide (a1 = a2 ∧ b1 = b2 ∧ z1 = z2))]) nl2).new (o := .lst [V.bl !decide (a1 = a2 ∧ b1 = b2 ∧ z1 = z2), V.bl true]) nl3
        have d11 := d10.new (o := .lst ([V.bl (decide (a1 = a2 ∧ b1 = b2 ∧ z1 = z2)), V.bl (decide (a1 = a2 ∧ b1 = b2 ∧ z1 = z2))] ++ [V.bl !decide (a1 = a2 ∧ b1 = b2 ∧ z1 = z2), V.bl true])) nl4
        have n4 : l4 ≠ p := d10.ne nl4
        have n5 : l5 ≠ p := d11.ne nl5
        have e3 : decide (a2 = a1 ∧ b2 = b1 ∧ z2 = z1) = decide (a1 = a2 ∧ b1 = b2 ∧ z1 = z2) := by
          exact decide_eq_decide.mpr ⟨fun h => ⟨h.1.symm, h.2.1.symm, h.2.2.symm⟩, fun h => ⟨h.1.symm, h.2.1.symm, h.2.2.symm⟩⟩
        refine c__law_same mk (d := .list [.bool _, .bool _, .bool _, .bool _]) (e := .list [.bool _, .bool _, .bool _, .bool _])
          (Dt.there n5 upd_same (.lst (.cons (.bl _) (.cons (.bl _) (.cons (.bl _) (.cons (.bl _) .nil))))))
          (Dt.there n4 (g_newF nl5 upd_same) (.lst (.cons (.bl _) (.cons (.bl _) (.cons (.bl _) (.cons (.bl _) .nil)))))) fit_b4 fit_b4 ?_
        refine r_isTrue ?e5 ?_
        case e5 =>
          apply decide_eq_true
          rw [e3]
          simp
        repeat' (walk_at "S")
        rename_i l6 nl6 vo do_ H8 k8 d8 dtu dto fo l7 nl7
        clear dtu
        have n6 : l6 ≠ p := (d11.new nl5).ne nl6
        have n7 : l7 ≠ p := d8.ne nl7
        have k78 : Keep p H7 H8 := (((((((Keep.refl p H7).newF nl1).newF nl2).newF nl3).newF nl4).newF nl5).newF nl6).trans k8
        have h6 : H8 l6 = some (.lst [.int a1, .int b1, .str z1]) := k8 _ _ n6 upd_same
        have dl0 : Dr p (upd H8 l7 (HO.lst [V.ref t, V.ref l6, V.str (ruleText a1 b1 z1), vo, V.non])) := d8.new nl7
        have kl0 : Keep p H8 (upd H8 l7 (HO.lst [V.ref t, V.ref l6, V.str (ruleText a1 b1 z1), vo, V.non])) := (Keep.refl p H8).newF nl7
        have hL0 : (upd H8 l7 (HO.lst [V.ref t, V.ref l6, V.str (ruleText a1 b1 z1), vo, V.non])) l7 = some (HO.lst [V.ref t, V.ref l6, V.str (ruleText a1 b1 z1), vo, V.non]) := upd_same
        generalize upd H8 l7 (HO.lst [V.ref t, V.ref l6, V.str (ruleText a1 b1 z1), vo, V.non]) = Hl at dl0 kl0 hL0 ⊢
        have k7l := k78.trans kl0
        have rux := ru1'.keep nxp k7l
        have ruy := ru2.keep nyp k7l
        have htl := k7l _ _ nt ht7
        have htl' := k7l _ _ nt' ht7'
        have tl1 := text_len ok1
        have tl2 := text_len ok2
        have dall : DtAll Hl p [V.ref t, V.ref l6, V.str (ruleText a1 b1 z1), vo, V.non] [.tuple [.int a1, .int b1, .str z1], .list [.int a1, .int b1, .str z1], .str (ruleText a1 b1 z1), do_, .none] :=
          .cons (Dt.tup nt htl (.cons (.int _) (.cons (.int _) (.cons (.str _) .nil)))) (.cons (Dt.there n6 (kl0 _ _ n6 h6) (.lst (.cons (.int _) (.cons (.int _) (.cons (.str _) .nil))))) (.cons (.str _) (.cons (dto.keep kl0) (.cons .non .nil))))
        clear nl1 nl2 nl3 nl4 nl5 nl6 nl7 k8 d8 d10 d11
        refine for_lst (xs := [V.ref t, V.ref l6, V.str (ruleText a1 b1 z1), vo, V.non]) (fun i σ H' => ∃ v9, σ = [some (.ref a), v1, some (.ref p), some (.int (0 + (j : Int))), some (.ref t), some (.ref t'), some (.ref x), some (.ref y), some (.ref l4), v9] ∧ Keep p Hl H' ∧ Dr p H')
          ⟨_, rfl, Keep.refl _ _, dl0⟩ (fun _ _ _ _ ⟨_, _, k, _⟩ => SqL.of (k _ _ n7 hL0)) ?_ ?_
        · rintro i' z' σ H' hz ⟨v9, rfl, kz, dz⟩
          obtain ⟨dd, hdd, dzz⟩ := dall.get hz
          have dq := dzz.keep kz
          have rx := rux.keep nxp kz
          repeat' (walk_at "S")
          rename_i l8 nl8 l9 nl9
          have n8 : l8 ≠ p := dz.ne nl8
          have n9 : l9 ≠ p := (dz.new nl8).ne nl9
          refine c__law_same mk (d := .list [.bool _, .bool _, .bool _]) (e := .list [.bool _, .bool _, .bool _])
            (Dt.there n8 (g_newF nl9 upd_same) (.lst (.cons (.bl _) (.cons (.bl _) (.cons (.bl _) .nil)))))
            (Dt.there n9 upd_same (.lst (.cons (.bl _) (.cons (.bl _) (.cons (.bl _) .nil))))) fit_b3 fit_b3 ?_
          refine r_isTrue (decide_eq_true rfl) ?_
          repeat' (walk_at "S")
          exact ⟨_, rfl, (kz.newF nl8).newF nl9, (dz.new nl8).new nl9⟩
        · rintro σ H' ⟨v9, rfl, kz, dz⟩
          have rx := rux.keep nxp kz
          have ry := ruy.keep nyp kz
          have htz := kz _ _ nt htl
          have htz' := kz _ _ nt' htl'
          repeat' (walk_at "S")
          · exfalso
            rename_i hc
            simp at hc
          · rename_i hc lt nlt
            refine r_reprT (K := K) (C := T.C_Rules) upd_same (rx.newF nlt) (ry.newF nlt) ok1 ok2 ?_
            repeat' (walk_at "S")
            · exfalso
              rename_i hc2
              simp at hc2
            · exact ⟨_, _, _, _, _, _, _, _, rfl, (k7.trans (k7l.trans kz)).newF nlt, dz.new nlt⟩
      · rintro σ H3 ⟨v1, v3, v4, v5, v6, v7, v8, v9, rfl, k3, d3⟩
        exact ⟨_, _, _, _, _, _, _, _, _, rfl, s1.trans (Same.ofKeep s2 np k3)⟩
    · rintro σ H1 ⟨v1, v2, v3, v4, v5, v6, v7, v8, v9, rfl, s1⟩
      repeat' (walk_at "S")
      exact q _
end
theorem all_mk {l : PySem.W.OpenLaw} {w : World} {K : PySem.W.Frag} {h : Heap} {mg : Str → Option Value} {fa : Addr} (X : K.In h) (G : h.Ns mainGlobals mg) (hfa : mg "law" = some (.ref fa))
    {C_Rules : Addr} (aC_Rules : PySem.W.nsIn K mainGlobals "Rules" = some (some (.ref C_Rules)))
    {f0 : Addr} {od0 an0 : Option Addr} {sl0 : Array (Option Value)} {oc0 kV0 dc0 pm0 cd0 ct0 : Value}
    (a0 : PySem.W.nsIn K mainGlobals "is_whole_from" = some (some (.ref f0)))
    (l0 : K.lookup f0 = some ⟨oc0, od0, .func (PySem.W.fnOf "is_whole_from" "is_whole_from" (defArgs (top 4)) (defBody (top 4)) (defScope (top 4)) .none kV0 dc0 pm0 an0 cd0 ct0), sl0⟩) (c0 : PySem.W.codeIn K cd0 "is_whole_from" = true) (k0 : PySem.W.keepIn K (.ref f0) = true)
    {f1 : Addr} {od1 an1 : Option Addr} {sl1 : Array (Option Value)} {oc1 kV1 dc1 pm1 cd1 ct1 : Value}
    (a1 : PySem.W.nsIn K mainGlobals "is_whole_in" = some (some (.ref f1)))
    (l1 : K.lookup f1 = some ⟨oc1, od1, .func (PySem.W.fnOf "is_whole_in" "is_whole_in" (defArgs (top 5)) (defBody (top 5)) (defScope (top 5)) .none kV1 dc1 pm1 an1 cd1 ct1), sl1⟩) (c1 : PySem.W.codeIn K cd1 "is_whole_in" = true) (k1 : PySem.W.keepIn K (.ref f1) = true)
    {f2 : Addr} {od2 an2 : Option Addr} {sl2 : Array (Option Value)} {oc2 kV2 dc2 pm2 cd2 ct2 : Value}
    (a2 : PySem.W.nsIn K mainGlobals "is_drop" = some (some (.ref f2)))
    (l2 : K.lookup f2 = some ⟨oc2, od2, .func (PySem.W.fnOf "is_drop" "is_drop" (defArgs (top 10)) (defBody (top 10)) (defScope (top 10)) .none kV2 dc2 pm2 an2 cd2 ct2), sl2⟩) (c2 : PySem.W.codeIn K cd2 "is_drop" = true) (k2 : PySem.W.keepIn K (.ref f2) = true)
    {f3 : Addr} {od3 an3 : Option Addr} {sl3 : Array (Option Value)} {oc3 kV3 dc3 pm3 cd3 ct3 : Value}
    (a3 : PySem.W.nsIn K mainGlobals "is_cut" = some (some (.ref f3)))
    (l3 : K.lookup f3 = some ⟨oc3, od3, .func (PySem.W.fnOf "is_cut" "is_cut" (defArgs (top 11)) (defBody (top 11)) (defScope (top 11)) .none kV3 dc3 pm3 an3 cd3 ct3), sl3⟩) (c3 : PySem.W.codeIn K cd3 "is_cut" = true) (k3 : PySem.W.keepIn K (.ref f3) = true)
    {f4 : Addr} {od4 an4 : Option Addr} {sl4 : Array (Option Value)} {oc4 kV4 dc4 pm4 cd4 ct4 : Value}
    (a4 : PySem.W.nsIn K mainGlobals "is_second" = some (some (.ref f4)))
    (l4 : K.lookup f4 = some ⟨oc4, od4, .func (PySem.W.fnOf "is_second" "is_second" (defArgs (top 12)) (defBody (top 12)) (defScope (top 12)) .none kV4 dc4 pm4 an4 cd4 ct4), sl4⟩) (c4 : PySem.W.codeIn K cd4 "is_second" = true) (k4 : PySem.W.keepIn K (.ref f4) = true)
    {f5 : Addr} {od5 an5 : Option Addr} {sl5 : Array (Option Value)} {oc5 kV5 dc5 pm5 cd5 ct5 : Value}
    {tk5_0 : Tok}
    {tk5_1 : Tok}
    {tk5_2 : Tok}
    {D5 : Addr} {odT5 : Option Addr} {slT5 : Array (Option Value)} {ocT5 : Value} {mT5 : Nat}
    (a5 : PySem.W.findIn K (.ref C_Rules) "__init__" = some (some (.ref f5))) (i5 : PySem.W.isFn K (.ref f5) = true)
    (l5 : K.lookup f5 = some ⟨oc5, od5, .func (PySem.W.fnOf "__init__" "Rules.__init__" (defArgs (inClass (top 13) 0)) (defBody (inClass (top 13) 0)) (defScope (inClass (top 13) 0)) (.ref D5) kV5 dc5 pm5 an5 cd5 ct5), sl5⟩) (c5 : PySem.W.codeIn K cd5 "Rules.__init__" = true) (k5 : PySem.W.keepIn K (.ref f5) = true)
    (d5 : K.lookup D5 = some ⟨ocT5, odT5, .seq (List.toArray [.int 0 tk5_0, .int 0 tk5_1, .str "best" tk5_2]) mT5, slT5⟩)
    {f6 : Addr} {od6 an6 : Option Addr} {sl6 : Array (Option Value)} {oc6 kV6 dc6 pm6 cd6 ct6 : Value}
    (a6 : PySem.W.findIn K (.ref C_Rules) "__eq__" = some (some (.ref f6))) (i6 : PySem.W.isFn K (.ref f6) = true)
    (l6 : K.lookup f6 = some ⟨oc6, od6, .func (PySem.W.fnOf "__eq__" "Rules.__eq__" (defArgs (inClass (top 13) 1)) (defBody (inClass (top 13) 1)) (defScope (inClass (top 13) 1)) .none kV6 dc6 pm6 an6 cd6 ct6), sl6⟩) (c6 : PySem.W.codeIn K cd6 "Rules.__eq__" = true) (k6 : PySem.W.keepIn K (.ref f6) = true)
    {f7 : Addr} {od7 an7 : Option Addr} {sl7 : Array (Option Value)} {oc7 kV7 dc7 pm7 cd7 ct7 : Value}
    (a7 : PySem.W.findIn K (.ref C_Rules) "__repr__" = some (some (.ref f7))) (i7 : PySem.W.isFn K (.ref f7) = true)
    (l7 : K.lookup f7 = some ⟨oc7, od7, .func (PySem.W.fnOf "__repr__" "Rules.__repr__" (defArgs (inClass (top 13) 2)) (defBody (inClass (top 13) 2)) (defScope (inClass (top 13) 2)) .none kV7 dc7 pm7 an7 cd7 ct7), sl7⟩) (c7 : PySem.W.codeIn K cd7 "Rules.__repr__" = true) (k7 : PySem.W.keepIn K (.ref f7) = true)
    {f8 : Addr} {od8 an8 : Option Addr} {sl8 : Array (Option Value)} {oc8 kV8 dc8 pm8 cd8 ct8 : Value}
    (a8 : PySem.W.nsIn K mainGlobals "_law_cell_at" = some (some (.ref f8)))
    (l8 : K.lookup f8 = some ⟨oc8, od8, .func (PySem.W.fnOf "_law_cell_at" "_law_cell_at" (defArgs (top 15)) (defBody (top 15)) (defScope (top 15)) .none kV8 dc8 pm8 an8 cd8 ct8), sl8⟩) (c8 : PySem.W.codeIn K cd8 "_law_cell_at" = true) (k8 : PySem.W.keepIn K (.ref f8) = true)
    {f9 : Addr} {od9 an9 : Option Addr} {sl9 : Array (Option Value)} {oc9 kV9 dc9 pm9 cd9 ct9 : Value}
    (a9 : PySem.W.nsIn K mainGlobals "_law_state" = some (some (.ref f9)))
    (l9 : K.lookup f9 = some ⟨oc9, od9, .func (PySem.W.fnOf "_law_state" "_law_state" (defArgs (top 16)) (defBody (top 16)) (defScope (top 16)) .none kV9 dc9 pm9 an9 cd9 ct9), sl9⟩) (c9 : PySem.W.codeIn K cd9 "_law_state" = true) (k9 : PySem.W.keepIn K (.ref f9) = true)
    {f10 : Addr} {od10 an10 : Option Addr} {sl10 : Array (Option Value)} {oc10 kV10 dc10 pm10 cd10 ct10 : Value}
    (a10 : PySem.W.nsIn K mainGlobals "_law_take" = some (some (.ref f10)))
    (l10 : K.lookup f10 = some ⟨oc10, od10, .func (PySem.W.fnOf "_law_take" "_law_take" (defArgs (top 17)) (defBody (top 17)) (defScope (top 17)) .none kV10 dc10 pm10 an10 cd10 ct10), sl10⟩) (c10 : PySem.W.codeIn K cd10 "_law_take" = true) (k10 : PySem.W.keepIn K (.ref f10) = true)
    {f11 : Addr} {od11 an11 : Option Addr} {sl11 : Array (Option Value)} {oc11 kV11 dc11 pm11 cd11 ct11 : Value}
    (a11 : PySem.W.nsIn K mainGlobals "_law_rule" = some (some (.ref f11)))
    (l11 : K.lookup f11 = some ⟨oc11, od11, .func (PySem.W.fnOf "_law_rule" "_law_rule" (defArgs (top 18)) (defBody (top 18)) (defScope (top 18)) .none kV11 dc11 pm11 an11 cd11 ct11), sl11⟩) (c11 : PySem.W.codeIn K cd11 "_law_rule" = true) (k11 : PySem.W.keepIn K (.ref f11) = true)
    {f12 : Addr} {od12 an12 : Option Addr} {sl12 : Array (Option Value)} {oc12 kV12 dc12 pm12 cd12 ct12 : Value}
    (a12 : PySem.W.nsIn K mainGlobals "_law_made" = some (some (.ref f12)))
    (l12 : K.lookup f12 = some ⟨oc12, od12, .func (PySem.W.fnOf "_law_made" "_law_made" (defArgs (top 19)) (defBody (top 19)) (defScope (top 19)) .none kV12 dc12 pm12 an12 cd12 ct12), sl12⟩) (c12 : PySem.W.codeIn K cd12 "_law_made" = true) (k12 : PySem.W.keepIn K (.ref f12) = true)
    {f13 : Addr} {od13 an13 : Option Addr} {sl13 : Array (Option Value)} {oc13 kV13 dc13 pm13 cd13 ct13 : Value}
    (a13 : PySem.W.nsIn K mainGlobals "_law_odd" = some (some (.ref f13)))
    (l13 : K.lookup f13 = some ⟨oc13, od13, .func (PySem.W.fnOf "_law_odd" "_law_odd" (defArgs (top 20)) (defBody (top 20)) (defScope (top 20)) .none kV13 dc13 pm13 an13 cd13 ct13), sl13⟩) (c13 : PySem.W.codeIn K cd13 "_law_odd" = true) (k13 : PySem.W.keepIn K (.ref f13) = true)
    {f14 : Addr} {od14 an14 : Option Addr} {sl14 : Array (Option Value)} {oc14 kV14 dc14 pm14 cd14 ct14 : Value}
    (a14 : PySem.W.nsIn K mainGlobals "_law_same" = some (some (.ref f14)))
    (l14 : K.lookup f14 = some ⟨oc14, od14, .func (PySem.W.fnOf "_law_same" "_law_same" (defArgs (top 21)) (defBody (top 21)) (defScope (top 21)) .none kV14 dc14 pm14 an14 cd14 ct14), sl14⟩) (c14 : PySem.W.codeIn K cd14 "_law_same" = true) (k14 : PySem.W.keepIn K (.ref f14) = true)
    {f15 : Addr} {od15 an15 : Option Addr} {sl15 : Array (Option Value)} {oc15 kV15 dc15 pm15 cd15 ct15 : Value}
    (a15 : PySem.W.nsIn K mainGlobals "_law_other" = some (some (.ref f15)))
    (l15 : K.lookup f15 = some ⟨oc15, od15, .func (PySem.W.fnOf "_law_other" "_law_other" (defArgs (top 22)) (defBody (top 22)) (defScope (top 22)) .none kV15 dc15 pm15 an15 cd15 ct15), sl15⟩) (c15 : PySem.W.codeIn K cd15 "_law_other" = true) (k15 : PySem.W.keepIn K (.ref f15) = true)
    {f16 : Addr} {od16 an16 : Option Addr} {sl16 : Array (Option Value)} {oc16 kV16 dc16 pm16 cd16 ct16 : Value}
    (a16 : PySem.W.nsIn K mainGlobals "_law_text" = some (some (.ref f16)))
    (l16 : K.lookup f16 = some ⟨oc16, od16, .func (PySem.W.fnOf "_law_text" "_law_text" (defArgs (top 23)) (defBody (top 23)) (defScope (top 23)) .none kV16 dc16 pm16 an16 cd16 ct16), sl16⟩) (c16 : PySem.W.codeIn K cd16 "_law_text" = true) (k16 : PySem.W.keepIn K (.ref f16) = true)
    {f17 : Addr} {od17 an17 : Option Addr} {sl17 : Array (Option Value)} {oc17 kV17 dc17 pm17 cd17 ct17 : Value}
    (a17 : PySem.W.nsIn K mainGlobals "law" = some (some (.ref f17)))
    (l17 : K.lookup f17 = some ⟨oc17, od17, .func (PySem.W.fnOf "law" "law" (defArgs (top 24)) (defBody (top 24)) (defScope (top 24)) .none kV17 dc17 pm17 an17 cd17 ct17), sl17⟩) (c17 : PySem.W.codeIn K cd17 "law" = true) (k17 : PySem.W.keepIn K (.ref f17) = true)
    (q_Rules_pg : PySem.W.plainGet K C_Rules Str.empty = true)
    (q_Rules_hd : PySem.W.hasDictIn K C_Rules = true)
    (q_Rules_po : PySem.W.plainOver K C_Rules = true)
    (q_Rules_sa : PySem.W.findIn K (.ref C_Rules) "__setattr__" = some (some (.builtin "object.__setattr__")))
    (q_Rules_mk : PySem.W.makesIn K C_Rules = true)
    (q_Rules_kc : PySem.W.keepIn K (.ref C_Rules) = true)
    (q_Rules_ob : PySem.W.mroIn K C_Rules (.type "object") = some true)
    (q_Rules_ha : PySem.W.findIn K (.ref C_Rules) "__class__" = some (some (.builtin "object.__class__")))
    (q_Rules_ht : PySem.W.takesIn K (.builtin "object.__class__") = some true)
    (q_Rules_hn : PySem.W.specialIn K (.builtin "object.__class__") "__get__" = some (some (.builtin "getset_descriptor.__get__")))
    (q_Rules_cs : PySem.W.isClsIn K C_Rules = true)
    (q_Rules_ty : PySem.W.typeIn K (.ref C_Rules) = some (.type "type"))
    (q_Rules_ne : PySem.W.findIn K (.ref C_Rules) "__ne__" = some (some (.builtin "object.__ne__")))
    (q_Rules_sb_NoneType : PySem.W.subIn K (.ref C_Rules) (.type "NoneType") = some false)
    (q_Rules_sb_bool : PySem.W.subIn K (.ref C_Rules) (.type "bool") = some false)
    (q_Rules_sb_int : PySem.W.subIn K (.ref C_Rules) (.type "int") = some false)
    (q_Rules_sb_str : PySem.W.subIn K (.ref C_Rules) (.type "str") = some false)
    (q_Rules_sb_list : PySem.W.subIn K (.ref C_Rules) (.type "list") = some false)
    (q_Rules_sb_tuple : PySem.W.subIn K (.ref C_Rules) (.type "tuple") = some false)
    (q_Rules_sb_dict : PySem.W.subIn K (.ref C_Rules) (.type "dict") = some false)
    (q_Rules_na_drop : PySem.W.findIn K (.ref C_Rules) "drop" = some none)
    (q_Rules_na_cut : PySem.W.findIn K (.ref C_Rules) "cut" = some none)
    (q_Rules_na_second : PySem.W.findIn K (.ref C_Rules) "second" = some none)
    {t_MOST_CUT : Tok} (z_MOST_CUT : PySem.W.nsIn K mainGlobals "MOST_CUT" = some (some (.int 100 t_MOST_CUT)))
    {t_MOST_DROP : Tok} (z_MOST_DROP : PySem.W.nsIn K mainGlobals "MOST_DROP" = some (some (.int 5 t_MOST_DROP)))
    {w_SECONDS : Addr} {wt_SECONDS : Nat} {wd_SECONDS : Option Addr} {ws_SECONDS : Array (Option Value)} {wk_SECONDS_0 : Tok} {wk_SECONDS_1 : Tok} {wk_SECONDS_2 : Tok}
    (z_SECONDS : PySem.W.nsIn K mainGlobals "SECONDS" = some (some (.ref w_SECONDS))) (y_SECONDS : K.lookup w_SECONDS = some ⟨.type "tuple", wd_SECONDS, .seq (List.toArray [.str "best" wk_SECONDS_0, .str "last" wk_SECONDS_1, .str "mean" wk_SECONDS_2]) wt_SECONDS, ws_SECONDS⟩)
    (z_bool : PySem.W.nsIn K mainGlobals "bool" = some none)
    (z_int : PySem.W.nsIn K mainGlobals "int" = some none)
    (z_isinstance : PySem.W.nsIn K mainGlobals "isinstance" = some none)
    (z_len : PySem.W.nsIn K mainGlobals "len" = some none)
    (z_list : PySem.W.nsIn K mainGlobals "list" = some none)
    (z_max : PySem.W.nsIn K mainGlobals "max" = some none)
    (z_min : PySem.W.nsIn K mainGlobals "min" = some none)
    (z_range : PySem.W.nsIn K mainGlobals "range" = some none)
    (z_repr : PySem.W.nsIn K mainGlobals "repr" = some none)
    (z_str : PySem.W.nsIn K mainGlobals "str" = some none)
    : ∃ fd : FuncData, (∀ (s : Shared) (v : Value), BindsTo s fd ⟨[v], []⟩ [("_law_script", v)]) ∧ ∀ base : Heap, K.In base → base.Ns mainGlobals mg → Fg l.prog w K mg base CX0 7 fa fd ["_law_script"] (sp_law K) := by
  have e := hfa.symm.trans (PySem.W.mg_of X G a17)
  cases e
  have F0 := fun_mk (x := "is_whole_from") (qual := "is_whole_from") (st := (top 4)) l0 c0 k0
  have b0 := F0.binds (ps := ["thing", "least"]) fun _ _ _ _ _ _ us hl => match us, hl with | [_, _], _ => rfl
  have F1 := fun_mk (x := "is_whole_in") (qual := "is_whole_in") (st := (top 5)) l1 c1 k1
  have b1 := F1.binds (ps := ["thing", "least", "most"]) fun _ _ _ _ _ _ us hl => match us, hl with | [_, _, _], _ => rfl
  have F2 := fun_mk (x := "is_drop") (qual := "is_drop") (st := (top 10)) l2 c2 k2
  have b2 := F2.binds (ps := ["thing"]) fun _ _ _ _ _ _ us hl => match us, hl with | [_], _ => rfl
  have F3 := fun_mk (x := "is_cut") (qual := "is_cut") (st := (top 11)) l3 c3 k3
  have b3 := F3.binds (ps := ["thing"]) fun _ _ _ _ _ _ us hl => match us, hl with | [_], _ => rfl
  have F4 := fun_mk (x := "is_second") (qual := "is_second") (st := (top 12)) l4 c4 k4
  have b4 := F4.binds (ps := ["thing"]) fun _ _ _ _ _ _ us hl => match us, hl with | [_], _ => rfl
  have F5 := fnd_mk (x := "__init__") (qual := "Rules.__init__") (st := (inClass (top 13) 0)) (dvs := [(.int 0), (.int 0), (.str "best")]) l5 c5 k5 d5 (List.cons_ne_nil _ _) (.cons ⟨_, rfl⟩ (.cons ⟨_, rfl⟩ (.cons ⟨_, rfl⟩ .nil)))
  have b5 : Binds K (PySem.W.fnOf "__init__" "Rules.__init__" (defArgs (inClass (top 13) 0)) (defBody (inClass (top 13) 0)) (defScope (inClass (top 13) 0)) (.ref D5) kV5 dc5 pm5 an5 cd5 ct5) ["self", "drop", "cut", "second"] [] := by
    obtain ⟨ds, r, b⟩ := FunD.binds1 (ps := ["self", "drop", "cut", "second"]) F5 4 3 (List.cons_ne_nil _ _) rfl (fun _ _ _ _ _ _ _ us its hu hi => match us, its, hu, hi with | [_, _, _, _], [_, _, _], _, _ => ⟨_, rfl, rfl⟩)
    cases r
    exact b
  have kbk1_Rules___init___drop_cut_second := kbn_mk (fd := (PySem.W.fnOf "__init__" "Rules.__init__" (defArgs (inClass (top 13) 0)) (defBody (inClass (top 13) 0)) (defScope (inClass (top 13) 0)) (.ref D5) kV5 dc5 pm5 an5 cd5 ct5)) (ps := ["self", "drop", "cut", "second"]) (ks := ["drop", "cut", "second"]) (n := 1) (g := fun us ws => [nU us 0, nU ws 0, nU ws 1, nU ws 2]) (gV := fun us ws => [nV us 0, nV ws 0, nV ws 1, nV ws 2]) d5 (fun r z => (.cons (nRel 0 r) (.cons (nRel 0 z) (.cons (nRel 1 z) (.cons (nRel 2 z) .nil))))) (fun us ws h1 h2 => match us, ws, h1, h2 with | [_], [_, _, _], _, _ => ⟨_, rfl, rfl⟩)
  have F6 := fun_mk (x := "__eq__") (qual := "Rules.__eq__") (st := (inClass (top 13) 1)) l6 c6 k6
  have b6 := F6.binds (ps := ["self", "other"]) fun _ _ _ _ _ _ us hl => match us, hl with | [_, _], _ => rfl
  have F7 := fun_mk (x := "__repr__") (qual := "Rules.__repr__") (st := (inClass (top 13) 2)) l7 c7 k7
  have b7 := F7.binds (ps := ["self"]) fun _ _ _ _ _ _ us hl => match us, hl with | [_], _ => rfl
  have F8 := fun_mk (x := "_law_cell_at") (qual := "_law_cell_at") (st := (top 15)) l8 c8 k8
  have b8 := F8.binds (ps := ["_law_script", "_law_k"]) fun _ _ _ _ _ _ us hl => match us, hl with | [_, _], _ => rfl
  have F9 := fun_mk (x := "_law_state") (qual := "_law_state") (st := (top 16)) l9 c9 k9
  have b9 := F9.binds (ps := ["_law_script", "_law_k"]) fun _ _ _ _ _ _ us hl => match us, hl with | [_, _], _ => rfl
  have F10 := fun_mk (x := "_law_take") (qual := "_law_take") (st := (top 17)) l10 c10 k10
  have b10 := F10.binds (ps := ["_law_state_here", "_law_many"]) fun _ _ _ _ _ _ us hl => match us, hl with | [_, _], _ => rfl
  have F11 := fun_mk (x := "_law_rule") (qual := "_law_rule") (st := (top 18)) l11 c11 k11
  have b11 := F11.binds (ps := ["_law_state_here"]) fun _ _ _ _ _ _ us hl => match us, hl with | [_], _ => rfl
  have F12 := fun_mk (x := "_law_made") (qual := "_law_made") (st := (top 19)) l12 c12 k12
  have b12 := F12.binds (ps := ["_law_rule_here"]) fun _ _ _ _ _ _ us hl => match us, hl with | [_], _ => rfl
  have F13 := fun_mk (x := "_law_odd") (qual := "_law_odd") (st := (top 20)) l13 c13 k13
  have b13 := F13.binds (ps := ["_law_state_here"]) fun _ _ _ _ _ _ us hl => match us, hl with | [_], _ => rfl
  have F14 := fun_mk (x := "_law_same") (qual := "_law_same") (st := (top 21)) l14 c14 k14
  have b14 := F14.binds (ps := ["_law_found", "_law_due"]) fun _ _ _ _ _ _ us hl => match us, hl with | [_, _], _ => rfl
  have F15 := fun_mk (x := "_law_other") (qual := "_law_other") (st := (top 22)) l15 c15 k15
  have b15 := F15.binds (ps := ["_law_state_here", "_law_rule_here"]) fun _ _ _ _ _ _ us hl => match us, hl with | [_, _], _ => rfl
  have F16 := fun_mk (x := "_law_text") (qual := "_law_text") (st := (top 23)) l16 c16 k16
  have b16 := F16.binds (ps := ["_law_rule_here"]) fun _ _ _ _ _ _ us hl => match us, hl with | [_], _ => rfl
  have F17 := fun_mk (x := "law") (qual := "law") (st := (top 24)) l17 c17 k17
  have b17 := F17.binds (ps := ["_law_script"]) fun _ _ _ _ _ _ us hl => match us, hl with | [_], _ => rfl
  have cl_Rules : Cls K C_Rules := ⟨q_Rules_pg, q_Rules_hd, q_Rules_po, q_Rules_sa⟩
  have is_Rules : IsiC K C_Rules := ⟨cl_Rules, q_Rules_ha, q_Rules_hn, q_Rules_ht, q_Rules_ob, kit_own, fun T h => kit_kind q_Rules_cs q_Rules_ty T h⟩
  have O_Rules : Own K C_Rules f6 := ⟨a6, i6, q_Rules_ne, q_Rules_ob, fun T h => by
    simp only [kinds, List.mem_cons, List.not_mem_nil, or_false] at h
    rcases h with h | h | h | h | h | h | h <;> subst h
    · exact q_Rules_sb_NoneType
    · exact q_Rules_sb_bool
    · exact q_Rules_sb_int
    · exact q_Rules_sb_str
    · exact q_Rules_sb_list
    · exact q_Rules_sb_tuple
    · exact q_Rules_sb_dict⟩
  let T : Tx K mg := {
    f_is_whole_from := f0,
    fd_is_whole_from := _,
    F_is_whole_from := F0,
    b_is_whole_from := b0,
    m_is_whole_from := PySem.W.mg_of X G a0,
    f_is_whole_in := f1,
    fd_is_whole_in := _,
    F_is_whole_in := F1,
    b_is_whole_in := b1,
    m_is_whole_in := PySem.W.mg_of X G a1,
    f_is_drop := f2,
    fd_is_drop := _,
    F_is_drop := F2,
    b_is_drop := b2,
    m_is_drop := PySem.W.mg_of X G a2,
    f_is_cut := f3,
    fd_is_cut := _,
    F_is_cut := F3,
    b_is_cut := b3,
    m_is_cut := PySem.W.mg_of X G a3,
    f_is_second := f4,
    fd_is_second := _,
    F_is_second := F4,
    b_is_second := b4,
    m_is_second := PySem.W.mg_of X G a4,
    f_Rules___init__ := f5,
    fd_Rules___init__ := _,
    F_Rules___init__ := F5,
    b_Rules___init__ := b5,
    k1_Rules___init___drop_cut_second := kbk1_Rules___init___drop_cut_second,
    f_Rules___eq__ := f6,
    fd_Rules___eq__ := _,
    F_Rules___eq__ := F6,
    b_Rules___eq__ := b6,
    f_Rules___repr__ := f7,
    fd_Rules___repr__ := _,
    F_Rules___repr__ := F7,
    b_Rules___repr__ := b7,
    f__law_cell_at := f8,
    fd__law_cell_at := _,
    F__law_cell_at := F8,
    b__law_cell_at := b8,
    m__law_cell_at := PySem.W.mg_of X G a8,
    f__law_state := f9,
    fd__law_state := _,
    F__law_state := F9,
    b__law_state := b9,
    m__law_state := PySem.W.mg_of X G a9,
    f__law_take := f10,
    fd__law_take := _,
    F__law_take := F10,
    b__law_take := b10,
    m__law_take := PySem.W.mg_of X G a10,
    f__law_rule := f11,
    fd__law_rule := _,
    F__law_rule := F11,
    b__law_rule := b11,
    m__law_rule := PySem.W.mg_of X G a11,
    f__law_made := f12,
    fd__law_made := _,
    F__law_made := F12,
    b__law_made := b12,
    m__law_made := PySem.W.mg_of X G a12,
    f__law_odd := f13,
    fd__law_odd := _,
    F__law_odd := F13,
    b__law_odd := b13,
    m__law_odd := PySem.W.mg_of X G a13,
    f__law_same := f14,
    fd__law_same := _,
    F__law_same := F14,
    b__law_same := b14,
    m__law_same := PySem.W.mg_of X G a14,
    f__law_other := f15,
    fd__law_other := _,
    F__law_other := F15,
    b__law_other := b15,
    m__law_other := PySem.W.mg_of X G a15,
    f__law_text := f16,
    fd__law_text := _,
    F__law_text := F16,
    b__law_text := b16,
    m__law_text := PySem.W.mg_of X G a16,
    f_law := fa,
    fd_law := _,
    F_law := F17,
    b_law := b17,
    m_law := PySem.W.mg_of X G a17,
    C_Rules := C_Rules,
    m_Rules := PySem.W.mg_of X G aC_Rules,
    cl_Rules := cl_Rules,
    is_Rules := is_Rules,
    na_Rules_drop := q_Rules_na_drop,
    na_Rules_cut := q_Rules_na_cut,
    na_Rules_second := q_Rules_na_second,
    M_Rules := ⟨q_Rules_mk, a5, i5, q_Rules_kc⟩,
    O_Rules := O_Rules,
    rp_Rules := a7,
    rf_Rules := i7,
    m_MOST_CUT := ⟨_, PySem.W.mg_of X G z_MOST_CUT⟩,
    m_MOST_DROP := ⟨_, PySem.W.mg_of X G z_MOST_DROP⟩,
    a_SECONDS := w_SECONDS,
    m_SECONDS := PySem.W.mg_of X G z_SECONDS,
    l_SECONDS := ⟨_, _, _, y_SECONDS, rfl, rfl, (show 3 ≤ sizeLine by decide), (.cons ⟨_, rfl⟩ (.cons ⟨_, rfl⟩ (.cons ⟨_, rfl⟩ .nil)))⟩,
    m_bool := PySem.W.mg_none_of X G z_bool,
    m_int := PySem.W.mg_none_of X G z_int,
    m_isinstance := PySem.W.mg_none_of X G z_isinstance,
    m_len := PySem.W.mg_none_of X G z_len,
    m_list := PySem.W.mg_none_of X G z_list,
    m_max := PySem.W.mg_none_of X G z_max,
    m_min := PySem.W.mg_none_of X G z_min,
    m_range := PySem.W.mg_none_of X G z_range,
    m_repr := PySem.W.mg_none_of X G z_repr,
    m_str := PySem.W.mg_none_of X G z_str }
  refine ⟨_, fun s v => (.of_eq rfl : BindsTo s (PySem.W.fnOf "law" "law" (defArgs (top 24)) (defBody (top 24)) (defScope (top 24)) .none kV17 dc17 pm17 an17 cd17 ct17) ⟨[v], []⟩ [("_law_script", v)]), fun base _ _ => ?_⟩
  have G_Rules___eq__ := ok_Rules___eq__ (P := l.prog) (w := w) (base := base) T 
  have G_Rules___repr__ := ok_Rules___repr__ (P := l.prog) (w := w) (base := base) T 
  have G_is_whole_from := ok_is_whole_from (P := l.prog) (w := w) (base := base) T 
  have G_is_whole_in := ok_is_whole_in (P := l.prog) (w := w) (base := base) T G_is_whole_from
  have G_is_cut := ok_is_cut (P := l.prog) (w := w) (base := base) T G_is_whole_in
  have G_is_drop := ok_is_drop (P := l.prog) (w := w) (base := base) T G_is_whole_in
  have G_is_second := ok_is_second (P := l.prog) (w := w) (base := base) T 
  have G_Rules___init__ := ok_Rules___init__ (P := l.prog) (w := w) (base := base) T G_is_cut G_is_drop G_is_second
  have G__law_made := ok__law_made (P := l.prog) (w := w) (base := base) T G_Rules___init__
  have G__law_take := ok__law_take (P := l.prog) (w := w) (base := base) T 
  have G__law_odd := ok__law_odd (P := l.prog) (w := w) (base := base) T G__law_take
  have G__law_rule := ok__law_rule (P := l.prog) (w := w) (base := base) T G__law_take
  have G__law_other := ok__law_other (P := l.prog) (w := w) (base := base) T G__law_rule G__law_take
  have G__law_same := ok__law_same (P := l.prog) (w := w) (base := base) T 
  have G__law_cell_at := ok__law_cell_at (P := l.prog) (w := w) (base := base) T 
  have G__law_state := ok__law_state (P := l.prog) (w := w) (base := base) T G__law_cell_at
  have G__law_text := ok__law_text (P := l.prog) (w := w) (base := base) T 
  have G_law := ok_law (P := l.prog) (w := w) (base := base) T G_Rules___eq__ G_Rules___repr__ G__law_made G__law_odd G__law_other G__law_rule G__law_same G__law_state G__law_text
  exact G_law
theorem walk {l : PySem.W.OpenLaw} {q : Program} {loose : List Str} {XP : (Str → Option Value) → Heap → Prop} {YP : World → Heap → Prop} {d : DefRec} {K : Params → PySem.W.Frag} (hn : l.most = some 63) (hdf : d.params.defaults = [])
    (hY : ∀ (w : World) (h : Heap), YP w h → (K w.params).In h)
    (F : ∀ (w : World) (mg : Str → Option Value) (fa : Addr) (h : Heap), (K w.params).In h → h.Ns mainGlobals mg → mg d.name = some (.ref fa) →
      ∃ fd : FuncData, (∀ (s : Shared) (u : Value), BindsTo s fd ⟨[u], []⟩ [("_law_script", u)]) ∧ ∀ base : Heap, (K w.params).In base → base.Ns mainGlobals mg → Fg l.prog w (K w.params) mg base CX0 7 fa fd ["_law_script"] (sp_law (K w.params))) :
    PySem.W.WalkO q loose XP YP l.row.toRowW d [] (fun f vs => PySem.call f vs) :=
  walk_go (n := 63) (k := 7) (x := "_law_script") (CX := fun _ => CX0) (sp := fun w => sp_law (K w.params)) hn (by decide) hdf ⟨rfl, by decide, by decide⟩ hY F (fun _ _ a ns hl _ hS => ⟨a, ns, rfl, hS, hl, fun _ => rfl⟩) fun _ _ _ _ _ z => z
end Cm
open PySem PySem.W PyProof.Rows
set_option maxRecDepth 100000 in
set_option maxHeartbeats 0 in
theorem PySem.Challenge.cw_classmarks_k03_rules_compared_and_shown_holds : PySem.Challenge.rw_classmarks_k03_rules_compared_and_shown.Holds := by
  w_on; o_law; k_head; (case hw => w_witness2)
  k_fill
  refine Cm.walk (l := PySem.Challenge.rw_classmarks_k03_rules_compared_and_shown) rfl rfl (fun w h Y => PySem.W.kIn_of Y) ?F
  case F =>
    intro w mg fa h KX G hmg
    refine' Cm.all_mk KX G hmg ?aC_Rules ?a0 ?l0 ?c0 ?k0 ?a1 ?l1 ?c1 ?k1 ?a2 ?l2 ?c2 ?k2 ?a3 ?l3 ?c3 ?k3 ?a4 ?l4 ?c4 ?k4 ?a5 ?i5 ?l5 ?c5 ?k5 ?d5 ?a6 ?i6 ?l6 ?c6 ?k6 ?a7 ?i7 ?l7 ?c7 ?k7 ?a8 ?l8 ?c8 ?k8 ?a9 ?l9 ?c9 ?k9 ?a10 ?l10 ?c10 ?k10 ?a11 ?l11 ?c11 ?k11 ?a12 ?l12 ?c12 ?k12 ?a13 ?l13 ?c13 ?k13 ?a14 ?l14 ?c14 ?k14 ?a15 ?l15 ?c15 ?k15 ?a16 ?l16 ?c16 ?k16 ?a17 ?l17 ?c17 ?k17 ?q_Rules_pg ?q_Rules_hd ?q_Rules_po ?q_Rules_sa ?q_Rules_mk ?q_Rules_kc ?q_Rules_ob ?q_Rules_ha ?q_Rules_ht ?q_Rules_hn ?q_Rules_cs ?q_Rules_ty ?q_Rules_ne ?q_Rules_sb_NoneType ?q_Rules_sb_bool ?q_Rules_sb_int ?q_Rules_sb_str ?q_Rules_sb_list ?q_Rules_sb_tuple ?q_Rules_sb_dict ?q_Rules_na_drop ?q_Rules_na_cut ?q_Rules_na_second ?z_MOST_CUT ?z_MOST_DROP ?y_SECONDS ?z_SECONDS ?z_bool ?z_int ?z_isinstance ?z_len ?z_list ?z_max ?z_min ?z_range ?z_repr ?z_str
    (case aC_Rules => k_is); (case a0 => k_is); (case l0 => k_is); (case c0 => k_is); (case k0 => k_is); (case a1 => k_is); (case l1 => k_is); (case c1 => k_is)
    (case k1 => k_is); (case a2 => k_is); (case l2 => k_is); (case c2 => k_is); (case k2 => k_is); (case a3 => k_is); (case l3 => k_is); (case c3 => k_is)
    (case k3 => k_is); (case a4 => k_is); (case l4 => k_is); (case c4 => k_is); (case k4 => k_is); (case a5 => k_is); (case i5 => k_is); (case l5 => k_is)
    (case c5 => k_is); (case k5 => k_is); (case d5 => k_is); (case a6 => k_is); (case i6 => k_is); (case l6 => k_is); (case c6 => k_is); (case k6 => k_is)
    (case a7 => k_is); (case i7 => k_is); (case l7 => k_is); (case c7 => k_is); (case k7 => k_is); (case a8 => k_is); (case l8 => k_is); (case c8 => k_is)
    (case k8 => k_is); (case a9 => k_is); (case l9 => k_is); (case c9 => k_is); (case k9 => k_is); (case a10 => k_is); (case l10 => k_is); (case c10 => k_is)
    (case k10 => k_is); (case a11 => k_is); (case l11 => k_is); (case c11 => k_is); (case k11 => k_is); (case a12 => k_is); (case l12 => k_is); (case c12 => k_is)
    (case k12 => k_is); (case a13 => k_is); (case l13 => k_is); (case c13 => k_is); (case k13 => k_is); (case a14 => k_is); (case l14 => k_is); (case c14 => k_is)
    (case k14 => k_is); (case a15 => k_is); (case l15 => k_is); (case c15 => k_is); (case k15 => k_is); (case a16 => k_is); (case l16 => k_is); (case c16 => k_is)
    (case k16 => k_is); (case a17 => k_is); (case l17 => k_is); (case c17 => k_is); (case k17 => k_is); (case q_Rules_pg => k_is); (case q_Rules_hd => k_is); (case q_Rules_po => k_is)
    (case q_Rules_sa => k_is); (case q_Rules_mk => k_is); (case q_Rules_kc => k_is); (case q_Rules_ob => k_is); (case q_Rules_ha => k_is); (case q_Rules_ht => k_is); (case q_Rules_hn => k_is); (case q_Rules_cs => k_is)
    (case q_Rules_ty => k_is); (case q_Rules_ne => k_is); (case q_Rules_sb_NoneType => k_is); (case q_Rules_sb_bool => k_is); (case q_Rules_sb_int => k_is); (case q_Rules_sb_str => k_is); (case q_Rules_sb_list => k_is); (case q_Rules_sb_tuple => k_is)
    (case q_Rules_sb_dict => k_is); (case q_Rules_na_drop => k_is); (case q_Rules_na_cut => k_is); (case q_Rules_na_second => k_is); (case z_MOST_CUT => k_is); (case z_MOST_DROP => k_is); (case y_SECONDS => k_is); (case z_SECONDS => k_is)
    (case z_bool => k_is); (case z_int => k_is); (case z_isinstance => k_is); (case z_len => k_is); (case z_list => k_is); (case z_max => k_is); (case z_min => k_is); (case z_range => k_is)
    (case z_repr => k_is); (case z_str => k_is)
