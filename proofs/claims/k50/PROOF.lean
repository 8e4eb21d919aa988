import PyProof.Rows.All
import Wide.All
import OpenK.AllK
import Wide.FinOn
import HandS.ForMost
import HandS.Wide
import HandS.IsInst
import HandS.TupAny
import HandS.TupMul
import HandS.Style
import HandS.StrMore
import HandS.Small
import HandS.More
import HandS.Text
import PyProof.ListMulRoad
import PyProof.FactsAll.tuple_2
import HandS.Defaults
import HandS.MakeKw
import HandS.FStr
import PyProof.Rows.EqDataRows
import HandS.OwnEq
import HandS.Lambda
import HandS.EndTab
import HandS.Zip
import HandS.Rev
import HandS.Conv
import KE.SortKeyHeap
import HandS.Flow
import KE.GoesMore
import HandS.Strs
import HandS.SetFor
import KE.SortData
import KE.DatumMoreOrd
import KE.GoesEnum
import KE.DataCmp
import KE.KCallOwn
import PySem.Challenge.RW_classmarks_k50_sheets_rows_and_extra_poi
set_option Elab.async false
set_option linter.all false
set_option maxRecDepth 100000
set_option maxHeartbeats 4000000
/-! ## 1. Promises of defs that run where no guard is up -/
namespace Cm
open PySem PySem.Spec PyProof.Rows L2
/-- a promise, asked only where no repr is under way -/
structure Fg (P : Program) (w : World) (K : PySem.W.Frag) (mg : Str → Option Value)
    (base : Heap) (CX : CXT) (k : Nat) (f : Addr) (fd : FuncData) (ps : List Str) (sp : Sp) : Prop where
  len : ∀ vs H Q E, sp vs H Q E → vs.length = ps.length
  go : ∀ (A : Around) (outer : List Env) (s : Shared) (H : Hp) (args : Args)
    (us : List Value) (vs : List V) (Q : VK) (E : XK),
    Room k A → A.guards = some [] → Env0 P w K mg base A outer s H →
    BindsTo s fd args (ps.zip us) → Vals vs us → sp vs H Q E →
    codeAny (model P w) A (.call (.ref f) args) (CR CX outer P w H s Q E) s
section
variable {P : Program} {w : World} {K : PySem.W.Frag} {mg : Str → Option Value}
  {base : Heap} {CX : CXT} {k : Nat} {f : Addr} {fd : FuncData} {ps : List Str} {sp : Sp}
theorem Fg.of (F : FnOk P w K mg base CX k f fd ps sp) : Fg P w K mg base CX k f fd ps sp :=
  ⟨F.len, fun A outer s H args us vs Q E hr _ => F.run A outer s H args us vs Q E hr⟩
theorem Fg.mono {j : Nat} (F : Fg P w K mg base CX j f fd ps sp) (h : j ≤ k) :
    Fg P w K mg base CX k f fd ps sp :=
  ⟨F.len, fun A outer s H args us vs Q E hr => F.go A outer s H args us vs Q E (hr.mono h)⟩
theorem deeper_guards (A : Around) (env : Env) (h : A.guards = some []) :
    (A.deeper env).guards = some [] := h
end
section
variable {X : Cx} {CX : CXT} {k : Nat} {f C : Addr} {fd : FuncData} {ps : List Str}
  {sp : Sp} {dvs : List V} {ds : List Value} {E : XK} {x m : Str} {p pos apos : Pos}
  {e o : Expr} {es : List Expr} {ta : TE} {t : TA}
theorem go_fn {pins : List (Addr × Obj)} {σ : L2.St} {H : Hp} {s : Shared} {Q : VK}
    {us : List Value} {vs : List V}
    (F : Fg X.prog X.w X.K X.mg X.base CX k f fd ps sp) (hr : Room k X.A)
    (hg : X.A.guards = some []) (hb : Binds X.K fd ps ds) (hd : Vals dvs ds)
    (hx : Passes CX X E) (I : Inv X pins σ H s) (r : Vals vs us)
    (h : sp (vs ++ dvs) H Q E) :
    wpAny (model X.prog X.w) X.A (call (.ref f) us) (EP X pins σ Q) X.xe s := by
  have both := r.append hd
  have hlen : (us ++ ds).length = ps.length := both.length.symm.trans (F.len _ _ _ _ h)
  have body := F.go X.A X.stack s H ⟨us, []⟩ (us ++ ds) (vs ++ dvs) Q E hr hg I.env0
    (hb s us I.kIn hlen) both h
  refine wpAny_call (codeAny_mono body ?_)
  intro r s' hq
  match r, hq with
  | .error e, hq => exact hx pins σ H s e s' I hq
  | .ok (.ret u), hq => exact I.after hq
theorem pg_call (F : Fg X.prog X.w X.K X.mg X.base CX k f fd ps sp) (hr : Room k X.A)
    (hgd : X.A.guards = some []) (hg : Gl X x) (hm : X.mg x = some (.ref f))
    (hk : PySem.W.keepIn X.K (.ref f) = true) (hb : Binds X.K fd ps ds)
    (hd : Vals dvs ds) (hx : Passes CX X E) (ha : PA X (e :: es) t)
    (hdb : (x == ("__debug__" : Str)) = false := by decide)
    (he : starEach (e :: es) X.env = (false, eval e X.env) :: starEach es X.env := by rfl)
    (hpl : (backTo pos (starEach es X.env)).any (·.1) = false := by rfl) :
    PE X (.Call (.Name x p) (e :: es) [] pos) (tCall sp dvs E t) := by
  constructor
  intro pins s σ H Q I h
  have args := ha.run pos pins s σ H _ I h
  refine wpAny_Call_Name_kw (ld_glob I hg hm ?_ hdb)
  refine PySem.W.callWith_K (h₀ := X.base) I.ok.mod.kin hk (thn args ?_) he hpl
  rintro us s1 ⟨vs, H1, I1, r, q⟩
  exact ⟨I1.kIn, go_fn F hr hgd hb hd hx I1 r q⟩
end
section
variable {P : Program} {w : World} {K : PySem.W.Frag} {mg : Str → Option Value} {base : Heap}
/-- a def of the text keeps its promise, by its body -/
theorem fg_of {CX : CXT} {x qual : Str} {st : Stmt} {f : Addr} {fd : FuncData}
    {N ps : List Str} {k : Nat} {sp : Sp} (F : Fun K x qual st f fd)
    (S : FnScope N ps (defScope st)) (len : ∀ vs H Q E, sp vs H Q E → vs.length = ps.length)
    (hbody : ∀ (cdv : Value) (A : Around) (outer : List Env) (s : Shared) (H : Hp)
      (vs : List V) (Q : VK) (E : XK),
      Room k (A.deeper (envOfC qual (defScope st) s.heap.objs.size f cdv)) →
      A.guards = some [] → sp vs H Q E →
      ∃ t, PSs (cxOf CX P w K mg base N qual (defScope st) f cdv A outer s H E) (defBody st) t ∧
        t { nx := fun _ H' => Q .non H', rt := Q } (start N vs) H) :
    Fg P w K mg base CX (k + 1) f fd ps sp := by
  obtain ⟨oc, od, kV, doc, pm, an, cdv, ct, osl, rfl, lk, hcd⟩ := F.ex
  refine ⟨len, ?_⟩
  intro A outer s H args us vs Q E hr hgd env hb r hsp
  have nvs : vs.length = ps.length := len _ _ _ _ hsp
  have old : ∀ b o, base.get? b = some o → s.heap.get? b = some o :=
    fun b o e => (env.bs b o e).1
  have KX : K.In s.heap := env.mod.kin.keeps old
  have lim : s.heap.NoLimit := env.mod.nolimit.keeps old
  have kinds : ∀ y ∈ ps.zip us, (defScope st).names.lookup y.1 = some .local ∨
      ((defScope st).names.lookup y.1 = some .cell ∧
        ((cellsFrom (s.heap.objs.size + 1) (defScope st).names []).lookup y.1).isSome = true) := by
    rintro ⟨n, v⟩ hy
    cases S.par n (List.of_mem_zip hy).1 with
    | inl q => exact .inl q
    | inr q => exact .inr ⟨q, PySem.W.cellsFrom_some _ _ _ (.inl q)⟩
  refine codeAny_call_function hr.depth (KX _ _ lk) rfl S.co S.gen rfl
    (PySem.W.codeRec_of KX hcd) (hb _ _ _ _ ?_)
  refine wpAny_newFunctionEnv_cells S.kind kinds ?_
  intro env' he s1 x
  subst he
  refine ⟨lim.keeps x.toInCall.keep, codeAny_func ?_⟩
  obtain ⟨t, ht, hq⟩ := hbody cdv A outer s H vs Q E (hr.deeper _) hgd hsp
  have I := inv_start (CX := CX) (P := P) (mg := mg) (E := E) S hr.hd env nvs r x
  have leave : ∀ {σ' : L2.St} {H' : Hp} {v : V} {u : Value} {s' : Shared},
      Inv (cxOf CX P w K mg base N qual (defScope st) f cdv A outer s H E) [] σ' H' s' →
      RelV v u → Q v H' → CE outer P w H s Q u s' := by
    intro σ' H' v u s' J rv q
    exact ⟨v, H', J.os, J.bare, J.base, J.hok, rv, q⟩
  refine wpAny_mono (ht.run [] s1 (start N vs) H _ I hq) ?_ (fun e s' hs => hs)
  intro fl s' hs
  match fl, hs with
  | .ret u, hs =>
    obtain ⟨v, σ', H', J, rv, q⟩ := hs
    exact leave J rv q
  | .next, hs =>
    obtain ⟨σ', H', J, q⟩ := hs
    exact leave (v := V.non) (u := Value.none) J rfl q
  | .brk, hs =>
    obtain ⟨_, _, _, q⟩ := hs
    exact False.elim q
  | .cont, hs =>
    obtain ⟨_, _, _, q⟩ := hs
    exact False.elim q
/-- the same for a def that lets no exception out -/
theorem fg_of0 {x qual : Str} {st : Stmt} {f : Addr} {fd : FuncData}
    {N ps : List Str} {k : Nat} {sp : Sp} (F : Fun K x qual st f fd)
    (S : FnScope N ps (defScope st)) (len : ∀ vs H Q E, sp vs H Q E → vs.length = ps.length)
    (hbody : ∀ (cdv : Value) (A : Around) (outer : List Env) (s : Shared) (H : Hp)
      (vs : List V) (Q : VK) (E : XK),
      Room k (A.deeper (envOfC qual (defScope st) s.heap.objs.size f cdv)) →
      A.guards = some [] → sp vs H Q E →
      ∃ t, PSs (cxOf CX0 P w K mg base N qual (defScope st) f cdv A outer s H E).nox (defBody st) t ∧
        t { nx := fun _ H' => Q .non H', rt := Q } (start N vs) H) :
    Fg P w K mg base CX0 (k + 1) f fd ps sp := by
  refine fg_of F S len ?_
  intro cdv A outer s H vs Q E hr hg hsp
  obtain ⟨t, h, q⟩ := hbody cdv A outer s H vs Q E hr hg hsp
  exact ⟨t, h.nox, q⟩
end

/-! ### the law's own call -/
theorem law_go {P : Program} {w : World} {K : PySem.W.Frag} {mg mb : Str → Option Value}
    {CX : CXT} {k : Nat} {fa a : Addr} {fd : FuncData} {x : Str} {sp : Sp} {s₁ : Shared}
    {vs : List Value} {ns : List Int}
    (KX : K.In s₁.heap) (hns : s₁.heap.Ns mainGlobals mg) (hb : s₁.heap.Ns builtinsNs mb)
    (hbb : ∀ x : Str, x ≠ "__name__" → mb x = bootBuiltins x)
    (hlim : s₁.heap.NoLimit) (hg : s₁.gens = #[])
    (ha : s₁.heap.get? a = some { cls := .type "list", data := .seq vs.toArray })
    (hi : IntsAre vs ns) (hl : ns.length ≤ sizeLine) (hr : Room k callerA)
    (F : ∀ base : Heap, K.In base → base.Ns mainGlobals mg → Fg P w K mg base CX k fa fd [x] sp)
    (hbind : ∀ (s : Shared) (u : Value), BindsTo s fd ⟨[u], []⟩ [(x, u)])
    (hsp : ∀ H : Hp, Only H → SqL K H a (ns.map V.int) →
      sp [.ref a] H (fun v _ => v = .bl true) fun _ _ _ => False)
    (hCX : ∀ H e s', CX [] H s₁ (fun _ _ _ => False) e s' → False) :
    codeAny (model P w) callerA (.call (.ref fa) ⟨[.ref a], []⟩)
      (fun r s' => r = .ok (.ret (.bool true)) ∧ OldK s₁.heap s'.heap ∧ s'.os = s₁.os ∧ AllBare s'.gens) s₁ := by
  have nums : Vals (ns.map V.int) vs := vals_ints hi
  have many := hi.length
  -- from any abstract heap that tracks the script at most
  have core : ∀ H : Hp, Only H → SqL K H a (ns.map V.int) → HOk P w H s₁.heap →
      (∀ b, H b ≠ none → b = a) → (H a ≠ none → K.lookup a = none) →
      codeAny (model P w) callerA (.call (.ref fa) ⟨[.ref a], []⟩)
        (fun r s' => r = .ok (.ret (.bool true)) ∧ OldK s₁.heap s'.heap ∧ s'.os = s₁.os ∧ AllBare s'.gens) s₁ := by
    intro H hO hS hok hA hK
    have plain : ∀ {b : Addr} {o : Obj} {es : Array DictEntry} {ep : Nat},
        s₁.heap.get? b = some o → o.data = .dict es ep → H b = none := by
      intro b o es ep e d
      cases q : H b with
      | none => rfl
      | some u =>
        have same : b = a := hA b (by rw [q]; simp)
        rw [same, ha] at e
        cases e
        exact absurd d (by intro z; cases z)
    have nsB : ∀ {b : Addr} {m : Str → Option Value}, s₁.heap.Ns b m → (hidT s₁.heap H).Ns b m := by
      rintro b m ⟨o, es, ep, e, d, r⟩
      exact ⟨o, es, ep, hidT_get e (plain e d), d, r⟩
    have kb : K.In (hidT s₁.heap H) := by
      intro b o e
      refine hidT_get (KX b o e) ?_
      cases q : H b with
      | none => rfl
      | some u =>
        have same : b = a := hA b (by rw [q]; simp)
        subst same
        have none_ := hK (by rw [q]; simp)
        rw [none_] at e
        cases e
    have limit : (hidT s₁.heap H).NoLimit := by
      obtain ⟨mc, h1, h2⟩ := hlim
      exact ⟨mc, nsB h1, h2⟩
    have module_ : Mod K mg (hidT s₁.heap H) := ⟨kb, nsB hns, ⟨mb, nsB hb, hbb⟩, limit⟩
    have e0 : Env0 P w K mg (hidT s₁.heap H) callerA [] s₁ H :=
      ⟨rfl, module_, fun b o e => of_hidT e, Nat.le_of_eq (hidT_size _ _), trivial,
        fun b hb => absurd (show b ∈ ([] : List Addr) from hb) List.not_mem_nil, hok, .of_eq hg⟩
    have run := (F _ kb (nsB hns)).go callerA [] s₁ H ⟨[.ref a], []⟩ [.ref a] [.ref a] _ _ hr rfl e0
      (hbind s₁ (.ref a)) (.cons rfl .nil) (hsp H hO hS)
    refine codeAny_mono run ?_
    intro r s' h
    match r, h with
    | .error e, h => exact (hCX H e s' h).elim
    | .ok (.ret u), h =>
      obtain ⟨v, H', os, bare, un, hok', r', q⟩ := h
      have isT : v = .bl true := q
      subst isT
      obtain rfl : u = Value.bool true := r'
      refine ⟨rfl, OldK.of_keep ?_, os, bare⟩
      intro b o e
      cases q : H b with
      | none => exact un.keep b o e q (fun z => absurd (show b ∈ ([] : List Addr) from z) List.not_mem_nil) List.not_mem_nil
      | some u =>
        rcases hO b with z | ⟨ob, xs, z⟩
        · rw [q] at z
          cases z
        · have later := un.frzs b ob _ z
          obtain ⟨e1, _⟩ := hok b _ z
          obtain ⟨e2, _⟩ := hok' b _ later
          rw [e] at e1
          cases e1
          exact e2
  cases hk : K.lookup a with
  | some o =>
    have e := KX a o hk
    rw [ha] at e
    cases e
    have bare_ : HOk P w (fun _ => none) s₁.heap := fun b u z => by cases z
    exact core (fun _ => none) (fun _ => .inl rfl)
      (.inr ⟨_, vs.toArray, _, hk, rfl, rfl, rfl, by rw [List.size_toArray, many]; exact hl, by simpa using nums⟩)
      bare_ (fun b z => absurd rfl z) (fun z => absurd rfl z)
  | none =>
    let S : Obj := { cls := .type "list", data := .seq vs.toArray }
    let H1 : Hp := fun b => if b = a then some (.frz S (.lst (ns.map V.int))) else none
    have at_a : H1 a = some (.frz S (.lst (ns.map V.int))) := if_pos rfl
    have off : ∀ b, b ≠ a → H1 b = none := fun b hb => if_neg hb
    refine core H1 ?_ (.inl (.inr ⟨S, at_a⟩)) ?_ ?_ (fun _ => hk)
    · intro b
      by_cases hb : b = a
      · exact .inr ⟨_, _, if_pos hb⟩
      · exact .inl (off b hb)
    · intro b u z
      by_cases hb : b = a
      · subst hb
        rw [at_a] at z
        cases z
        exact ⟨ha, by rw [List.length_map]; exact hl, vs, _, nums, ha⟩
      · rw [off b hb] at z
        cases z
    · intro b z
      by_cases hb : b = a
      · exact hb
      · exact absurd (off b hb) z
/-- the goal that the head leaves -/
theorem walk_go {l : PySem.W.OpenLaw} {n k : Nat} {q : Program} {loose : List Str}
    {XP : (Str → Option Value) → Heap → Prop} {YP : World → Heap → Prop} {d : DefRec}
    {K : Params → PySem.W.Frag} {CX : World → CXT} {sp : World → Sp} {x : Str}
    (hn : l.most = some n) (hn2 : n ≤ sizeLine) (hdf : d.params.defaults = [])
    (hr : Room k callerA) (hY : ∀ (w : World) (h : Heap), YP w h → (K w.params).In h)
    (F : ∀ (w : World) (mg : Str → Option Value) (fa : Addr) (h : Heap),
      (K w.params).In h → h.Ns mainGlobals mg → mg d.name = some (.ref fa) →
      ∃ fd : FuncData, (∀ (s : Shared) (u : Value), BindsTo s fd ⟨[u], []⟩ [(x, u)]) ∧
        ∀ base : Heap, (K w.params).In base → base.Ns mainGlobals mg →
          Fg l.prog w (K w.params) mg base (CX w) k fa fd [x] (sp w))
    (hsp : ∀ (w : World) (H : Hp) (a : Addr) (ns : List Int), ns.length ≤ n → Only H →
      SqL (K w.params) H a (ns.map V.int) →
      sp w [.ref a] H (fun v _ => v = .bl true) fun _ _ _ => False)
    (hCX : ∀ (w : World) (H : Hp) (s : Shared) (e : Value) (s' : Shared),
      CX w [] H s (fun _ _ _ => False) e s' → False) :
    PySem.W.WalkO q loose XP YP l.row.toRowW d [] (fun f vs => PySem.call f vs) := by
  refine Att.attach_call hn hdf ?_
  intro w s₀ s₁ mg mb fa o pm cd doc a vs ns G Y ho hd hcd hmg hobj hints hlen hg
  have KX := hY w _ Y
  obtain ⟨fd, hb, hF⟩ := F w mg fa _ KX G.T.g hmg
  exact law_go KX G.T.g G.T.b G.T.builtins G.T.nolimit hg hobj hints (Nat.le_trans hlen hn2) hr hF hb
    (fun H hO hS => hsp w H a ns hlen hO hS) (fun H e s' => hCX w H s₁ e s')
end Cm
set_option Elab.async false
set_option linter.all false
set_option maxRecDepth 100000
set_option maxHeartbeats 4000000
/-! ## 2. Data in the heap, apart from one address -/
namespace Cm
open PySem PySem.Spec PyProof.Rows L2
/-- all but what stands at p is as it was -/
def Keep (p : Addr) (H H' : Hp) : Prop := ∀ b o, b ≠ p → H b = some o → H' b = some o
theorem Keep.refl (p : Addr) (H : Hp) : Keep p H H := fun _ _ _ h => h
theorem Keep.trans {p : Addr} {H H1 H2 : Hp} (a : Keep p H H1) (b : Keep p H1 H2) : Keep p H H2 :=
  fun c o n h => b c o n (a c o n h)
theorem Keep.of {p : Addr} {H H' : Hp} (s : Same H H') : Keep p H H' := fun b o _ h => s b o h
theorem Keep.set {p : Addr} {H : Hp} {o : HO} : Keep p H (upd H p o) := fun b u n h => by
  rw [upd_ne n]; exact h
theorem Keep.new {p q : Addr} {H H' : Hp} {o : HO} (k : Keep p H H') (n : H' q = none) :
    Keep p H (upd H' q o) := fun b u hb h => by
  have := k b u hb h
  rw [upd_ne (ne_of_none this n)]; exact this
theorem Keep.put {p : Addr} {H H' : Hp} {o : HO} (k : Keep p H H') : Keep p H (upd H' p o) :=
  fun b u hb h => by rw [upd_ne hb]; exact k b u hb h
theorem Same.new {q : Addr} {H H' : Hp} {o : HO} (k : Same H H') (n : H' q = none) :
    Same H (upd H' q o) := fun b u h => by
  have := k b u h
  rw [upd_ne (ne_of_none this n)]; exact this
/-- an object that came behind H is changed -/
theorem Same.over {q : Addr} {H H' : Hp} {o : HO} (k : Same H H') (n : H q = none) :
    Same H (upd H' q o) := fun b u h => by
  rw [upd_ne (ne_of_none h n)]; exact k b u h
theorem Keep.over {p q : Addr} {H H' : Hp} {o : HO} (k : Keep p H H') (n : H q = none) :
    Keep p H (upd H' q o) := fun b u hb h => by
  rw [upd_ne (ne_of_none h n)]; exact k b u hb h
theorem Keep.rd {p a : Addr} {H H' : Hp} {u : HO} (k : Keep p H H') (n : a ≠ p) (h : Rd H a u) : Rd H' a u := by
  rcases h with h | ⟨o, h⟩
  · exact .inl (k _ _ n h)
  · exact .inr ⟨o, k _ _ n h⟩
def keyD : Key → PyData
  | .inl i => .int i
  | .inr x => .str x
def valD : V → PyData
  | .int i => .int i
  | _ => .none
def pairD (x : Key × V) : PyData × PyData := (keyD x.1, valD x.2)
mutual
/-- at v stands the data d, and none of it at p -/
inductive Dt (H : Hp) (p : Addr) : V → PyData → Prop
  | non : Dt H p .non .none
  | bl (b : Bool) : Dt H p (.bl b) (.bool b)
  | int (i : Int) : Dt H p (.int i) (.int i)
  | str (x : Str) : Dt H p (.str x) (.str x)
  | lst {a : Addr} {xs : List V} {ds : List PyData} : a ≠ p → H a = some (.lst xs) → DtAll H p xs ds →
      Dt H p (.ref a) (.list ds)
  | tup {a : Addr} {xs : List V} {ds : List PyData} : a ≠ p → H a = some (.tup xs) → DtAll H p xs ds →
      Dt H p (.ref a) (.tuple ds)
  | dct {a : Addr} {kvs : List (Key × V)} : a ≠ p → H a = some (.dK kvs) →
      (∀ x ∈ kvs, ∃ i, x.2 = V.int i) → Dt H p (.ref a) (.dict (kvs.map pairD))
inductive DtAll (H : Hp) (p : Addr) : List V → List PyData → Prop
  | nil : DtAll H p [] []
  | cons {v : V} {vs : List V} {d : PyData} {ds : List PyData} : Dt H p v d → DtAll H p vs ds →
      DtAll H p (v :: vs) (d :: ds)
end
mutual
theorem Dt.keep {p : Addr} {H H' : Hp} (k : Keep p H H') : ∀ {d : PyData} {v : V}, Dt H p v d → Dt H' p v d
  | _, _, .non => .non
  | _, _, .bl b => .bl b
  | _, _, .int i => .int i
  | _, _, .str x => .str x
  | _, _, .lst n r h => .lst n (k _ _ n r) (DtAll.keep k h)
  | _, _, .tup n r h => .tup n (k _ _ n r) (DtAll.keep k h)
  | _, _, .dct n r h => .dct n (k _ _ n r) h
theorem DtAll.keep {p : Addr} {H H' : Hp} (k : Keep p H H') : ∀ {ds : List PyData} {vs : List V},
    DtAll H p vs ds → DtAll H' p vs ds
  | _, _, .nil => .nil
  | _, _, .cons a b => .cons (Dt.keep k a) (DtAll.keep k b)
end
theorem DtAll.length {p : Addr} {H : Hp} : ∀ {ds : List PyData} {vs : List V}, DtAll H p vs ds → vs.length = ds.length
  | _, _, .nil => rfl
  | _, _, .cons _ b => congrArg Nat.succ (DtAll.length b)
theorem DtAll.get {p : Addr} {H : Hp} : ∀ {ds : List PyData} {vs : List V} {i : Nat} {v : V}, DtAll H p vs ds →
    vs[i]? = some v → ∃ d, ds[i]? = some d ∧ Dt H p v d
  | _, _, 0, _, .cons a _, e => by
    have e' := Option.some.inj e
    subst e'
    exact ⟨_, rfl, a⟩
  | _, _, i + 1, _, .cons _ b, e => DtAll.get (i := i) b e
  | _, _, i, _, .nil, e => by simp at e
theorem DtAll.append {p : Addr} {H : Hp} : ∀ {ds es : List PyData} {vs ws : List V}, DtAll H p vs ds → DtAll H p ws es →
    DtAll H p (vs ++ ws) (ds ++ es)
  | _, _, _, _, .nil, b => b
  | _, _, _, _, .cons a r, b => .cons a (DtAll.append r b)
theorem DtAll.take {p : Addr} {H : Hp} : ∀ (n : Nat) {ds : List PyData} {vs : List V}, DtAll H p vs ds →
    DtAll H p (vs.take n) (ds.take n)
  | 0, _, _, _ => .nil
  | _ + 1, _, _, .nil => .nil
  | n + 1, _, _, .cons a b => .cons a (DtAll.take n b)
theorem DtAll.drop {p : Addr} {H : Hp} : ∀ (n : Nat) {ds : List PyData} {vs : List V}, DtAll H p vs ds →
    DtAll H p (vs.drop n) (ds.drop n)
  | 0, _, _, h => h
  | _ + 1, _, _, .nil => .nil
  | n + 1, _, _, .cons _ b => DtAll.drop n b
theorem DtAll.set {p : Addr} {H : Hp} {v : V} {d : PyData} (h : Dt H p v d) : ∀ (n : Nat) {ds : List PyData} {vs : List V},
    DtAll H p vs ds → DtAll H p (vs.set n v) (ds.set n d)
  | _, _, _, .nil => .nil
  | 0, _, _, .cons _ b => .cons h b
  | n + 1, _, _, .cons a b => .cons a (DtAll.set h n b)
theorem DtAll.reverse {p : Addr} {H : Hp} : ∀ {ds : List PyData} {vs : List V}, DtAll H p vs ds →
    DtAll H p vs.reverse ds.reverse
  | _, _, .nil => .nil
  | _, _, .cons a b => by
    rw [List.reverse_cons, List.reverse_cons]
    exact DtAll.append (DtAll.reverse b) (.cons a .nil)

/-! ### what repr tells of it -/
section
variable {X : Cx} {pins : List (Addr × Obj)} {σ : L2.St} {H : Hp} {s : Shared} {p : Addr}
/-- what is known of the pieces behind v -/
def Shows (X : Cx) (s : Shared) (u : Value) (d : PyData) : Prop :=
  (∃ as, Reads s.heap u d as) ∧
  ∃ bs, ReadAtMost s.heap d.depth bs ∧ ReprK X.prog X.w bs s.heap d.depth u d.shown
def ShowsAll (X : Cx) (s : Shared) (us : List Value) (ds : List PyData) : Prop :=
  (∃ as, ReadsAll s.heap us ds as) ∧
  ∃ bs, ReadAtMost s.heap (PyData.depthAll ds) bs ∧
    ReprAllK X.prog X.w bs s.heap (PyData.depthAll ds) us (PyData.shownAll ds)
theorem Shows.leaf {u : Value} {d : PyData} (r : ∃ as, Reads s.heap u d as) (h : ReprIs X.prog X.w u d.shown) : Shows X s u d :=
  ⟨r, [], (fun _ z => by cases z), .of_is h _ _ _⟩
theorem ShowsAll.cons {u : Value} {us : List Value} {d : PyData} {ds : List PyData}
    (a : Shows X s u d) (b : ShowsAll X s us ds) : ShowsAll X s (u :: us) (d :: ds) := by
  obtain ⟨⟨as, r⟩, b1, m1, k1⟩ := a
  obtain ⟨⟨as', r'⟩, b2, m2, k2⟩ := b
  refine ⟨⟨_, .cons r r'⟩, b1 ++ b2, ?_, ?_⟩
  · have l1 : d.depth ≤ PyData.depthAll (d :: ds) := by simp only [PyData.depthAll]; exact Nat.le_max_left _ _
    have l2 : PyData.depthAll ds ≤ PyData.depthAll (d :: ds) := by simp only [PyData.depthAll]; exact Nat.le_max_right _ _
    exact (m1.mono l1).append (m2.mono l2)
  · simp only [PyData.depthAll, PyData.shownAll]
    have x1 := (k1.more (as' := b1 ++ b2) fun c h => List.mem_append_left _ h).level_le (Nat.le_max_left d.depth (PyData.depthAll ds))
    have x2 := k2.more_le (as' := b1 ++ b2) (fun c h => List.mem_append_right _ h) (Nat.le_max_right d.depth (PyData.depthAll ds))
    exact .cons x1 x2
/-- the entries of a dict of numbers -/
theorem dict_pieces {P : Program} {w : World} (h : Heap) : ∀ {kvs : List (Key × V)} {vs : List (Key × Value)} {es : List DictEntry},
    (∀ x ∈ kvs, ∃ i, x.2 = V.int i) → KV kvs vs → Pairs (mixKind P w) es vs →
    PyData.showableKv (kvs.map pairD) = true → (∀ t ∈ PyData.shownKv (kvs.map pairD), t.length ≤ sizeLine) →
    (∃ as, ReadsAll h (es.map (·.key)) ((kvs.map pairD).map (·.1)) as) ∧
    (∃ as, ReadsAll h (es.map (·.val)) ((kvs.map pairD).map (·.2)) as) ∧
    ReprEntriesK P w [] h (PyData.depthKv (kvs.map pairD)) es (PyData.shownKv (kvs.map pairD))
  | [], _, _, _, .nil, .nil, _, _ => ⟨⟨_, .nil⟩, ⟨_, .nil⟩, by simp only [List.map_nil, PyData.shownKv]; exact .nil⟩
  | (k, x) :: kvs, _, _, hi, .cons r t, .cons e1 e2 rest, hs, hz => by
    rename_i kv vs e es
    obtain ⟨i, hx⟩ := hi (k, x) List.mem_cons_self
    simp only at hx
    subst hx
    have hs' : ((keyD k).showable = true ∧ (valD (V.int i)).showable = true) ∧ PyData.showableKv (kvs.map pairD) = true := by
      simpa only [List.map_cons, pairD, PyData.showableKv, Bool.and_eq_true] using hs
    obtain ⟨q1, q2, q3⟩ := dict_pieces (P := P) (w := w) h (fun y hy => hi y (List.mem_cons_of_mem _ hy)) t rest hs'.2
      (fun t ht => hz t (by simp only [List.map_cons, pairD, PyData.shownKv]; exact List.mem_cons_of_mem _ ht))
    obtain ⟨kk, rv⟩ := r
    simp only at kk rv
    obtain ⟨t0, ev⟩ := rv
    obtain ⟨as1, q1⟩ := q1
    obtain ⟨as2, q2⟩ := q2
    have eval : e.val = Value.int i t0 := e2.trans ev
    have len1 := hz ((keyD k).shown ++ ": " ++ (valD (V.int i)).shown) (by simp only [List.map_cons, pairD, PyData.shownKv]; exact List.mem_cons_self)
    rw [strLen_append, strLen_append] at len1
    have hkey : (∃ as, Reads h e.key (keyD k) as) ∧ ReprIs P w e.key (keyD k).shown := by
      rw [← kk] at e1
      rcases keyIs_shape (show keyIs k e.key = true from e1) with ⟨j, u, rfl, ek⟩ | ⟨z, u, rfl, ek⟩
      · rw [ek]
        refine ⟨⟨_, .int j u⟩, ?_⟩
        simp only [keyD, PyData.shown]
        exact ReprIs.int u (by simpa only [keyD, PyData.showable, decide_eq_true_eq] using hs'.1.1)
      · rw [ek]
        refine ⟨⟨_, .str z u⟩, ?_⟩
        simp only [keyD, PyData.shown] at len1 ⊢
        exact ReprIs.str z u (by omega)
    have hval : (∃ as, Reads h e.val (valD (V.int i)) as) ∧ ReprIs P w e.val (valD (V.int i)).shown := by
      rw [eval]
      refine ⟨⟨_, .int i t0⟩, ?_⟩
      simp only [valD, PyData.shown]
      exact ReprIs.int t0 (by simpa only [valD, PyData.showable, decide_eq_true_eq] using hs'.1.2)
    obtain ⟨⟨as3, r3⟩, k3⟩ := hkey
    obtain ⟨⟨as4, r4⟩, k4⟩ := hval
    refine ⟨⟨_, .cons r3 q1⟩, ⟨_, .cons r4 q2⟩, ?_⟩
    simp only [List.map_cons, pairD, PyData.shownKv]
    have up : ∀ {es : List DictEntry} {ps : List Str} {a b : Nat}, a ≤ b → ReprEntriesK P w [] h a es ps → ReprEntriesK P w [] h b es ps := by
      intro es ps a b hab z
      induction z with
      | nil => exact .nil
      | cons z1 z2 _ ih => exact .cons (z1.level_le hab) (z2.level_le hab) ih
    refine .cons (.of_is k3 _ _ _) (.of_is k4 _ _ _) (up ?_ q3)
    simp only [PyData.depthKv]
    omega
mutual
theorem Dt.shows (I : Inv X pins σ H s) : ∀ {d : PyData} {v : V} {u : Value}, Dt H p v d → RelV v u →
    d.showable = true → d.shown.length ≤ sizeLine → Shows X s u d
  | _, _, _, .non, r, _, _ => by
    cases r
    exact .leaf ⟨_, .none⟩ (by simp only [PyData.shown]; exact ReprIs.none)
  | _, _, _, .bl b, r, _, _ => by
    cases r
    exact .leaf ⟨_, .bool b⟩ (by simp only [PyData.shown]; exact ReprIs.bool b)
  | _, _, _, .int i, r, hs, _ => by
    obtain ⟨t, rfl⟩ := r
    exact .leaf ⟨_, .int i t⟩ (by simp only [PyData.shown]; exact ReprIs.int t (by simpa only [PyData.showable, decide_eq_true_eq] using hs))
  | _, _, _, .str x, r, _, hz => by
    obtain ⟨t, rfl⟩ := r
    simp only [PyData.shown] at hz
    exact .leaf ⟨_, .str x t⟩ (by simp only [PyData.shown]; exact ReprIs.str x t hz)
  | .list ds, _, _, .lst (a := a) (xs := xs) n rd ha, r, hs, hz => by
    cases r
    obtain ⟨its, rv, ⟨o, k, ho, hc, _, hd⟩, _⟩ := I.list (SqL.of rd)
    have hz' : (listText (PyData.shownAll ds)).length ≤ sizeLine := by simpa only [PyData.shown] using hz
    obtain ⟨⟨as, rr⟩, bs, m, kk⟩ := DtAll.shows I ha rv (by simpa only [PyData.showable] using hs) (fun t ht => Nat.le_trans (listText_mem_le ht) hz')
    have whole : Reads s.heap (.ref a) (.list ds) _ := .list ho hc hd (by simpa using rr)
    have lt : PyData.depthAll ds < (PyData.list ds).depth := by simp only [PyData.depth]; omega
    have out := not_mem_of_deeper whole lt m
    refine ⟨⟨_, whole⟩, a :: bs, ReadAtMost.cons whole (Nat.le_of_lt lt) m, ?_⟩
    simp only [PyData.depth, PyData.shown]
    cases its with
    | nil =>
      cases rr
      simp only [PyData.shownAll, listText_nil]
      exact ReprK.listEmpty ho hc (by simpa using hd)
    | cons y l => exact ReprK.list ho hc (by simpa using hd) out (by simpa using kk.length_eq) (fun i z e => kk.item i z (by simpa using e))
  | .tuple ds, _, _, .tup (a := a) n rd ha, r, hs, hz => by
    cases r
    obtain ⟨its, rv, ⟨o, ho, hc, k, hd⟩, _⟩ := I.tuple (SqT.of rd)
    have hz' : (tupleText (PyData.shownAll ds)).length ≤ sizeLine := by simpa only [PyData.shown] using hz
    obtain ⟨⟨as, rr⟩, bs, m, kk⟩ := DtAll.shows I ha rv (by simpa only [PyData.showable] using hs) (fun t ht => Nat.le_trans (tupleText_mem_le ht) hz')
    have whole : Reads s.heap (.ref a) (.tuple ds) _ := .tuple ho hc hd (by simpa using rr)
    have lt : PyData.depthAll ds < (PyData.tuple ds).depth := by simp only [PyData.depth]; omega
    have out := not_mem_of_deeper whole lt m
    refine ⟨⟨_, whole⟩, a :: bs, ReadAtMost.cons whole (Nat.le_of_lt lt) m, ?_⟩
    simp only [PyData.depth, PyData.shown]
    exact ReprK.tuple ho hc hd out (by simpa using kk)
  | _, _, _, .dct (a := a) (kvs := kvs) n rd hi, r, hs, hz => by
    cases r
    obtain ⟨_, no1, vs, rel, o, es, ep, ho, hx, hd, _, hp, _⟩ := dk_of I.hok rd
    have hz' : (dictText (PyData.shownKv (kvs.map pairD))).length ≤ sizeLine := by simpa only [PyData.shown] using hz
    obtain ⟨⟨as1, r1⟩, ⟨as2, r2⟩, ents⟩ := dict_pieces s.heap hi rel hp (by simpa only [PyData.showable] using hs) (fun t ht => Nat.le_trans (dictText_mem_le ht) hz')
    have whole : Reads s.heap (.ref a) (.dict (kvs.map pairD)) _ := .dict ho hx.1 hd r1 r2
    have m : ReadAtMost s.heap (PyData.depthKv (kvs.map pairD)) [] := fun _ z => by cases z
    have lt : PyData.depthKv (kvs.map pairD) < (PyData.dict (kvs.map pairD)).depth := by simp only [PyData.depth]; omega
    refine ⟨⟨_, whole⟩, [a], ReadAtMost.cons whole (Nat.le_of_lt lt) m, ?_⟩
    simp only [PyData.depth, PyData.shown]
    exact ReprK.dict ho hx.1 hd no1 List.not_mem_nil ents
theorem DtAll.shows (I : Inv X pins σ H s) : ∀ {ds : List PyData} {vs : List V} {us : List Value}, DtAll H p vs ds → Vals vs us →
    PyData.showableAll ds = true → (∀ t ∈ PyData.shownAll ds, t.length ≤ sizeLine) → ShowsAll X s us ds
  | _, _, _, .nil, r, _, _ => by
    cases r
    exact ⟨⟨_, .nil⟩, [], (fun _ z => by cases z), by simp only [PyData.shownAll]; exact .nil⟩
  | _, _, _, .cons a b, r, hs, hz => by
    cases r with
    | cons r1 r2 =>
      have hs' := hs
      simp only [PyData.showableAll, Bool.and_eq_true] at hs'
      exact .cons (Dt.shows I a r1 hs'.1 (hz _ (by simp only [PyData.shownAll]; exact List.mem_cons_self)))
        (DtAll.shows I b r2 hs'.2 fun t ht => hz t (by simp only [PyData.shownAll]; exact List.mem_cons_of_mem _ ht))
end
end
end Cm
namespace Cm
open PySem PySem.Spec PyProof.Rows L2
section
variable {X : Cx} {pins : List (Addr × Obj)} {σ : L2.St} {H : Hp} {s : Shared} {p : Addr}
theorem old_keeps {s : Shared} : ∀ b o, s.heap.get? b = some o → s.heap.get? b = some o := fun _ _ e => e
/-- repr(x) of data, no repr being under way -/
theorem repr_run (I : Inv X pins σ H s) (hg : X.A.guards = some []) (hu : X.A.units + 64 < cLine) {Q : Value → Shared → Prop} {E : Value → Shared → Prop} :
    ∀ {d : PyData} {v : V} {u : Value}, Dt H p v d → RelV v u → d.showable = true → d.depth ≤ 60 → d.shown.length ≤ sizeLine →
    (∀ h' t tk, (∀ b o, s.heap.get? b = some o → h'.get? b = some o) → Q (.str d.shown t) { s with heap := h', toks := tk }) →
    wpAny (model X.prog X.w) X.A (call (.builtin "repr") [u]) Q E s
  | _, _, _, .non, r, _, _, _, q => by
    cases r
    simp only [PyData.shown] at q
    exact PySem.P.repr_of_none (q s.heap _ _ old_keeps)
  | _, _, _, .bl b, r, _, _, _, q => by
    cases r
    simp only [PyData.shown] at q
    exact PySem.P.repr_of_bool (q s.heap _ _ old_keeps)
  | _, _, _, .int i, r, hs, _, _, q => by
    obtain ⟨t, rfl⟩ := r
    simp only [PyData.shown] at q
    exact PySem.P.repr_of_int (by simpa only [PyData.showable, decide_eq_true_eq] using hs) (q s.heap _ _ old_keeps)
  | _, _, _, .str x, r, _, _, hz, q => by
    obtain ⟨t, rfl⟩ := r
    simp only [PyData.shown] at q hz
    exact PySem.P.repr_of_str (q s.heap _ _ old_keeps) hz
  | .list ds, _, _, .lst (a := a) (xs := xs) n rd ha, r, hs, hd, hz, q => by
    cases r
    obtain ⟨its, rv, ⟨o, k, ho, hc, _, hdat⟩, _⟩ := I.list (SqL.of rd)
    have hz' : (listText (PyData.shownAll ds)).length ≤ sizeLine := by simpa only [PyData.shown] using hz
    obtain ⟨⟨as, rr⟩, bs, m, kk⟩ := DtAll.shows I ha rv (by simpa only [PyData.showable] using hs) (fun t ht => Nat.le_trans (listText_mem_le ht) hz')
    have whole : Reads s.heap (.ref a) (.list ds) _ := .list ho hc hdat (by simpa using rr)
    have lt : PyData.depthAll ds < (PyData.list ds).depth := by simp only [PyData.depth]; omega
    have out := not_mem_of_deeper whole lt m
    refine call_repr_slot (by omega) ⟨o, ho, hc⟩ F.slot_list_repr.toG ?_
    simp only [PyData.shown] at q
    cases its with
    | nil =>
      cases rr
      simp only [PyData.shownAll, listText_nil] at q
      exact call_list_repr_empty ⟨o, ho, hc⟩ ho (by simpa using hdat) ⟨_, _, rfl, q s.heap _ _ old_keeps⟩
    | cons y l =>
      exact call_list_reprK ho hc (by simpa using hdat) out (by simpa using kk.length_eq) (fun i z e => kk.item i z (by simpa using e))
        (A := X.A.in1) hg (fun b _ => Clear.nil b) (by show X.A.units + 1 + _ < cLine; omega) old_keeps (fun h' t tk hk => ⟨_, _, rfl, q h' t tk hk⟩) hz'
  | .tuple ds, _, _, .tup (a := a) n rd ha, r, hs, hd, hz, q => by
    cases r
    obtain ⟨its, rv, ⟨o, ho, hc, k, hdat⟩, _⟩ := I.tuple (SqT.of rd)
    have hz' : (tupleText (PyData.shownAll ds)).length ≤ sizeLine := by simpa only [PyData.shown] using hz
    obtain ⟨⟨as, rr⟩, bs, m, kk⟩ := DtAll.shows I ha rv (by simpa only [PyData.showable] using hs) (fun t ht => Nat.le_trans (tupleText_mem_le ht) hz')
    have whole : Reads s.heap (.ref a) (.tuple ds) _ := .tuple ho hc hdat (by simpa using rr)
    have lt : PyData.depthAll ds < (PyData.tuple ds).depth := by simp only [PyData.depth]; omega
    have out := not_mem_of_deeper whole lt m
    refine call_repr_slot (by omega) ⟨o, ho, hc⟩ F.slot_tuple_repr ?_
    simp only [PyData.shown] at q
    exact call_tuple_reprK ho hc hdat out (by simpa using kk) (A := X.A.in1) hg (fun b _ => Clear.nil b)
      (by show X.A.units + 1 + _ < cLine; omega) old_keeps (fun h' t tk hk => ⟨_, _, rfl, q h' t tk hk⟩) hz'
  | _, _, _, .dct (a := a) (kvs := kvs) n rd hi, r, hs, hd, hz, q => by
    cases r
    obtain ⟨_, no1, vs, rel, o, es, ep, ho, hx, hdat, _, hp, _⟩ := dk_of I.hok rd
    have hz' : (dictText (PyData.shownKv (kvs.map pairD))).length ≤ sizeLine := by simpa only [PyData.shown] using hz
    obtain ⟨⟨as1, r1⟩, ⟨as2, r2⟩, ents⟩ := dict_pieces s.heap hi rel hp (by simpa only [PyData.showable] using hs) (fun t ht => Nat.le_trans (dictText_mem_le ht) hz')
    simp only [PyData.depth] at hd
    simp only [PyData.shown] at q
    refine call_repr_slot (by omega) ⟨o, ho, hx.1⟩ F.slot_dict_repr ?_
    exact call_dict_reprK ho hx.1 hdat no1 List.not_mem_nil ents (A := X.A.in1) hg (fun b _ => Clear.nil b)
      (by show X.A.units + 1 + _ < cLine; omega) old_keeps (fun h' t tk hk => ⟨_, _, rfl, q h' t tk hk⟩) hz'
/-- data that is told within the lines -/
structure Fit (m n : Nat) (d : PyData) : Prop where
  leaves : d.leavesShort 250 = true
  sh : d.showable = true
  dp : d.depth ≤ m
  bk : d.bulk ≤ n
theorem Fit.shown {m n : Nat} {d : PyData} (f : Fit m n d) (h : n ≤ 60000) : d.shown.length ≤ sizeLine := by
  have h1 := PyData.shown_le_bulk 250 (by decide) d f.leaves
  have h2 := f.bk
  have h3 : (250 + 2) * d.bulk ≤ 252 * 60000 := Nat.mul_le_mul (Nat.le_refl _) (Nat.le_trans h2 h)
  have h4 : 252 * 60000 + 250 ≤ sizeLine := by decide
  omega
/-- repr(x) -/
def rRepr (p : Addr) : List V → Hp → VK → Prop := fun xs H Q => ∃ (x : V) (d : PyData), xs = [x] ∧ Dt H p x d ∧ Fit 60 60000 d ∧ Q (.str d.shown) H
theorem call_repr (hg : X.A.guards = some []) (hu : X.A.units + 64 < cLine) (p : Addr) : CallR X (.builtin "repr") (rRepr p) := by
  intro pins s σ H xs us Q I r h
  obtain ⟨x, d, rfl, hd, f, q⟩ := h
  cases r with
  | cons rx rt =>
    cases rt
    exact repr_run I hg hu hd rx f.sh f.dp (f.shown (Nat.le_refl _)) fun h' t tk hk => ⟨.str d.shown, H, I.kept hk, ⟨_, rfl⟩, q⟩
end
end Cm
set_option Elab.async false
set_option linter.all false
set_option maxRecDepth 100000
set_option maxHeartbeats 4000000
/-! ## 3. Steps of a reading -/
namespace Cm
open PySem PySem.Spec PyProof.Rows L2
section
variable {K : PySem.W.Frag} {H : Hp} {Q : VK} {σ : L2.St} {D : Ends}
theorem r_var {i : Nat} {v : V} (h : σ[i]? = some (some v)) (q : Q v H) : tVar i σ H Q := ⟨v, h, q⟩
theorem r_c {v : V} (q : Q v H) : tC v σ H Q := q
theorem r_op {r : R2} {ta tb : TE} (q : ta σ H fun x H1 => tb σ H1 fun y H2 => r x y H2 Q) : tOp r ta tb σ H Q := q
theorem r_un {r : V → Hp → VK → Prop} {ta : TE} (q : ta σ H fun x H1 => r x H1 Q) : tUn r ta σ H Q := q
theorem r_rI0 {g : Int → Int → V} {i j : Int} (q : Q (g i j) H) : rI0 g (.int i) (.int j) H Q := ⟨i, j, rfl, rfl, q⟩
theorem r_rI {C : Int → Int → Prop} {g : Int → Int → V} {i j : Int} (c : C i j) (q : Q (g i j) H) :
    rI C g (.int i) (.int j) H Q := ⟨i, j, rfl, rfl, c, q⟩
theorem r_rU {g : Int → V} {i : Int} (q : Q (g i) H) : rU g (.int i) H Q := ⟨i, rfl, q⟩
theorem r_eqI {i j : Int} (q : Q (.bl (decide (i = j))) H) : rEq (.int i) (.int j) H Q := by
  refine ⟨rfl, ?_⟩
  rw [show decide (V.int i = V.int j) = decide (i = j) from by
    by_cases h : i = j
    · rw [h, decide_eq_true rfl, decide_eq_true rfl]
    · rw [decide_eq_false h, decide_eq_false (fun z => h (V.int.inj z))]]
  exact q
theorem r_neI {i j : Int} (q : Q (.bl (!decide (i = j))) H) : rNe (.int i) (.int j) H Q := by
  refine ⟨rfl, ?_⟩
  rw [show decide (V.int i = V.int j) = decide (i = j) from by
    by_cases h : i = j
    · rw [h, decide_eq_true rfl, decide_eq_true rfl]
    · rw [decide_eq_false h, decide_eq_false (fun z => h (V.int.inj z))]]
  exact q
theorem r_eqS {i j : Str} (q : Q (.bl (decide (i = j))) H) : rEq (.str i) (.str j) H Q := by
  refine ⟨rfl, ?_⟩
  rw [show decide (V.str i = V.str j) = decide (i = j) from by
    by_cases h : i = j
    · rw [h, decide_eq_true rfl, decide_eq_true rfl]
    · rw [decide_eq_false h, decide_eq_false (fun z => h (V.str.inj z))]]
  exact q
theorem r_neS {i j : Str} (q : Q (.bl (!decide (i = j))) H) : rNe (.str i) (.str j) H Q := by
  refine ⟨rfl, ?_⟩
  rw [show decide (V.str i = V.str j) = decide (i = j) from by
    by_cases h : i = j
    · rw [h, decide_eq_true rfl, decide_eq_true rfl]
    · rw [decide_eq_false h, decide_eq_false (fun z => h (V.str.inj z))]]
  exact q
theorem r_nil {Q : List V → Hp → Prop} (q : Q [] H) : tNil σ H Q := q
theorem r_cons {ta : TE} {tr : TA} {Q : List V → Hp → Prop} (q : ta σ H fun x H1 => tr σ H1 fun xs H2 => Q (x :: xs) H2) :
    tCons ta tr σ H Q := q
theorem r_tup {t : TA} (q : t σ H fun xs H1 => xs.length ≤ sizeLine ∧ ∀ p, H1 p = none → Q (.ref p) (upd H1 p (.tup xs))) : tTup t σ H Q := q
theorem r_lst {t : TA} (q : t σ H fun xs H1 => xs.length ≤ sizeLine ∧ ∀ p, H1 p = none → Q (.ref p) (upd H1 p (.lst xs))) : tLst t σ H Q := q
theorem r_small {n : Nat} {P : Prop} (h : n ≤ 1000) (q : P) : n ≤ sizeLine ∧ P := ⟨Nat.le_trans h (by decide), q⟩
theorem r_cb {r : List V → Hp → VK → Prop} {t : TA} (q : t σ H fun vs H1 => r vs H1 Q) : tCB r t σ H Q := q
theorem r_call {sp : Sp} {dvs : List V} {E : XK} {t : TA} (q : t σ H fun vs H1 => sp (vs ++ dvs) H1 Q E) : tCall sp dvs E t σ H Q := q
theorem r_if {t : TT} {ta tb : TE} (q : t σ H fun c H1 => if c = true then ta σ H1 Q else tb σ H1 Q) : tIf t ta tb σ H Q := q
theorem r_test {t : TE} {Q : Bool → Hp → Prop} (q : t σ H fun x H' => ∃ k, x = .bl k ∧ Q k H') : tTest t σ H Q := q
theorem r_B {t : TE} {Q : Bool → Hp → Prop} (q : t σ H fun x H1 => ∃ c, x = .bl c ∧ Q c H1) : tB t σ H Q := q
theorem r_isbl {b : Bool} {Q : Bool → Prop} (q : Q b) : ∃ c, V.bl b = V.bl c ∧ Q c := ⟨b, rfl, q⟩
theorem r_and {t u : TT} {Q : Bool → Hp → Prop} (q : t σ H fun c H1 => if c = true then u σ H1 Q else Q false H1) : tAnd t u σ H Q := q
theorem r_or {t u : TT} {Q : Bool → Hp → Prop} (q : t σ H fun c H1 => if c = true then Q true H1 else u σ H1 Q) : tOr t u σ H Q := q
theorem r_not {t : TT} {Q : Bool → Hp → Prop} (q : t σ H fun c H1 => Q (!c) H1) : tNot t σ H Q := q
theorem r_andV {ta tb : TE} (q : ta σ H fun x H1 => ∃ c, x = .bl c ∧ if c = true then tb σ H1 Q else Q (.bl false) H1) : tAndV ta tb σ H Q := q
theorem r_orV {ta tb : TE} (q : ta σ H fun x H1 => ∃ c, x = .bl c ∧ if c = true then Q (.bl true) H1 else tb σ H1 Q) : tOrV ta tb σ H Q := q
theorem r_notV {ta : TE} (q : ta σ H fun x H1 => ∃ c, x = .bl c ∧ Q (.bl (!c)) H1) : tNotV ta σ H Q := q
theorem r_chain {r r' : R2} {ta tb tc : TE} (q : ta σ H fun x H1 => tb σ H1 fun y H2 => r x y H2 fun z H3 => ∃ k, z = .bl k ∧
    if k = true then tc σ H3 fun u H4 => r' y u H4 Q else Q (.bl false) H3) : tChain r r' ta tb tc σ H Q := q
theorem r_ite {c : Bool} {A B : Prop} (h1 : c = true → A) (h2 : c = false → B) : if c = true then A else B := by
  cases c with
  | true => exact iteT (h1 rfl)
  | false => exact iteF (h2 rfl)
-- statements
theorem r_next (q : D.nx σ H) : tNext D σ H := q
theorem r_seq {t u : TS} (q : t { nx := u D, rt := D.rt, bk := D.bk, ct := D.ct } σ H) : tSeq t u D σ H := q
theorem r_ret {te : TE} (q : te σ H D.rt) : tRet te D σ H := q
theorem r_retN (q : D.rt .non H) : tRetN D σ H := q
theorem r_drop {te : TE} (q : te σ H fun _ H1 => D.nx σ H1) : tDrop te D σ H := q
theorem r_ifS {c : TT} {t u : TS} (q : c σ H fun b H1 => if b = true then t D σ H1 else u D σ H1) : tIfS c t u D σ H := q
theorem r_asg {te : TE} {g : TG} (q : te σ H fun x H1 => g x σ H1 D.nx) : tAsg te g D σ H := q
theorem r_break (q : D.bk σ H) : tBreak D σ H := q
theorem r_cont (q : D.ct σ H) : tCont D σ H := q
theorem r_gname {i : Nat} {v : V} {Q : L2.St → Hp → Prop} {σ' : L2.St} (e : σ.set i (some v) = σ') (q : Q σ' H) : gName i v σ H Q := by
  subst e; exact q
theorem r_gsub {to ti : TE} {t : TSet} {v : V} {Q : L2.St → Hp → Prop} (q : to σ H fun o H1 => ti σ H1 fun i H2 => t o i v H2 fun H3 => Q σ H3) :
    gSub to ti t v σ H Q := q
theorem r_gnil {Q : L2.St → Hp → Prop} (q : Q σ H) : gNil [] σ H Q := ⟨rfl, q⟩
theorem r_gcons {t : TG} {u : TGs} {v : V} {r : List V} {Q : L2.St → Hp → Prop} (q : t v σ H fun σ' H' => u r σ' H' Q) : gCons t u (v :: r) σ H Q := ⟨v, r, rfl, q⟩
theorem r_gtup {n : Nat} {t : TGs} {a : Addr} {xs : List V} {Q : L2.St → Hp → Prop} (h : H a = some (.tup xs)) (e : xs.length = n) (q : t xs σ H Q) :
    gTup K n t (.ref a) σ H Q := ⟨a, xs, rfl, SqT.of h, e, q⟩
theorem r_par {i j : Nat} {ta : TA} (q : ta σ H fun vs H1 => ∃ v w, vs = [v, w] ∧ D.nx ((σ.set i (some v)).set j (some w)) H1) : tPar i j ta D σ H := q
theorem r_par3 {i j l : Nat} {ta : TA} (q : ta σ H fun vs H1 => ∃ u v w, vs = [u, v, w] ∧ D.nx (((σ.set i (some u)).set j (some v)).set l (some w)) H1) : tPar3 i j l ta D σ H := q
theorem r_two {v w : V} {Q : V → V → Prop} (q : Q v w) : ∃ x y, [v, w] = [x, y] ∧ Q x y := ⟨v, w, rfl, q⟩
theorem r_three {u v w : V} {Q : V → V → V → Prop} (q : Q u v w) : ∃ x y z, [u, v, w] = [x, y, z] ∧ Q x y z := ⟨u, v, w, rfl, q⟩
-- items
theorem r_ixL {p : Addr} {xs : List V} {i : Int} {v : V} (h : H p = some (.lst xs)) (e : atI xs i = some v) (q : Q v H) : rIx K (.ref p) (.int i) H Q :=
  .inl ⟨p, xs, i, v, rfl, rfl, SqL.of h, e, q⟩
theorem r_ixT {p : Addr} {xs : List V} {i : Int} {v : V} (h : H p = some (.tup xs)) (e : atI xs i = some v) (q : Q v H) : rIx K (.ref p) (.int i) H Q :=
  .inr (.inl ⟨p, xs, i, v, rfl, rfl, SqT.of h, e, q⟩)
theorem r_ixS {z : Str} {i : Int} {c : Nat} (h : z.length ≤ sizeLine) (e : atI z.cps.toList i = some c) (q : Q (.str ⟨#[c]⟩) H) : rIx K (.str z) (.int i) H Q :=
  .inr (.inr ⟨z, i, c, rfl, rfl, h, e, q⟩)
theorem atI_in {α : Type} {xs : List α} {i : Int} (h0 : 0 ≤ i) (h : i < xs.length) : ∃ v, v ∈ xs ∧ atI xs i = some v := by
  obtain ⟨k, rfl⟩ := Int.eq_ofNat_of_zero_le h0
  have hk : k < xs.length := by omega
  exact ⟨xs[k], List.getElem_mem hk, atI_nat (List.getElem?_eq_getElem hk)⟩
/-- an item of a list at a drawn place -/
theorem r_pickL {p : Addr} {xs : List V} {i : Int} (h : H p = some (.lst xs)) (h0 : 0 ≤ i) (h1 : i < xs.length) (q : ∀ v, v ∈ xs → Q v H) : rIx K (.ref p) (.int i) H Q := by
  obtain ⟨v, m, e⟩ := atI_in h0 h1
  exact r_ixL h e (q v m)
theorem r_setL {p : Addr} {xs ys : List V} {k : Int} {j : Nat} {v : V} {Q : Hp → Prop} (h : H p = some (.lst xs)) (e : ixN xs.length k = some j) (e2 : xs.set j v = ys) (q : Q (upd H p (.lst ys))) :
    rSetL (.ref p) (.int k) v H Q := ⟨p, xs, k, j, rfl, rfl, h, e, e2 ▸ q⟩
theorem r_setAt {p : Addr} {xs : List V} {k : Int} {v : V} {Q : Hp → Prop} (h : H p = some (.lst xs)) (h0 : 0 ≤ k) (h1 : k < xs.length) (q : Q (upd H p (.lst (xs.set k.toNat v)))) :
    rSetL (.ref p) (.int k) v H Q := ⟨p, xs, k, k.toNat, rfl, rfl, h, by unfold ixN; rw [if_pos h0, if_pos h1], q⟩
theorem iteT_of {c : Bool} {A B : Prop} (e : c = true) (h : A) : if c = true then A else B := by rw [e]; exact iteT h
theorem iteF_of {c : Bool} {A B : Prop} (e : c = false) (h : B) : if c = true then A else B := by rw [e]; exact iteF h
theorem r_conv {a b : Bool} (e : a = b) (q : Q (.bl a) H) : Q (.bl b) H := e ▸ q
theorem r_itup {te : TE} {R : It → Hp → Prop} (q : te σ H fun x H1 => ∃ a, x = .ref a ∧ (∃ xs, SqT K H1 a xs) ∧ R (Itt K a) H1) : iTup K te σ H R := q
theorem r_ilst {te : TE} {R : It → Hp → Prop} (q : te σ H fun x H1 => ∃ a, x = .ref a ∧ (∃ xs, SqL K H1 a xs) ∧ R (Itl K a) H1) : iList K te σ H R := q
theorem r_atT {a : Addr} {xs : List V} {R : Addr → Prop} (h : H a = some (.tup xs)) (q : R a) : ∃ b, V.ref a = .ref b ∧ (∃ xs, SqT K H b xs) ∧ R b := ⟨a, rfl, ⟨xs, SqT.of h⟩, q⟩
theorem r_atL {a : Addr} {xs : List V} {R : Addr → Prop} (h : H a = some (.lst xs)) (q : R a) : ∃ b, V.ref a = .ref b ∧ (∃ xs, SqL K H b xs) ∧ R b := ⟨a, rfl, ⟨xs, SqL.of h⟩, q⟩
theorem r_irng1 {ta : TA} {R : It → Hp → Prop} (q : ta σ H fun vs H1 => ∃ j : Int, vs = [.int j] ∧ -(2 ^ 62) ≤ j ∧ j < 2 ^ 62 ∧ R (Itr 0 j.toNat) H1) : iRng1 ta σ H R := q
theorem r_rng {i : Int} {R : Int → Prop} (h : -(2 ^ 62) ≤ i) (h' : i < 2 ^ 62) (q : R i) : ∃ j : Int, [V.int i] = [.int j] ∧ -(2 ^ 62) ≤ j ∧ j < 2 ^ 62 ∧ R j := ⟨i, rfl, h, h', q⟩
theorem r_append {l : Addr} {xs : List V} {y : V} (h : H l = some (.lst xs)) (e : xs.length < 1000) (q : Q .non (upd H l (.lst (xs ++ [y])))) :
    rAppend (.ref l) [y] H Q := ⟨l, xs, y, rfl, rfl, h, Nat.lt_of_lt_of_le e (by decide), q⟩
theorem r_bm {T : String} {r : V → List V → Hp → VK → Prop} {to : TE} {t : TA}
    (q : to σ H fun x H1 => tyV K T x H1 ∧ t σ H1 fun xs H2 => r x xs H2 Q) : tBM K T r to t σ H Q := q
theorem r_bm0 {T : String} {r : V → List V → Hp → VK → Prop} {to : TE}
    (q : to σ H fun x H1 => tyV K T x H1 ∧ r x [] H1 Q) : tBM0 K T r to σ H Q := q
theorem r_tyL {l : Addr} {xs : List V} {P : Prop} (h : H l = some (.lst xs)) (q : P) : tyV K "list" (.ref l) H ∧ P :=
  ⟨Or.inl ⟨rfl, _, SqL.of h⟩, q⟩
theorem r_tyS {z : Str} {P : Prop} (q : P) : tyV K "str" (.str z) H ∧ P := ⟨rfl, q⟩
end
/-! ### operators of several kinds of things -/
theorem opOr {X : Cx} {f : Value → Value → Sem Value} {r r' : R2} (h : OpR X f r) (h' : OpR X f r') :
    OpR X f (fun x y H Q => r x y H Q ∨ r' x y H Q) := by
  intro pins s σ H x y v u Q I rx ry q
  rcases q with q | q
  · exact h pins s σ H x y v u Q I rx ry q
  · exact h' pins s σ H x y v u Q I rx ry q
theorem callOr {X : Cx} {f : Value} {r r' : List V → Hp → VK → Prop} (h : CallR X f r) (h' : CallR X f r') :
    CallR X f (fun xs H Q => r xs H Q ∨ r' xs H Q) := by
  intro pins s σ H xs us Q I rx q
  rcases q with q | q
  · exact h pins s σ H xs us Q I rx q
  · exact h' pins s σ H xs us Q I rx q
def rAddS : R2 := fun x y H Q => ∃ i j, x = .str i ∧ y = .str j ∧ i.length + j.length ≤ sizeLine ∧ Q (.str (i ++ j)) H
/-- + -/
def rPlus (K : PySem.W.Frag) : R2 := fun x y H Q => rI0 (fun i j => .int (i + j)) x y H Q ∨ (rAddS x y H Q ∨ (rCat x y H Q ∨ rCatA K x y H Q))
theorem op_plus {X : Cx} : OpR X (binaryOp .Add) (rPlus X.K) := opOr op_add (opOr op_add_str (opOr op_cat op_catA))
/-- * -/
def rTimes (K : PySem.W.Frag) : R2 := fun x y H Q => rI CMulW (fun i j => .int (i * j)) x y H Q ∨ (rRep x y H Q ∨ rRepT K x y H Q)
theorem op_times {X : Cx} : OpR X (binaryOp .Mult) (rTimes X.K) := opOr op_mulW (opOr op_rep op_repT)
/-- == and != -/
def rSame (K : PySem.W.Frag) : R2 := fun x y H Q => rEq x y H Q ∨ rEqD K x y H Q
def rUnlike (K : PySem.W.Frag) : R2 := fun x y H Q => rNe x y H Q ∨ rNeD K x y H Q
theorem op_same {X : Cx} (hu : X.A.units + 64 < cLine) : OpR X (compareOp .Eq) (rSame X.K) := opOr op_eq (op_eqD hu)
theorem op_unlike {X : Cx} (hu : X.A.units + 64 < cLine) : OpR X (compareOp .NotEq) (rUnlike X.K) := opOr op_ne (op_neD hu)
/-- // -/
def rDiv : R2 := rI CDivW fun i j => .int (i / j)
def rMod : R2 := rI (fun _ j => 0 < j) fun i j => .int (i % j)
theorem op_div {X : Cx} : OpR X (binaryOp .FloorDiv) rDiv := op_fdivW
theorem op_rest {X : Cx} : OpR X (binaryOp .Mod) rMod := op_mod
def rPow : R2 := rI CPow fun i j => .int (i ^ j.toNat)
theorem op_power {X : Cx} : OpR X (binaryOp .Pow) rPow := op_pow
def rLen (K : PySem.W.Frag) : List V → Hp → VK → Prop := fun xs H Q => ∃ x n, xs = [x] ∧ LenV K x H n ∧ Q (.int n) H
theorem call_size {X : Cx} : CallR X (.builtin "len") (rLen X.K) := call_len
def rMin2 : List V → Hp → VK → Prop := fun xs H Q => ∃ i j, xs = [.int i, .int j] ∧ Q (.int (if j < i then j else i)) H
def rMax2 : List V → Hp → VK → Prop := fun xs H Q => ∃ i j, xs = [.int i, .int j] ∧ Q (.int (if j > i then j else i)) H
theorem call_least {X : Cx} (hc : X.calm = true) : CallR X (.builtin "min") rMin2 := call_min2 hc
theorem call_most {X : Cx} (hc : X.calm = true) : CallR X (.builtin "max") rMax2 := call_max2 hc
def rListOf (K : PySem.W.Frag) : List V → Hp → VK → Prop := fun xs H Q => ∃ p ys, xs = [.ref p] ∧ (SqL K H p ys ∨ SqT K H p ys) ∧ ∀ l, H l = none → Q (.ref l) (upd H l (.lst ys))
theorem call_listed {X : Cx} : CallR X (.type "list") (rListOf X.K) := call_list_of
def rTupOf (K : PySem.W.Frag) : List V → Hp → VK → Prop := fun xs H Q => ∃ p ys, xs = [.ref p] ∧ ((SqL K H p ys ∧ ∀ l, H l = none → Q (.ref l) (upd H l (.tup ys))) ∨ (SqT K H p ys ∧ Q (.ref p) H))
theorem call_tupled {X : Cx} : CallR X (.type "tuple") (rTupOf X.K) := call_tuple_of
def rSlS : V → Option Int → Option Int → Hp → VK → Prop := fun x lo hi H Q => ∃ z : Str, x = .str z ∧ z.length ≤ sizeLine ∧ Q (.str (cutS z lo hi)) H
def rCut (K : PySem.W.Frag) : V → Option Int → Option Int → Hp → VK → Prop := fun x lo hi H Q => rSlL K x lo hi H Q ∨ (rSlA K x lo hi H Q ∨ rSlS x lo hi H Q)
theorem sl_cut {X : Cx} : SlR X (rCut X.K) := sl_list.or (sl_tupA.or sl_str)
def rInsert : V → List V → Hp → VK → Prop := fun x vs H Q => ∃ (l : Addr) (xs : List V) (i : Int) (y : V), x = .ref l ∧ vs = [.int i, y] ∧ H l = some (.lst xs) ∧ xs.length < sizeLine ∧ 0 ≤ i ∧ i < 2 ^ 63 ∧
    Q .non (upd H l (.lst (xs.take i.toNat ++ [y] ++ xs.drop i.toNat)))
theorem mt_ins {X : Cx} : MtR X "list.insert" rInsert := mt_insert
def rUpper : V → List V → Hp → VK → Prop := fun x xs H Q => ∃ a, x = .str a ∧ xs = [] ∧ a.length ≤ 5592405 ∧ Q (.str (Txt.upper a)) H
theorem mt_up {X : Cx} : MtR X "str.upper" rUpper := mt_upper
def rJoin (K : PySem.W.Frag) : V → List V → Hp → VK → Prop := fun x xs H Q => ∃ a p, ∃ ys : List Str, x = .str a ∧ xs = [.ref p] ∧ (SqL K H p (ys.map V.str) ∨ SqT K H p (ys.map V.str)) ∧
    (ys.map (·.length)).sum + ys.length * a.length ≤ 16777216 ∧ Q (.str (Txt.join a ys)) H
theorem mt_joined {X : Cx} : MtR X "str.join" (rJoin X.K) := mt_join
/-- the name of a kind -/
def kindD : PyData → String
  | .none => "NoneType" | .bool _ => "bool" | .int _ => "int" | .str _ => "str"
  | .list _ => "list" | .tuple _ => "tuple" | .dict _ => "dict"
theorem Dt.kind {K : PySem.W.Frag} {H : Hp} {p : Addr} {v : V} {d : PyData} (h : Dt H p v d) : TyX K H v (.type (kindD d)) := by
  cases h with
  | non => exact .base .non
  | bl b => exact .base (.bl b)
  | int i => exact .base (.int i)
  | str x => exact .base (.str x)
  | lst _ e _ => exact .base (.lst e)
  | tup _ e _ => exact .base (.tup e)
  | dct _ e _ => exact .base (.dK e)
/-- isinstance(x, T) of data -/
def isD (T : String) : PyData → Bool
  | .none => T == "NoneType" | .bool _ => T == "bool" || T == "int" | .int _ => T == "int" | .str _ => T == "str"
  | .list _ => T == "list" | .tuple _ => T == "tuple" | .dict _ => T == "dict"
theorem kit_isD {K : PySem.W.Frag} (d : PyData) {T : String} (hT : T = "int" ∨ T = "bool" ∨ T = "str" ∨ T = "tuple" ∨ T = "list" ∨ T = "dict") :
    PySem.W.kitOne K (.type (kindD d)) (.type T) = some (isD T d) := by
  refine kit_ty ?_
  rcases hT with h | h | h | h | h | h <;> subst h <;> cases d <;> simp only [kindD, isD] <;> decide +kernel
section
variable {K : PySem.W.Frag} {H : Hp} {Q : VK} {σ : L2.St}
theorem r_isi {p : Addr} {x : V} {d : PyData} {T : String} {b : Bool} (hd : Dt H p x d) (hT : T = "int" ∨ T = "bool" ∨ T = "str" ∨ T = "tuple" ∨ T = "list" ∨ T = "dict")
    (e : isD T d = b) (q : Q (.bl b) H) : rIsi K [x, .ty T] H Q := ⟨x, .ty T, _, .type T, _, rfl, .ty T, hd.kind, e ▸ kit_isD d hT, q⟩
theorem r_plusI {i j : Int} (q : Q (.int (i + j)) H) : rPlus K (.int i) (.int j) H Q := .inl ⟨i, j, rfl, rfl, q⟩
theorem r_plusS {i j : Str} (h : i.length + j.length ≤ sizeLine) (q : Q (.str (i ++ j)) H) : rPlus K (.str i) (.str j) H Q := .inr (.inl ⟨i, j, rfl, rfl, h, q⟩)
theorem r_plusL {l b : Addr} {xs zs : List V} (h : H l = some (.lst xs)) (h' : H b = some (.lst zs)) (e : xs.length + zs.length ≤ 1000)
    (q : ∀ p, H p = none → Q (.ref p) (upd H p (.lst (xs ++ zs)))) : rPlus K (.ref l) (.ref b) H Q := .inr (.inr (.inl ⟨l, b, xs, zs, rfl, rfl, h, h', Nat.le_trans e (by decide), q⟩))
theorem r_plusT {l b : Addr} {xs zs : List V} (h : H l = some (.tup xs)) (h' : H b = some (.tup zs)) (e : xs.length + zs.length ≤ sizeLine)
    (q0 : xs = [] → Q (.ref b) H) (q1 : xs ≠ [] → zs = [] → Q (.ref l) H) (q2 : xs ≠ [] → zs ≠ [] → ∀ p, H p = none → Q (.ref p) (upd H p (.tup (xs ++ zs)))) :
    rPlus K (.ref l) (.ref b) H Q := .inr (.inr (.inr ⟨l, b, xs, zs, rfl, rfl, SqT.of h, SqT.of h', e, q0, q1, q2⟩))
theorem r_timesI {i j : Int} (h : i.natAbs < 2 ^ 200) (h' : j.natAbs < 2 ^ 200) (q : Q (.int (i * j)) H) : rTimes K (.int i) (.int j) H Q :=
  .inl ⟨i, j, rfl, rfl, wide_mul h h' (by decide) (by decide) (by decide), q⟩
theorem big_of {i : Int} {b : Nat} (h : i.natAbs ≤ 2 ^ b) (hb : b < 200) : i.natAbs < 2 ^ 200 :=
  Nat.lt_of_le_of_lt h (Nat.pow_lt_pow_right (by decide) hb)
theorem r_timesL {l : Addr} {k : Int} {xs : List V} (h : H l = some (.lst xs)) (h0 : 0 ≤ k) (h1 : k ≤ 1000) (h2 : xs.length ≤ 1000)
    (q : ∀ p, H p = none → Q (.ref p) (upd H p (.lst (List.replicate k.toNat xs).flatten))) : rTimes K (.ref l) (.int k) H Q := by
  refine .inr (.inl ⟨l, k, xs, rfl, rfl, h, by omega, by omega, ?_, q⟩)
  have : xs.length * k.toNat ≤ 1000 * 1000 := Nat.mul_le_mul h2 (by omega)
  exact Nat.le_trans this (by decide)
theorem r_sameI {i j : Int} (q : Q (.bl (decide (i = j))) H) : rSame K (.int i) (.int j) H Q := .inl (r_eqI q)
theorem r_sameS {i j : Str} (q : Q (.bl (decide (i = j))) H) : rSame K (.str i) (.str j) H Q := .inl (r_eqS q)
theorem r_unlikeI {i j : Int} (q : Q (.bl (!decide (i = j))) H) : rUnlike K (.int i) (.int j) H Q := .inl (r_neI q)
theorem r_unlikeS {i j : Str} (q : Q (.bl (!decide (i = j))) H) : rUnlike K (.str i) (.str j) H Q := .inl (r_neS q)
theorem r_div {i j : Int} (h : 0 < j) (h' : j < 2 ^ 200) (q : Q (.int (i / j)) H) : rDiv (.int i) (.int j) H Q :=
  ⟨i, j, rfl, rfl, wide_div h (b := 200) (by have e : (j.natAbs : Int) = j := Int.natAbs_of_nonneg (Int.le_of_lt h); exact Int.ofNat_lt.mp (by rw [e]; exact_mod_cast h')) (by decide) (by decide), q⟩
theorem r_mod {i j : Int} (h : 0 < j) (q : Q (.int (i % j)) H) : rMod (.int i) (.int j) H Q := ⟨i, j, rfl, rfl, h, q⟩
theorem r_pow {i j : Int} (h : 0 ≤ j) (h' : j ≤ 1000000) (h2 : i.natAbs < 2 ^ 64) (q : Q (.int (i ^ j.toNat)) H) : rPow (.int i) (.int j) H Q := ⟨i, j, rfl, rfl, ⟨h, h', h2⟩, q⟩
theorem r_lenL {p : Addr} {xs : List V} (h : H p = some (.lst xs)) (q : Q (.int xs.length) H) : rLen K [.ref p] H Q := ⟨_, _, rfl, .inl ⟨xs, SqL.of h, rfl⟩, q⟩
theorem r_lenT {p : Addr} {xs : List V} (h : H p = some (.tup xs)) (q : Q (.int xs.length) H) : rLen K [.ref p] H Q := ⟨_, _, rfl, .inr ⟨xs, SqT.of h, rfl⟩, q⟩
theorem r_lenK {p : Addr} {xs : List V} (h : SqL K H p xs) (q : Q (.int xs.length) H) : rLen K [.ref p] H Q := ⟨_, _, rfl, .inl ⟨xs, h, rfl⟩, q⟩
theorem r_lenS {z : Str} (h : z.length ≤ sizeLine) (q : Q (.int z.length) H) : rLen K [.str z] H Q := ⟨_, _, rfl, ⟨h, rfl⟩, q⟩
theorem r_min2 {i j : Int} (q : Q (.int (if j < i then j else i)) H) : rMin2 [.int i, .int j] H Q := ⟨i, j, rfl, q⟩
theorem r_max2 {i j : Int} (q : Q (.int (if j > i then j else i)) H) : rMax2 [.int i, .int j] H Q := ⟨i, j, rfl, q⟩
theorem r_listL {p : Addr} {xs : List V} (h : H p = some (.lst xs)) (q : ∀ l, H l = none → Q (.ref l) (upd H l (.lst xs))) : rListOf K [.ref p] H Q := ⟨p, xs, rfl, .inl (SqL.of h), q⟩
theorem r_listT {p : Addr} {xs : List V} (h : H p = some (.tup xs)) (q : ∀ l, H l = none → Q (.ref l) (upd H l (.lst xs))) : rListOf K [.ref p] H Q := ⟨p, xs, rfl, .inr (SqT.of h), q⟩
theorem r_tupL {p : Addr} {xs : List V} (h : H p = some (.lst xs)) (q : ∀ l, H l = none → Q (.ref l) (upd H l (.tup xs))) : rTupOf K [.ref p] H Q := ⟨p, xs, rfl, .inl ⟨SqL.of h, q⟩⟩
theorem r_tupT {p : Addr} {xs : List V} (h : H p = some (.tup xs)) (q : Q (.ref p) H) : rTupOf K [.ref p] H Q := ⟨p, xs, rfl, .inr ⟨SqT.of h, q⟩⟩
theorem r_ins {l : Addr} {xs : List V} {i : Int} {y : V} (h : H l = some (.lst xs)) (e : xs.length < 100000) (h0 : 0 ≤ i) (h1 : i < 2 ^ 63)
    (q : Q .non (upd H l (.lst (xs.take i.toNat ++ [y] ++ xs.drop i.toNat)))) : rInsert (.ref l) [.int i, y] H Q := ⟨l, xs, i, y, rfl, rfl, h, Nat.lt_of_lt_of_le e (by decide), h0, h1, q⟩
theorem seq_ix {i : Int} {n : Nat} (h0 : 0 ≤ i) (h1 : i < n) : seqIndex? i n = some i.toNat := by
  have : ixN n i = some i.toNat := by
    unfold ixN
    rw [if_pos h0, if_pos h1]
  exact (ixN_seq this).1
theorem r_popAt {l : Addr} {xs : List V} {i : Int} (h : H l = some (.lst xs)) (h0 : 0 ≤ i) (h1 : i < xs.length) (hs : i < 2 ^ 63)
    (q : ∀ y, xs[i.toNat]? = some y → Q y (upd H l (.lst (xs.eraseIdx i.toNat)))) : rPopAt (.ref l) [.int i] H Q := by
  have hk : i.toNat < xs.length := by omega
  exact ⟨l, xs, i, i.toNat, xs[i.toNat], rfl, rfl, h, by omega, hs, seq_ix h0 h1, List.getElem?_eq_getElem hk, q _ (List.getElem?_eq_getElem hk)⟩
theorem r_upper {z : Str} (h : z.length ≤ 5592405) (q : Q (.str (Txt.upper z)) H) : rUpper (.str z) [] H Q := ⟨z, rfl, rfl, h, q⟩
theorem r_sl {r : V → Option Int → Option Int → Hp → VK → Prop} {te : TE} {tl th : TO} (q : te σ H fun x H1 => tl σ H1 fun l H2 => th σ H2 fun u H3 => r x l u H3 Q) : tSl r te tl th σ H Q := q
theorem r_nopart {Q : Option Int → Hp → Prop} (q : Q none H) : tNoPart σ H Q := q
theorem r_part {t : TE} {Q : Option Int → Hp → Prop} (q : t σ H fun x H1 => ∃ i, x = .int i ∧ Q (some i) H1) : tPart t σ H Q := q
theorem r_isint {i : Int} {Q : Int → Prop} (q : Q i) : ∃ k, V.int i = .int k ∧ Q k := ⟨i, rfl, q⟩
theorem r_cutS {z : Str} {lo hi : Option Int} (h : z.length ≤ sizeLine) (q : Q (.str (cutS z lo hi)) H) : rCut K (.str z) lo hi H Q := .inr (.inr ⟨z, rfl, h, q⟩)
theorem r_cutL {a : Addr} {xs : List V} {lo hi : Option Int} (h : H a = some (.lst xs)) (q : ∀ p, H p = none → Q (.ref p) (upd H p (.lst (cutV xs lo hi)))) : rCut K (.ref a) lo hi H Q :=
  .inl ⟨a, xs, rfl, SqL.of h, q⟩
theorem r_cutT {a : Addr} {xs : List V} {lo hi : Option Int} (h : H a = some (.tup xs))
    (q1 : HT.sIx xs.length 0 lo = 0 ∧ HT.sIx xs.length xs.length hi = xs.length → Q (.ref a) H)
    (q2 : ¬ (HT.sIx xs.length 0 lo = 0 ∧ HT.sIx xs.length xs.length hi = xs.length) → ∀ p, H p = none → Q (.ref p) (upd H p (.tup (cutV xs lo hi)))) : rCut K (.ref a) lo hi H Q :=
  .inr (.inl ⟨a, xs, rfl, SqT.of h, q1, q2⟩)
theorem r_repr {p : Addr} {x : V} {d : PyData} (hd : Dt H p x d) (f : Fit 60 60000 d) (q : Q (.str d.shown) H) : rRepr p [x] H Q := ⟨x, d, rfl, hd, f, q⟩
theorem r_all {a : Addr} {bs : List Bool} (h : H a = some (.lst (bs.map V.bl))) (q : Q (.bl (bs.all id)) H) : rAll K [.ref a] H Q := ⟨a, bs, rfl, SqL.of h, q⟩
theorem r_sorted {a : Addr} {ns : List Int} (h : H a = some (.lst (ns.map V.int))) (e : ns.length < 64)
    (q : ∀ (ns' : List Int) (p : Addr), ns'.Perm ns → ns'.Pairwise (· ≤ ·) → H p = none → Q (.ref p) (upd H p (.lst (ns'.map V.int)))) : rSorted K [.ref a] H Q :=
  ⟨a, ns, rfl, SqL.of h, e, q⟩
end
/-! ### looking things up -/
section
variable {H H' H0 : Hp} {p q : Addr} {o u : HO}
theorem g_new (hq : H q = some u) (n : H p = none) : upd H p o q = some u := by
  rw [upd_ne (ne_of_none hq n)]; exact hq
theorem g_other (ne : q ≠ p) (hq : H q = some u) : upd H p o q = some u := by rw [upd_ne ne]; exact hq
theorem g_same (s : Same H0 H) (hq : H0 q = some u) : H q = some u := s _ _ hq
theorem g_keep (k : Keep p H0 H) (ne : q ≠ p) (hq : H0 q = some u) : H q = some u := k _ _ ne hq
theorem n_new (h : H q = some u) (n : H p = none) : q ≠ p := ne_of_none h n
theorem n_new' (n : H p = none) (h : H q = some u) : p ≠ q := (ne_of_none h n).symm
theorem Keep.free (k : Keep p H0 H) (ne : q ≠ p) (n : H q = none) : H0 q = none := by
  cases e : H0 q with
  | none => rfl
  | some v => rw [k _ _ ne e] at n; cases n
theorem upd_free (n : upd H p o q = none) : q ≠ p ∧ H q = none := by
  by_cases e : q = p
  · rw [e, upd_same] at n; cases n
  · rw [upd_ne e] at n; exact ⟨e, n⟩
end
end Cm
namespace Cm
open PySem PySem.Spec PyProof.Rows L2
theorem at_start {N : List Str} {vs : List V} {σ : L2.St} {t : TS} {D : Ends} {H : Hp} (e : L2.start N vs = σ) (q : t D σ H) : t D (L2.start N vs) H := by
  rw [e]; exact q
theorem pe_gint {X : Cx} {x : Str} {i : Int} {pos : Pos} (hg : Gl X x) (hm : ∃ t, X.mg x = some (.int i t)) (hd : (x == ("__debug__" : Str)) = false := by decide) :
    PE X (.Name x pos) (tC (.int i)) := by
  obtain ⟨t, e⟩ := hm
  exact pe_glob hg e ⟨t, rfl⟩ hd
end Cm
set_option Elab.async false
set_option linter.all false
set_option maxRecDepth 100000
set_option maxHeartbeats 4000000
/-! ## 4. Data within bounds -/
namespace Cm
open PySem PySem.Spec PyProof.Rows L2
mutual
/-- no number above N, all signs plain -/
def okD (N : Nat) : PyData → Bool
  | .int i => decide (i.natAbs ≤ N)
  | .str x => x.cps.toList.all fun c => decide (c < 128)
  | .list xs | .tuple xs => okAll N xs
  | .dict kvs => okKv N kvs
  | .none | .bool _ => true
def okAll (N : Nat) : List PyData → Bool
  | [] => true
  | x :: xs => okD N x && okAll N xs
def okKv (N : Nat) : List (PyData × PyData) → Bool
  | [] => true
  | (a, b) :: r => okD N a && okD N b && okKv N r
end
theorem okAll_iff {N : Nat} : ∀ {ds : List PyData}, okAll N ds = true ↔ ∀ d ∈ ds, okD N d = true
  | [] => by simp [okAll]
  | d :: ds => by simp [okAll, okAll_iff (ds := ds)]
theorem depthAll_iff {m : Nat} : ∀ {ds : List PyData}, PyData.depthAll ds ≤ m ↔ ∀ d ∈ ds, d.depth ≤ m
  | [] => by simp [PyData.depthAll]
  | d :: ds => by
    have := depthAll_iff (m := m) (ds := ds)
    simp only [PyData.depthAll, List.mem_cons, forall_eq_or_imp, ← this]
    omega
theorem bulkAll_append : ∀ (a b : List PyData), PyData.bulkAll (a ++ b) = PyData.bulkAll a + PyData.bulkAll b
  | [], b => by simp [PyData.bulkAll]
  | x :: a, b => by
    have := bulkAll_append a b
    simp only [List.cons_append, PyData.bulkAll, this]
    omega
theorem bulkAll_mem : ∀ {ds : List PyData} {d : PyData}, d ∈ ds → d.bulk + 1 ≤ PyData.bulkAll ds
  | x :: ds, d, h => by
    simp only [PyData.bulkAll]
    rcases List.mem_cons.mp h with e | h
    · rw [e]; omega
    · have := bulkAll_mem h; omega
theorem bulkAll_set : ∀ {ds : List PyData} {i : Nat} {d e : PyData}, ds[i]? = some d → PyData.bulkAll (ds.set i e) + d.bulk = PyData.bulkAll ds + e.bulk
  | [], i, d, e, h => by simp at h
  | x :: ds, 0, d, e, h => by
    have h' : x = d := Option.some.inj h
    subst h'
    simp only [List.set_cons_zero, PyData.bulkAll]; omega
  | x :: ds, i + 1, d, e, h => by
    have := bulkAll_set (ds := ds) (i := i) (d := d) (e := e) h
    simp only [List.set_cons_succ, PyData.bulkAll]; omega
theorem bulkAll_erase : ∀ (ds : List PyData) (i : Nat), PyData.bulkAll (ds.eraseIdx i) ≤ PyData.bulkAll ds
  | [], i => by simp [PyData.bulkAll]
  | x :: ds, 0 => by simp only [List.eraseIdx_cons_zero, PyData.bulkAll]; omega
  | x :: ds, i + 1 => by
    have := bulkAll_erase ds i
    simp only [List.eraseIdx_cons_succ, PyData.bulkAll]; omega
theorem bulkAll_take_drop (ds : List PyData) (i : Nat) : PyData.bulkAll (ds.take i) + PyData.bulkAll (ds.drop i) = PyData.bulkAll ds := by
  rw [← bulkAll_append, List.take_append_drop]
theorem bulkAll_reverse : ∀ (ds : List PyData), PyData.bulkAll ds.reverse = PyData.bulkAll ds
  | [] => rfl
  | x :: ds => by
    rw [List.reverse_cons, bulkAll_append, bulkAll_reverse ds]
    simp only [PyData.bulkAll]; omega
theorem bulk_length : ∀ (ds : List PyData), ds.length ≤ PyData.bulkAll ds
  | [] => Nat.le_refl _
  | x :: ds => by
    have := bulk_length ds
    simp only [List.length_cons, PyData.bulkAll]; omega
/-- within bounds: numbers, depth, size -/
structure Ft (N m b : Nat) (d : PyData) : Prop where
  ok : okD N d = true
  dp : d.depth ≤ m
  bk : d.bulk ≤ b
structure FtAll (N m b : Nat) (ds : List PyData) : Prop where
  ok : ∀ d ∈ ds, okD N d = true
  dp : ∀ d ∈ ds, d.depth ≤ m
  bk : PyData.bulkAll ds ≤ b
theorem okD_mono {N M : Nat} (h : N ≤ M) : ∀ d : PyData, okD N d = true → okD M d = true := by
  intro d
  refine PyData.rec (motive_1 := fun d => okD N d = true → okD M d = true) (motive_2 := fun ds => okAll N ds = true → okAll M ds = true)
    (motive_3 := fun kvs => okKv N kvs = true → okKv M kvs = true) (motive_4 := fun p => okD N p.1 = true ∧ okD N p.2 = true → okD M p.1 = true ∧ okD M p.2 = true)
    ?_ ?_ ?_ ?_ ?_ ?_ ?_ ?_ ?_ ?_ ?_ ?_ d
  · intro _; rfl
  · intro _ _; rfl
  · intro i h'
    simp only [okD, decide_eq_true_eq] at *; omega
  · intro x h'
    simp only [okD] at *; exact h'
  · intro xs ih h'
    simp only [okD] at *; exact ih h'
  · intro xs ih h'
    simp only [okD] at *; exact ih h'
  · intro xs ih h'
    simp only [okD] at *; exact ih h'
  · intro _; rfl
  · intro x xs i1 i2 h'
    simp only [okAll, Bool.and_eq_true] at *; exact ⟨i1 h'.1, i2 h'.2⟩
  · intro _; rfl
  · intro x xs i1 i2 h'
    obtain ⟨a, b⟩ := x
    simp only [okKv, Bool.and_eq_true] at *
    exact ⟨i1 h'.1, i2 h'.2⟩
  · intro a b i1 i2 h'
    exact ⟨i1 h'.1, i2 h'.2⟩
theorem Ft.mono {N M m n b c : Nat} {d : PyData} (f : Ft N m b d) (h1 : N ≤ M) (h2 : m ≤ n) (h3 : b ≤ c) : Ft M n c d :=
  ⟨okD_mono h1 _ f.ok, Nat.le_trans f.dp h2, Nat.le_trans f.bk h3⟩
theorem FtAll.mono {N M m n b c : Nat} {ds : List PyData} (f : FtAll N m b ds) (h1 : N ≤ M) (h2 : m ≤ n) (h3 : b ≤ c) : FtAll M n c ds :=
  ⟨fun d h => okD_mono h1 _ (f.ok d h), fun d h => Nat.le_trans (f.dp d h) h2, Nat.le_trans f.bk h3⟩
theorem Ft.all {N m b : Nat} {ds : List PyData} (f : Ft N (m + 1) b (.tuple ds)) : FtAll N m b ds := by
  obtain ⟨h1, h2, h3⟩ := f
  simp only [okD, PyData.depth, PyData.bulk] at *
  exact ⟨okAll_iff.mp h1, depthAll_iff.mp (by omega), h3⟩
theorem Ft.allL {N m b : Nat} {ds : List PyData} (f : Ft N (m + 1) b (.list ds)) : FtAll N m b ds := by
  obtain ⟨h1, h2, h3⟩ := f
  simp only [okD, PyData.depth, PyData.bulk] at *
  exact ⟨okAll_iff.mp h1, depthAll_iff.mp (by omega), h3⟩
theorem Ft.tup_pos {N m b : Nat} {ds : List PyData} (f : Ft N m b (.tuple ds)) : 0 < m := by
  have := f.dp
  simp only [PyData.depth] at this; omega
theorem FtAll.tup {N m b : Nat} {ds : List PyData} (f : FtAll N m b ds) : Ft N (m + 1) b (.tuple ds) := by
  refine ⟨?_, ?_, ?_⟩
  · simp only [okD]; exact okAll_iff.mpr f.ok
  · simp only [PyData.depth]; have := depthAll_iff.mpr f.dp; omega
  · simp only [PyData.bulk]; exact f.bk
theorem FtAll.lst {N m b : Nat} {ds : List PyData} (f : FtAll N m b ds) : Ft N (m + 1) b (.list ds) := by
  refine ⟨?_, ?_, ?_⟩
  · simp only [okD]; exact okAll_iff.mpr f.ok
  · simp only [PyData.depth]; have := depthAll_iff.mpr f.dp; omega
  · simp only [PyData.bulk]; exact f.bk
theorem FtAll.mem {N m b : Nat} {ds : List PyData} {d : PyData} (f : FtAll N m b ds) (h : d ∈ ds) : Ft N m (b - 1) d :=
  ⟨f.ok d h, f.dp d h, by have := bulkAll_mem h; have := f.bk; omega⟩
theorem FtAll.nil {N m b : Nat} : FtAll N m b [] := ⟨(fun _ h => nomatch h), (fun _ h => nomatch h), Nat.zero_le _⟩
theorem FtAll.cons {N m b c : Nat} {d : PyData} {ds : List PyData} (f : Ft N m b d) (g : FtAll N m c ds) : FtAll N m (b + 1 + c) (d :: ds) := by
  refine ⟨fun e h => ?_, fun e h => ?_, ?_⟩
  · rcases List.mem_cons.mp h with h | h
    · rw [h]; exact f.ok
    · exact g.ok e h
  · rcases List.mem_cons.mp h with h | h
    · rw [h]; exact f.dp
    · exact g.dp e h
  · have := f.bk; have := g.bk
    simp only [PyData.bulkAll]; omega
theorem FtAll.append {N m b c : Nat} {ds es : List PyData} (f : FtAll N m b ds) (g : FtAll N m c es) : FtAll N m (b + c) (ds ++ es) := by
  refine ⟨fun e h => ?_, fun e h => ?_, ?_⟩
  · rcases List.mem_append.mp h with h | h
    · exact f.ok e h
    · exact g.ok e h
  · rcases List.mem_append.mp h with h | h
    · exact f.dp e h
    · exact g.dp e h
  · rw [bulkAll_append]; have := f.bk; have := g.bk; omega
theorem FtAll.sub {N m b : Nat} {ds es : List PyData} (f : FtAll N m b ds) (h : ∀ d ∈ es, d ∈ ds) (hb : PyData.bulkAll es ≤ PyData.bulkAll ds) : FtAll N m b es :=
  ⟨fun e he => f.ok e (h e he), fun e he => f.dp e (h e he), Nat.le_trans hb f.bk⟩
theorem FtAll.take {N m b : Nat} {ds : List PyData} (f : FtAll N m b ds) (i : Nat) : FtAll N m b (ds.take i) :=
  f.sub (fun d h => List.mem_of_mem_take h) (by have := bulkAll_take_drop ds i; omega)
theorem FtAll.drop {N m b : Nat} {ds : List PyData} (f : FtAll N m b ds) (i : Nat) : FtAll N m b (ds.drop i) :=
  f.sub (fun d h => List.mem_of_mem_drop h) (by have := bulkAll_take_drop ds i; omega)
theorem FtAll.erase {N m b : Nat} {ds : List PyData} (f : FtAll N m b ds) (i : Nat) : FtAll N m b (ds.eraseIdx i) :=
  f.sub (fun d h => List.mem_of_mem_eraseIdx h) (bulkAll_erase ds i)
theorem FtAll.reverse {N m b : Nat} {ds : List PyData} (f : FtAll N m b ds) : FtAll N m b ds.reverse :=
  f.sub (fun d h => List.mem_reverse.mp h) (by rw [bulkAll_reverse]; exact Nat.le_refl _)
theorem FtAll.insert {N m b c : Nat} {ds : List PyData} {d : PyData} (f : FtAll N m b ds) (g : Ft N m c d) (i : Nat) : FtAll N m (b + c + 1) (ds.take i ++ [d] ++ ds.drop i) := by
  refine ⟨fun e h => ?_, fun e h => ?_, ?_⟩
  · simp only [List.mem_append, List.mem_singleton] at h
    rcases h with (h | h) | h
    · exact f.ok e (List.mem_of_mem_take h)
    · rw [h]; exact g.ok
    · exact f.ok e (List.mem_of_mem_drop h)
  · simp only [List.mem_append, List.mem_singleton] at h
    rcases h with (h | h) | h
    · exact f.dp e (List.mem_of_mem_take h)
    · rw [h]; exact g.dp
    · exact f.dp e (List.mem_of_mem_drop h)
  · rw [bulkAll_append, bulkAll_append]
    have h1 := bulkAll_take_drop ds i
    have h2 := f.bk
    have h3 := g.bk
    simp only [PyData.bulkAll]; omega
theorem FtAll.set {N m b c : Nat} {ds : List PyData} {d e : PyData} {i : Nat} (f : FtAll N m b ds) (h : ds[i]? = some d) (g : Ft N m c e) (hc : c ≤ d.bulk + b + 20) : FtAll N m (2 * b + 20) (ds.set i e) := by
  refine ⟨fun x hx => ?_, fun x hx => ?_, ?_⟩
  · rcases List.mem_or_eq_of_mem_set hx with q | q
    · exact f.ok x q
    · rw [q]; exact g.ok
  · rcases List.mem_or_eq_of_mem_set hx with q | q
    · exact f.dp x q
    · rw [q]; exact g.dp
  · have h1 := bulkAll_set (e := e) h
    have h2 := f.bk
    have h3 := g.bk
    omega
theorem Ft.int {N m b : Nat} {i : Int} (h : i.natAbs ≤ N) : Ft N m b (.int i) := ⟨by simp [okD, h], Nat.zero_le _, Nat.zero_le _⟩
theorem Ft.bl {N m b : Nat} {i : Bool} : Ft N m b (.bool i) := ⟨rfl, Nat.zero_le _, Nat.zero_le _⟩
theorem Ft.non {N m b : Nat} : Ft N m b .none := ⟨rfl, Nat.zero_le _, Nat.zero_le _⟩
theorem Ft.str {N m b : Nat} {x : Str} (h : ∀ c ∈ x.cps.toList, c < 128) (hb : x.length ≤ b) : Ft N m b (.str x) :=
  ⟨by simpa only [okD, List.all_eq_true, decide_eq_true_eq] using h, Nat.zero_le _, hb⟩
theorem leaf_int {i : Int} {N : Nat} (h : i.natAbs ≤ N) (hN : N < 2 ^ 200) : (PyData.shown (.int i)).length ≤ 250 ∧ i.natAbs.log2 < 1920 := by
  have h1 : i.natAbs < 2 ^ 200 := Nat.lt_of_le_of_lt h hN
  have h2 : i.natAbs.log2 < 200 := PySem.Flt.log2_lt_of (by decide) h1
  have h3 := int_text_length_le (a := i) (k := 200) (by decide) h2
  refine ⟨?_, by omega⟩
  simp only [PyData.shown]
  rw [show ((toString i : String) : Str).length = (toString i).length from PySem.ofString_length _]
  omega
theorem ok_leaves {N : Nat} (hN : N < 2 ^ 200) (d : PyData) : okD N d = true → d.leavesShort 250 = true ∧ d.showable = true := by
  refine PyData.rec (motive_1 := fun d => okD N d = true → d.leavesShort 250 = true ∧ d.showable = true) (motive_2 := fun ds => okAll N ds = true → PyData.leavesShortAll 250 ds = true ∧ PyData.showableAll ds = true)
    (motive_3 := fun kvs => okKv N kvs = true → PyData.leavesShortKv 250 kvs = true ∧ PyData.showableKv kvs = true)
    (motive_4 := fun p => okD N p.1 = true ∧ okD N p.2 = true → (p.1.leavesShort 250 = true ∧ p.1.showable = true) ∧ (p.2.leavesShort 250 = true ∧ p.2.showable = true))
    ?_ ?_ ?_ ?_ ?_ ?_ ?_ ?_ ?_ ?_ ?_ ?_ d
  · intro _; exact ⟨rfl, rfl⟩
  · intro _ _; exact ⟨rfl, rfl⟩
  · intro i h'
    simp only [okD, decide_eq_true_eq] at h'
    have := leaf_int h' hN
    simp only [PyData.leavesShort, PyData.showable, decide_eq_true_eq]
    exact this
  · intro x h'
    simp only [okD, List.all_eq_true, decide_eq_true_eq] at h'
    refine ⟨?_, rfl⟩
    simp only [PyData.leavesShort, List.all_eq_true, decide_eq_true_eq]
    intro c hc
    exact Nat.lt_trans (h' c hc) (by decide)
  · intro xs ih h'
    simp only [okD] at h'
    simp only [PyData.leavesShort, PyData.showable]; exact ih h'
  · intro xs ih h'
    simp only [okD] at h'
    simp only [PyData.leavesShort, PyData.showable]; exact ih h'
  · intro xs ih h'
    simp only [okD] at h'
    simp only [PyData.leavesShort, PyData.showable]; exact ih h'
  · intro _; exact ⟨rfl, rfl⟩
  · intro x xs i1 i2 h'
    simp only [okAll, Bool.and_eq_true] at h'
    simp only [PyData.leavesShortAll, PyData.showableAll, Bool.and_eq_true]
    exact ⟨⟨(i1 h'.1).1, (i2 h'.2).1⟩, (i1 h'.1).2, (i2 h'.2).2⟩
  · intro _; exact ⟨rfl, rfl⟩
  · intro x xs i1 i2 h'
    obtain ⟨a, b⟩ := x
    simp only [okKv, Bool.and_eq_true] at h'
    simp only [PyData.leavesShortKv, PyData.showableKv, Bool.and_eq_true]
    have q1 := i1 h'.1
    have q2 := i2 h'.2
    exact ⟨⟨⟨q1.1.1, q1.2.1⟩, q2.1⟩, ⟨q1.1.2, q1.2.2⟩, q2.2⟩
  · intro a b i1 i2 h'
    exact ⟨i1 h'.1, i2 h'.2⟩
theorem Ft.fit {N m b : Nat} {d : PyData} (f : Ft N m b d) (hN : N < 2 ^ 200) (hm : m ≤ 60) (hb : b ≤ 60000) : Fit 60 60000 d :=
  have h := ok_leaves hN d f.ok
  ⟨h.1, h.2, Nat.le_trans f.dp hm, Nat.le_trans f.bk hb⟩
end Cm
set_option Elab.async false
set_option linter.all false
set_option maxRecDepth 100000
set_option maxHeartbeats 4000000
/-! ## 5. Tuples: == with the empty one, times 0 and 1, turned about -/
namespace Cm
open PySem PySem.Spec PyProof.Rows L2
section
variable {X : Cx}
/-- t == () -/
def rEqNo : R2 := fun x y H Q => ∃ a b xs, x = .ref a ∧ y = .ref b ∧ H a = some (.tup xs) ∧ H b = some (.tup []) ∧ Q (.bl (decide (xs = []))) H
theorem IsTup.isTuple' {h : Heap} {a : Addr} {its : Array Value} (t : IsTup h a its) : h.IsTuple a its := t
theorem op_eqNo (hu : X.A.units + 64 < cLine) : OpR X (compareOp .Eq) rEqNo := by
  intro pins s σ H x y v u Q I rx ry h
  obtain ⟨a, b, xs, rfl, rfl, ha, hb, q⟩ := h
  cases rx
  cases ry
  obtain ⟨its, r1, p1, _⟩ := I.tuple (SqT.of ha)
  obtain ⟨its2, r2, p2, _⟩ := I.tuple (SqT.of hb)
  cases r2
  refine SeqAt.eq_tupleAt (e := fun _ => true) (IsTup.isTuple' p1) (IsTup.isTuple' p2) (by omega) (fun j _ h2 => absurd h2 (Nat.not_lt_zero _)) ?_
  refine ⟨.bl (decide (xs = [])), H, I, ?_, q⟩
  show Value.bool _ = Value.bool _
  have e : its.length = xs.length := r1.length.symm
  cases xs with
  | nil =>
    have : its = [] := List.eq_nil_of_length_eq_zero e
    subst this
    rfl
  | cons y ys =>
    cases its with
    | nil => cases e
    | cons z zs => simp
/-- t * 0, t * 1 -/
def rRepT01 : R2 := fun x y H Q => ∃ l k xs, x = .ref l ∧ y = .int k ∧ H l = some (.tup xs) ∧ xs ≠ [] ∧
  ((k = 0 ∧ ∀ p, H p = none → Q (.ref p) (upd H p (.tup []))) ∨ (k = 1 ∧ Q (.ref l) H))
theorem tuple_mul0 (l : Addr) (items : Array Value) (n : Nat) (dd : Option Addr) (sl : Array (Option Value)) (u : Tok) (c1 : items.isEmpty = false) :
    Meets (Builtin.«tuple.__mul__» ⟨[.ref l, .int 0 u], []⟩) (fun _ R s => s.heap.get? l = some { cls := .type "tuple", dict := dd, data := .seq items n, slots := sl } ∧
      R (.ok (.ret (Value.ref s.heap.objs.size))) { s with heap := s.heap.push { cls := Value.type "tuple", data := Data.seq #[] }, toks := s.toks }) :=
  .of_wp fun prog w A R s h => by
    obtain ⟨hp, g, d, tk, os⟩ := s
    obtain ⟨hl, h⟩ := h
    have f1 := AutoSeq1.idx_int
    wp_walk using wpAny_loadPart' hl
    repeat (first
      | (refine wpAny_ite_false (decide_eq_false (by first | decide | simp [c1])) ?_; wp_walk using wpAny_loadPart' hl)
      | (refine wpAny_ite_true (decide_eq_true (by first | decide | simp [c1])) ?_; wp_walk using wpAny_loadPart' hl))
    exact ⟨_, rfl, h⟩
theorem tuple_mul1 (l : Addr) (items : Array Value) (n : Nat) (dd : Option Addr) (sl : Array (Option Value)) (u : Tok) :
    Meets (Builtin.«tuple.__mul__» ⟨[.ref l, .int 1 u], []⟩) (fun _ R s => s.heap.get? l = some { cls := .type "tuple", dict := dd, data := .seq items n, slots := sl } ∧
      R (.ok (.ret (Value.ref l))) { s with toks := s.toks }) :=
  .of_wp fun prog w A R s h => by
    obtain ⟨hp, g, d, tk, os⟩ := s
    obtain ⟨hl, h⟩ := h
    have f1 := AutoSeq1.idx_int
    wp_walk using wpAny_loadPart' hl
    repeat (first
      | (refine wpAny_ite_false (decide_eq_false (by first | decide | simp)) ?_; wp_walk using wpAny_loadPart' hl)
      | (refine wpAny_ite_true (decide_eq_true (by first | decide | simp)) ?_; wp_walk using wpAny_loadPart' hl))
    exact ⟨_, rfl, h⟩
theorem op_repT01 : OpR X (binaryOp .Mult) rRepT01 := by
  intro pins s σ H x y v u Q I rx ry h
  obtain ⟨l, k, xs, rfl, rfl, hT, hne, hk⟩ := h
  cases rx
  obtain ⟨t, rfl⟩ := ry
  obtain ⟨its, r, ⟨⟨cls, dd, data, sl⟩, ho, hc, n, hd⟩, hs⟩ := I.tuple (SqT.of hT)
  simp only at hc hd
  subst hc hd
  have hi : its.toArray.isEmpty = false := by
    cases its with
    | nil =>
      cases r
      exact absurd rfl hne
    | cons a b => rfl
  rcases hk with ⟨rfl, q⟩ | ⟨rfl, q⟩
  · refine wpAny_binaryOp_repeat_ref (T := "tuple") (U := "int") (by decide) ⟨_, ho, rfl⟩ (fun s' => typeIs_int s' 0 t) noFill_tuple_mul F.fills_int_mul F.slot_int_rmul repeat_tuple F.slot_int_index.lookup
      (call_meets F.slot_int_rmul (typeIs_int s 0 t) F.entry_int_rmul (F.args_int_rmul_2 _ _) (int_rmul_tuple 0 t l its.toArray n dd sl)
        ⟨ho, rfl, ⟨_, ho, rfl⟩, call_meets F.slot_tuple_mul ⟨_, ho, rfl⟩ F.entry_tuple_mul (F.args_tuple_mul_2 _ _) (tuple_mul0 l its.toArray n dd sl t hi) ⟨ho, ?_⟩⟩)
    refine ⟨.ref s.heap.objs.size, _, I.laid (t' := s.toks) (o := .tup []) (fun b ob q => Heap.get?_push_of_some _ q) (Nat.le_refl _) ?_, rfl, q _ (I.hok.fresh (Nat.le_refl _))⟩
    exact ⟨Nat.zero_le _, [], .nil, IsTup.new _ _⟩
  · refine wpAny_binaryOp_repeat_ref (T := "tuple") (U := "int") (by decide) ⟨_, ho, rfl⟩ (fun s' => typeIs_int s' 1 t) noFill_tuple_mul F.fills_int_mul F.slot_int_rmul repeat_tuple F.slot_int_index.lookup
      (call_meets F.slot_int_rmul (typeIs_int s 1 t) F.entry_int_rmul (F.args_int_rmul_2 _ _) (int_rmul_tuple 1 t l its.toArray n dd sl)
        ⟨ho, rfl, ⟨_, ho, rfl⟩, call_meets F.slot_tuple_mul ⟨_, ho, rfl⟩ F.entry_tuple_mul (F.args_tuple_mul_2 _ _) (tuple_mul1 l its.toArray n dd sl t) ⟨ho, ?_⟩⟩)
    exact ⟨.ref l, H, I.tok _, rfl, q⟩
/-! ### t[::-1] -/
theorem turned_applied {A : Around} {E : Value → Shared → Prop} {s : Shared} {sl : Addr} {vs : Value} {n : Nat} {Q : Int × Int × Nat → Shared → Prop} (hs : s.heap.IsSliceOf sl .none .none vs) (ps : IsPart vs (some (-1)))
    (h : Q ((n : Int) - 1, -1, n) s) : wpAny (model X.prog X.w) A (Builtin.Slice.sliceApplied (.ref sl) (pure (n : Int))) Q E s := by
  obtain ⟨os, hos, hcs, hds⟩ := id hs
  unfold Builtin.Slice.sliceApplied Builtin.Slice.sliceFields
  refine wpAny_bind (wpAny_bind (wpAny_field hos hds (x := .none) rfl (wpAny_bind (wpAny_field hos hds (x := .none) rfl (wpAny_bind (wpAny_field hos hds (x := vs) rfl (wpAny_pure ?_)))))))
  refine wpAny_bind (HT.slicePart_ ps ?_)
  show wpAny _ _ (if ((-1 : Int) == 0) = true then _ else _) _ _ s
  rw [if_neg (by decide)]
  refine wpAny_bind (HT.slicePart_ .none (wpAny_bind (HT.slicePart_ .none (wpAny_bind (wpAny_pure ?_)))))
  have e : Builtin.Slice.slicePlaces ((n : Int) - 1) (-1) (-1) = n := by
    unfold Builtin.Slice.slicePlaces
    rw [if_neg (by decide)]
    by_cases h0 : n = 0
    · subst h0; decide
    · rw [if_pos (by omega)]
      have : ((n : Int) - 1 - (-1) - 1) / (-(-1)) + 1 = (n : Int) := by
        rw [show (-(-1) : Int) = 1 from rfl, Int.ediv_one]; omega
      rw [this]; simp
  show wpAny _ _ (pure ((n : Int) - 1, (-1 : Int), Builtin.Slice.slicePlaces ((n : Int) - 1) (-1) (-1))) _ _ s
  rw [e]
  exact wpAny_pure h
theorem turned_pick (xs : List Value) : ((List.range xs.toArray.size).filterMap fun (k : Nat) => xs.toArray[(((xs.toArray.size : Nat) : Int) - 1 + (k : Int) * (-1)).toNat]?).toArray = xs.reverse.toArray := by
  congr 1
  rw [List.size_toArray]
  have g : ∀ (ys : List Value), (List.range ys.length).filterMap (fun k => ys[k]?) = ys := by
    intro ys
    induction ys with
    | nil => rfl
    | cons y ys ih =>
      rw [List.length_cons, List.range_succ_eq_map, List.filterMap_cons]
      simp only [List.getElem?_cons_zero, List.filterMap_map]
      congr 1
  have h := g xs.reverse
  rw [List.length_reverse] at h
  rw [← h]
  have cong : ∀ (l : List Nat) (f g : Nat → Option Value), (∀ k ∈ l, f k = g k) → l.filterMap f = l.filterMap g := by
    intro l f g e
    induction l with
    | nil => rfl
    | cons a l ih =>
      have e1 := e a List.mem_cons_self
      have e2 := ih fun k hk => e k (List.mem_cons_of_mem _ hk)
      simp only [List.filterMap_cons, e1, e2]
  refine cong _ _ _ fun k hk => ?_
  have hk' : k < xs.length := List.mem_range.mp hk
  rw [List.getElem?_reverse hk']
  have : (((xs.length : Nat) : Int) - 1 + (k : Int) * (-1)).toNat = xs.length - 1 - k := by omega
  rw [this]
  simp
theorem getItem_turned {A : Around} {E : Value → Shared → Prop} {s : Shared} {t sl : Addr} {items : List Value} {vs : Value} {Q : Value → Shared → Prop} (ht : IsTup s.heap t items.toArray) (hs : s.heap.IsSliceOf sl .none .none vs) (ps : IsPart vs (some (-1)))
    (h : Q (.ref s.heap.objs.size) { s with heap := s.heap.push { cls := .type "tuple", data := .seq items.reverse.toArray } })
    (hsz : items.length ≤ sizeLine) : wpAny (model X.prog X.w) A (getItem (.ref t) (.ref sl)) Q E s := by
  have room : sizeOk (.seq items.reverse.toArray) := by
    show items.reverse.toArray.size ≤ sizeLine
    rw [List.size_toArray, List.length_reverse]; exact hsz
  obtain ⟨os, hos, hcs, hds⟩ := id hs
  have hTs : s.TypeIs (.ref sl) "slice" := ⟨os, hos, hcs⟩
  unfold getItem
  try with_reducible refine wpAny_holding ?_
  first | refine wpAny_bind (wpAny_pure ?_) | skip
  refine wpAny_bind (wpAny_sequenceKey ht.typeIs (by decide) ?_)
  refine wpAny_bind (wpAny_callSpecial?_slot (name := Str.ofString "__getitem__") ht.typeIs PyProof.Rows.slot_tuple_getitem
    (wpAny_call_entry PyProof.Rows.slot_tuple_getitem ht.typeIs entry_tuple_getitem ?_ (args_tuple_getitem _ _)))
  show wpAny _ _ (Builtin.Tuple.tupleItemsOf (.ref t) >>= _) _ _ s
  refine wpAny_bind (tupleItemsOf_ ht ?_)
  refine wpAny_bind (wpAny_typeOf hTs ?_)
  rw [if_pos (by decide)]
  refine wpAny_bind (turned_applied (X := X) hs ps ?_)
  show wpAny _ _ (if ((((items.toArray.size : Nat) : Int) - 1 == 0) && ((-1 : Int) == 1) && (items.toArray.size == items.toArray.size)) = true then _ else _) _ _ s
  rw [if_neg (by simp), turned_pick]
  first
    | exact wpAny_bind (m := Builtin.Tuple.tupleExact _) (wpAny_newObj_type (wpAny_pure ⟨_, rfl, wpAny_pure h⟩) room)
    | exact wpAny_bind (m := Builtin.Tuple.tupleExact _) (wpAny_newObj_type (wpAny_bind (wpAny_pure (wpAny_pure ⟨_, rfl, wpAny_pure h⟩))) room)
    | exact wpAny_bind (wpAny_bind (m := Builtin.Tuple.tupleExact _) (wpAny_newObj_type (wpAny_pure (wpAny_pure ⟨_, rfl, wpAny_pure h⟩)) room))
    | exact wpAny_bind (wpAny_bind (m := Builtin.Tuple.tupleExact _) (wpAny_newObj_type (wpAny_pure ⟨_, rfl, wpAny_pure h⟩) room))
def tRevT (te : TE) : TE := fun σ H Q => te σ H fun x H1 => ∃ a xs, x = .ref a ∧ H1 a = some (.tup xs) ∧ ∀ p, H1 p = none → Q (.ref p) (upd H1 p (.tup xs.reverse))
theorem pe_rev {e : Expr} {te : TE} {k : Nat} {p1 p2 p3 pos : Pos} (he : PE X e te) : PE X (.Subscript e (.Slice none none (some (.UnaryOp .USub (.Constant (.int 1) k p1) p2)) p3) pos) (tRevT te) := by
  constructor
  intro pins s σ H Q I h
  refine Subscript_ (thn (he.run pins s σ H _ I h) ?_)
  rintro v s1 ⟨x, H1, I1, r1, a, xs, ex, hx, q⟩
  subst ex
  cases r1
  have hst : PO X (some (.UnaryOp .USub (.Constant (.int 1) k p1) p2)) (tPart (tUn (rU fun i => .int (-i)) (tC (.int 1)))) := po_some (pe_un un_neg pe_int)
  refine wpAny_Slice (thn (po_none.run pins s1 σ H1 (fun o H2 => o = none ∧ H2 = H1) I1 ⟨rfl, rfl⟩) ?_)
  rintro vl s2 ⟨l, H2, I2, pl, el, e2⟩
  subst el e2
  refine thn (po_none.run pins s2 σ H2 (fun o H3 => o = none ∧ H3 = H2) I2 ⟨rfl, rfl⟩) ?_
  rintro vu s3 ⟨u, H3, I3, pu, eu, e3⟩
  subst eu e3
  refine thn (hst.run pins s3 σ H3 (fun o H4 => o = some (-1) ∧ H4 = H3) I3 ⟨1, rfl, -1, rfl, rfl, rfl⟩) ?_
  rintro vs s4 ⟨o, H4, I4, ps, eo, e4⟩
  subst eo e4
  cases pl
  cases pu
  have I5 : Inv X pins σ H4 { s4 with heap := s4.heap.push { cls := .type "slice", data := .fields #[.none, .none, vs] } } :=
    I4.kept (t' := s4.toks) fun b ob q => Heap.get?_push_of_some _ q
  obtain ⟨its, r, ht, hz⟩ := I5.tuple (SqT.of hx)
  have hlen := r.length
  show wpAny (model X.prog X.w) X.A (subscriptTail e (.Slice none none (some (.UnaryOp .USub (.Constant (.int 1) k p1) p2)) p3) (.ref a) (.ref s4.heap.objs.size)) (EP X pins σ Q) X.xe _
  refine tail_any (ops := [.ref a, .ref s4.heap.objs.size]) ht.typeIs (PyProof.Rows.slot_tuple_getitem.lookup) ?_ (by with_unfolding_all rfl)
  refine getItem_turned ht (Heap.IsSliceOf.new _ _ _ vs) ps ?_ (by omega)
  refine ⟨.ref _, _, I5.laid (t' := s4.toks) (o := .tup xs.reverse) (fun b ob q => Heap.get?_push_of_some _ q) (Nat.le_refl _) ?_, rfl, q _ (I5.hok.fresh (Nat.le_refl _))⟩
  exact ⟨by rw [List.length_reverse]; exact hz, _, r.reverse, IsTup.new _ _⟩
end
section
variable {K : PySem.W.Frag} {H : Hp} {Q : VK} {σ : L2.St}
theorem r_rev {te : TE} (q : te σ H fun x H1 => ∃ a xs, x = .ref a ∧ H1 a = some (.tup xs) ∧ ∀ p, H1 p = none → Q (.ref p) (upd H1 p (.tup xs.reverse))) : tRevT te σ H Q := q
theorem r_isT {a : Addr} {xs : List V} {P : Addr → List V → Prop} (h : H a = some (.tup xs)) (q : P a xs) : ∃ b ys, V.ref a = .ref b ∧ H b = some (.tup ys) ∧ P b ys := ⟨a, xs, rfl, h, q⟩
theorem r_eqNo {a b : Addr} {xs : List V} (h : H a = some (.tup xs)) (h' : H b = some (.tup [])) (q : Q (.bl (decide (xs = []))) H) : rEqNo (.ref a) (.ref b) H Q := ⟨a, b, xs, rfl, rfl, h, h', q⟩
end
end Cm
namespace Cm
open PySem PySem.Spec PyProof.Rows L2
section
variable {K : PySem.W.Frag} {H : Hp} {Q : VK} {σ : L2.St}
theorem r_dnew (q : ∀ p, H p = none → Q (.ref p) (upd H p (.dK []))) : tDNewK σ H Q := q
theorem r_disp1 {i j : Int} (q : ∀ p, H p = none → Q (.ref p) (upd H p (.dK [(Sum.inl i, .int j)]))) : tDisp [(tC (.int i), tC (.int j))] σ H Q := by
  intro p hp
  refine ⟨upd_same, [(Sum.inl i, .int j)], rfl, (by show 1 ≤ 15; decide), ?_⟩
  rw [upd_upd]
  exact q p hp
end
end Cm
namespace Cm
open PySem PySem.Spec PyProof.Rows L2
section
variable {K : PySem.W.Frag} {H : Hp} {Q : VK} {p : Addr} {x y z v : V} {xs : List V} {R : Hp → Prop}
theorem r_ixL0 (h : H p = some (.lst (x :: xs))) (q : Q x H) : rIx K (.ref p) (.int 0) H Q := r_ixL h (atI_nat (j := 0) rfl) q
theorem r_ixL1 (h : H p = some (.lst (x :: y :: xs))) (q : Q y H) : rIx K (.ref p) (.int 1) H Q := r_ixL h (atI_nat (j := 1) rfl) q
theorem r_ixL2 (h : H p = some (.lst (x :: y :: z :: xs))) (q : Q z H) : rIx K (.ref p) (.int 2) H Q := r_ixL h (atI_nat (j := 2) rfl) q
theorem r_ixT0 (h : H p = some (.tup (x :: xs))) (q : Q x H) : rIx K (.ref p) (.int 0) H Q := r_ixT h (atI_nat (j := 0) rfl) q
theorem r_ixT1 (h : H p = some (.tup (x :: y :: xs))) (q : Q y H) : rIx K (.ref p) (.int 1) H Q := r_ixT h (atI_nat (j := 1) rfl) q
theorem r_ixT2 (h : H p = some (.tup (x :: y :: z :: xs))) (q : Q z H) : rIx K (.ref p) (.int 2) H Q := r_ixT h (atI_nat (j := 2) rfl) q
theorem r_setL0 (h : H p = some (.lst (x :: xs))) (q : R (upd H p (.lst (v :: xs)))) : rSetL (.ref p) (.int 0) v H R :=
  r_setAt h (by decide) (by simp only [List.length_cons]; omega) q
theorem r_setL1 (h : H p = some (.lst (x :: y :: xs))) (q : R (upd H p (.lst (x :: v :: xs)))) : rSetL (.ref p) (.int 1) v H R :=
  r_setAt h (by decide) (by simp only [List.length_cons]; omega) q
theorem r_setL2 (h : H p = some (.lst (x :: y :: z :: xs))) (q : R (upd H p (.lst (x :: y :: v :: xs)))) : rSetL (.ref p) (.int 2) v H R :=
  r_setAt h (by decide) (by simp only [List.length_cons]; omega) q
end
end Cm
namespace Cm
open PySem PySem.Spec PyProof.Rows L2
/-- nothing is known to stand at q -/
structure Fre (H : Hp) (q : Addr) : Prop where
  no : H q = none
section
variable {H H' H0 : Hp} {p q : Addr} {o u : HO}
theorem r_free {Q : Addr → Prop} (h : ∀ p, Fre H p → Q p) : ∀ p, H p = none → Q p := fun p n => h p ⟨n⟩
theorem Keep.newF (k : Keep p H H') (n : Fre H' q) : Keep p H (upd H' q o) := k.new n.no
theorem Keep.overF (k : Keep p H H') (n : Fre H q) : Keep p H (upd H' q o) := k.over n.no
theorem Keep.freeF (k : Keep p H0 H) (ne : q ≠ p) (n : Fre H q) : Fre H0 q := ⟨k.free ne n.no⟩
theorem Same.newF (k : Same H H') (n : Fre H' q) : Same H (upd H' q o) := Same.new k n.no
theorem Same.overF (k : Same H H') (n : Fre H q) : Same H (upd H' q o) := Same.over k n.no
theorem Same.freeF (k : Same H0 H) (n : Fre H q) : Fre H0 q := ⟨k.free n.no⟩
theorem Fre.of (n : Fre (upd H p o) q) : Fre H q := ⟨(upd_free n.no).2⟩
theorem g_newF (n : Fre H p) (hq : H q = some u) : upd H p o q = some u := g_new hq n.no
end
end Cm
namespace Cm
open PySem PySem.Spec PyProof.Rows L2
/-- what stands there is such data -/
inductive DtC (H : Hp) (p : Addr) : HO → PyData → Prop
  | tup {xs : List V} {ds : List PyData} : DtAll H p xs ds → DtC H p (.tup xs) (.tuple ds)
  | lst {xs : List V} {ds : List PyData} : DtAll H p xs ds → DtC H p (.lst xs) (.list ds)
  | dct {kvs : List (Key × V)} : (∀ x ∈ kvs, ∃ i, x.2 = V.int i) → DtC H p (.dK kvs) (.dict (kvs.map pairD))
theorem Dt.there {H : Hp} {p a : Addr} {o : HO} {d : PyData} (n : a ≠ p) (h : H a = some o) (c : DtC H p o d) : Dt H p (.ref a) d := by
  cases c with
  | tup x => exact .tup n h x
  | lst x => exact .lst n h x
  | dct x => exact .dct n h x
end Cm
namespace Cm
open PySem PySem.Spec PyProof.Rows L2
section
variable {K : PySem.W.Frag} {H : Hp} {Q : VK} {p : Addr} {xs : List V} {i : Int}
theorem r_pickI (h : H p = some (.lst xs)) (h0 : 0 ≤ i) (h1 : i < xs.length) (b : ∀ v ∈ xs, ∃ z, v = V.int z) (q : ∀ z, V.int z ∈ xs → Q (.int z) H) : rIx K (.ref p) (.int i) H Q :=
  r_pickL h h0 h1 fun v hv => by
    obtain ⟨z, rfl⟩ := b v hv
    exact q z hv
theorem r_pickS (h : H p = some (.lst xs)) (h0 : 0 ≤ i) (h1 : i < xs.length) (b : ∀ v ∈ xs, ∃ z, v = V.str z) (q : ∀ z, V.str z ∈ xs → Q (.str z) H) : rIx K (.ref p) (.int i) H Q :=
  r_pickL h h0 h1 fun v hv => by
    obtain ⟨z, rfl⟩ := b v hv
    exact q z hv
end
end Cm
namespace Cm
open PySem PySem.Spec PyProof.Rows L2
section
variable {K : PySem.W.Frag} {H : Hp} {σ : L2.St} {D : Ends}
theorem r_for {wi : TI} {g : TG} {tb : TS} (q : wi σ H fun J H1 => ∃ W : Nat → Nat → L2.St → Hp → Prop, (∃ m, W 0 m σ H1) ∧ ∀ i m σ H, W i m σ H →
    (J.stop i H ∧ D.nx σ H) ∨ (J.go i H ∧ ∃ N : L2.St → Hp → Prop, (∀ σ' H', N σ' H' → ∃ m', m' < m ∧ W (i + 1) m' σ' H') ∧ ∀ x H', J.yld i H x H' → g x σ H' fun σ2 H2 => tb { nx := N, rt := D.rt, bk := D.nx, ct := N } σ2 H2)) : tFor wi g tb D σ H := q
end
end Cm
namespace Cm
open PySem PySem.Spec PyProof.Rows L2
section
variable {K : PySem.W.Frag} {σ : L2.St} {H : Hp} {g : TG} {tb : TS} {nx : L2.St → Hp → Prop} {rt : VK}
theorem for_rng {lo : Int} {n : Nat} (Pv : Nat → L2.St → Hp → Prop) (h0 : Pv 0 σ H)
    (hs : ∀ i σ H, i < n → Pv i σ H → g (.int (lo + i)) σ H fun σ2 H2 => tb { nx := Pv (i + 1), rt := rt, bk := nx, ct := Pv (i + 1) } σ2 H2) (hd : ∀ σ H, Pv n σ H → nx σ H) :
    ∃ W : Nat → Nat → L2.St → Hp → Prop, (∃ m, W 0 m σ H) ∧ ∀ i m σ H, W i m σ H →
      ((Itr lo n).stop i H ∧ nx σ H) ∨ ((Itr lo n).go i H ∧ ∃ N : L2.St → Hp → Prop, (∀ σ' H', N σ' H' → ∃ m', m' < m ∧ W (i + 1) m' σ' H') ∧ ∀ x H', (Itr lo n).yld i H x H' → g x σ H' fun σ2 H2 => tb { nx := N, rt := rt, bk := nx, ct := N } σ2 H2) :=
  for_range (D := { nx := nx, rt := rt }) Pv h0 hs hd
theorem for_lst {a : Addr} {xs : List V} (Pv : Nat → L2.St → Hp → Prop) (h0 : Pv 0 σ H) (hl : ∀ i σ H, i ≤ xs.length → Pv i σ H → SqL K H a xs)
    (hs : ∀ i x σ H, xs[i]? = some x → Pv i σ H → g x σ H fun σ2 H2 => tb { nx := Pv (i + 1), rt := rt, bk := nx, ct := Pv (i + 1) } σ2 H2) (hd : ∀ σ H, Pv xs.length σ H → nx σ H) :
    ∃ W : Nat → Nat → L2.St → Hp → Prop, (∃ m, W 0 m σ H) ∧ ∀ i m σ H, W i m σ H →
      ((Itl K a).stop i H ∧ nx σ H) ∨ ((Itl K a).go i H ∧ ∃ N : L2.St → Hp → Prop, (∀ σ' H', N σ' H' → ∃ m', m' < m ∧ W (i + 1) m' σ' H') ∧ ∀ x H', (Itl K a).yld i H x H' → g x σ H' fun σ2 H2 => tb { nx := N, rt := rt, bk := nx, ct := N } σ2 H2) :=
  for_list (D := { nx := nx, rt := rt }) Pv h0 hl hs hd
end
end Cm
namespace Cm
open PySem PySem.Spec PyProof.Rows L2
theorem n_newF {H : Hp} {p q : Addr} {u : HO} (n : Fre H p) (h : H q = some u) : q ≠ p := ne_of_none h n.no
theorem n_newF' {H : Hp} {p q : Addr} {u : HO} (n : Fre H p) (h : H q = some u) : p ≠ q := (ne_of_none h n.no).symm
end Cm
namespace Cm
open PySem PySem.Spec PyProof.Rows L2
/-- a part of the heap that stands apart from p and f -/
structure Reg (R H : Hp) (p f : Addr) : Prop where
  sub : Same R H
  np : R p = none
  nf : R f = none
section
variable {R H H' : Hp} {p f q t : Addr} {o : HO}
theorem Reg.nil : Reg (fun _ => none) H p f := ⟨(fun _ _ h => by cases h), rfl, rfl⟩
theorem Reg.keep (r : Reg R H p f) (k : Keep p H H') : Reg R H' p f :=
  ⟨fun b o h => k b o (ne_of_none h r.np) (r.sub b o h), r.np, r.nf⟩
theorem Reg.new (r : Reg R H p f) (n : Fre H q) : Reg R (upd H q o) p f := ⟨Same.new r.sub n.no, r.np, r.nf⟩
theorem Reg.put (r : Reg R H p f) : Reg R (upd H f o) p f :=
  ⟨fun b u h => by rw [upd_ne (ne_of_none h r.nf)]; exact r.sub b u h, r.np, r.nf⟩
theorem Reg.add (r : Reg R H p f) (h : H t = some o) (ntp : t ≠ p) (ntf : t ≠ f) : Reg (upd R t o) H p f ∧ Same R (upd R t o) := by
  refine ⟨⟨fun b u e => ?_, by rw [upd_ne ntp.symm]; exact r.np, by rw [upd_ne ntf.symm]; exact r.nf⟩, fun b u e => ?_⟩
  · by_cases hb : b = t
    · subst hb
      rw [upd_same] at e
      cases e
      exact h
    · rw [upd_ne hb] at e
      exact r.sub b u e
  · by_cases hb : b = t
    · subst hb
      have := r.sub _ _ e
      rw [h] at this
      cases this
      exact upd_same
    · rw [upd_ne hb]
      exact e
end
end Cm
namespace Cm
open PySem PySem.Spec PyProof.Rows L2
section
variable {K : PySem.W.Frag} {H H1 : Hp} {Q : VK} {σ : L2.St} {D : Addr}
theorem r_lc {wi : TI} {g : TG} {tt : TT} {te : TE} {vs : List Nat} (q : wi σ H fun J H1 => ∀ D, H1 D = none → ∃ W : Nat → Nat → Hp → Prop, (∃ m, W 0 m (upd H1 D (.lst []))) ∧ ∀ i m H, W i m H →
    (J.stop i H ∧ Q (.ref D) H) ∨ (J.go i H ∧ ∃ Nx : Hp → Prop, (∀ H', Nx H' → ∃ m', m' < m ∧ W (i + 1) m' H') ∧ ∀ x H', J.yld i H x H' → g x (wipe σ vs) H' fun σ2 H2 => wipe σ2 vs = wipe σ vs ∧ tt σ2 H2 fun b H3 =>
      if b = true then te σ2 H3 fun y H4 => ∃ acc, H4 D = some (.lst acc) ∧ acc.length < sizeLine ∧ Nx (upd H4 D (.lst (acc ++ [y]))) else Nx H3)) : tLc wi g tt te vs σ H Q := q
theorem r_wipe {σ' : L2.St} {vs : List Nat} {P : Prop} (e : wipe σ' vs = wipe σ vs) (q : P) : wipe σ' vs = wipe σ vs ∧ P := ⟨e, q⟩
theorem r_yes {Q : Bool → Hp → Prop} (q : Q true H) : tYes σ H Q := q
theorem lc_close {ys : List V} {i : Nat} {y : V} (e : ys[i]? = some y) (hn : ys.length ≤ 1000) : ∃ acc, (upd H1 D (.lst (ys.take i))) D = some (.lst acc) ∧ acc.length < sizeLine ∧
    upd (upd H1 D (.lst (ys.take i))) D (.lst (acc ++ [y])) = upd H1 D (.lst (ys.take (i + 1))) := by
  obtain ⟨hi, he⟩ := List.getElem?_eq_some_iff.mp e
  refine ⟨_, upd_same, ?_, ?_⟩
  · have : (ys.take i).length ≤ 1000 := by rw [List.length_take]; omega
    exact Nat.lt_of_le_of_lt this (by decide)
  · rw [upd_upd, List.take_succ_eq_append_getElem hi, he]
theorem ints_dp : ∀ (ns : List Int), DpAll K H (ns.map V.int) (ns.map PyData.int)
  | [] => .nil
  | n :: ns => .cons (.int n) (ints_dp ns)
theorem ints_eqv : ∀ (a b : List Int), PyData.eqvAll (a.map PyData.int) (b.map PyData.int) = decide (a = b)
  | [], [] => rfl
  | [], _ :: _ => rfl
  | _ :: _, [] => rfl
  | x :: a, y :: b => by
    rw [List.map_cons, List.map_cons]
    simp only [PyData.eqvAll, PyData.eqv, ints_eqv a b, List.cons.injEq]
    by_cases h : x = y <;> simp [h]
theorem ints_lay : ∀ (a : List Int), PyData.canLayAll0 (a.map PyData.int) = true ∧ PyData.depthAll (a.map PyData.int) = 0
  | [] => ⟨rfl, rfl⟩
  | x :: a => by
    have h := ints_lay a
    rw [List.map_cons]
    refine ⟨?_, ?_⟩
    · simp only [PyData.canLayAll0, PyData.canLay0, Bool.true_and]; exact h.1
    · simp only [PyData.depthAll, PyData.depth, h.2]; rfl
theorem ints_shaped (a : List Int) : SeqAt.shaped (.list (a.map PyData.int)) = true := by
  have h := ints_lay a
  unfold SeqAt.shaped
  simp only [PyData.canLay0, PyData.depth, h.1, h.2]
  decide
theorem r_sameInts {a b : Addr} {ns ms : List Int} (h : H a = some (.lst (ns.map V.int))) (h' : H b = some (.lst (ms.map V.int))) (q : Q (.bl (decide (ns = ms))) H) : rSame K (.ref a) (.ref b) H Q := by
  refine .inr ⟨.list (ns.map .int), .list (ms.map .int), .lst (SqL.of h) (ints_dp ns), .lst (SqL.of h') (ints_dp ms), ints_shaped ns, ints_shaped ms, ?_⟩
  have e : PyData.eqv (.list (ns.map PyData.int)) (.list (ms.map PyData.int)) = decide (ns = ms) := by
    simp only [PyData.eqv]; exact ints_eqv ns ms
  rw [e]
  exact q
end
theorem fit_bools {a b : Bool} : Fit 60 60000 (.list [.bool a, .bool b]) := ⟨rfl, rfl, Nat.le_of_ble_eq_true rfl, Nat.le_of_ble_eq_true rfl⟩
end Cm
set_option Elab.async false
set_option linter.all false
set_option maxRecDepth 100000
set_option maxHeartbeats 4000000
/-! ## 6. Defs with defaults, calls by names -/
namespace Cm
open PySem PySem.Spec PyProof.Rows L2
def nV : List V → Nat → V
  | [], _ => .non
  | v :: _, 0 => v
  | _ :: vs, n + 1 => nV vs n
def nU : List Value → Nat → Value
  | [], _ => .none
  | v :: _, 0 => v
  | _ :: vs, n + 1 => nU vs n
theorem nRel : ∀ {vs : List V} {us : List Value} (i : Nat), Vals vs us → RelV (nV vs i) (nU us i)
  | _, _, _, .nil => rfl
  | _, _, 0, .cons r _ => r
  | _, _, i + 1, .cons _ r => nRel i r
/-- a def with defaults, the tuple of them at T -/
abbrev FnD (K : PySem.W.Frag) (x qual : Str) (st : Stmt) (dvs : List V) (f : Addr) (fd : FuncData) : Prop :=
  FunD K x qual (defArgs st) (defBody st) (defScope st) dvs [] f fd
theorem fnd_mk {K : PySem.W.Frag} {x qual : Str} {st : Stmt} {f T : Addr} {oc ocT : Value} {od an odT : Option Addr} {osl slT : Array (Option Value)} {kV doc pm cdv ct : Value}
    {its : List Value} {m : Nat} {dvs : List V}
    (l : K.lookup f = some ⟨oc, od, .func (PySem.W.fnOf x qual (defArgs st) (defBody st) (defScope st) (.ref T) kV doc pm an cdv ct), osl⟩)
    (c : PySem.W.codeIn K cdv qual = true) (k : PySem.W.keepIn K (.ref f) = true) (lT : K.lookup T = some ⟨ocT, odT, .seq its.toArray m, slT⟩) (hne : dvs ≠ []) (hv : Vals dvs its) :
    FnD K x qual st dvs f (PySem.W.fnOf x qual (defArgs st) (defBody st) (defScope st) (.ref T) kV doc pm an cdv ct) :=
  ⟨⟨oc, od, .ref T, kV, doc, pm, an, cdv, ct, osl, rfl, l, c, .inr ⟨hne, T, _, its, m, rfl, lT, rfl, hv⟩, .inl rfl⟩, k⟩
section
variable {P : Program} {w : World} {K : PySem.W.Frag} {mg : Str → Option Value} {base : Heap}
theorem fgd_of {CX : CXT} {x qual : Str} {st : Stmt} {dvs : List V} {f : Addr} {fd : FuncData}
    {N ps : List Str} {k : Nat} {sp : Sp} (F : FnD K x qual st dvs f fd)
    (S : FnScope N ps (defScope st)) (len : ∀ vs H Q E, sp vs H Q E → vs.length = ps.length)
    (hbody : ∀ (cdv : Value) (A : Around) (outer : List Env) (s : Shared) (H : Hp)
      (vs : List V) (Q : VK) (E : XK),
      Room k (A.deeper (envOfC qual (defScope st) s.heap.objs.size f cdv)) →
      A.guards = some [] → sp vs H Q E →
      ∃ t, PSs (cxOf CX P w K mg base N qual (defScope st) f cdv A outer s H E) (defBody st) t ∧
        t { nx := fun _ H' => Q .non H', rt := Q } (start N vs) H) :
    Fg P w K mg base CX (k + 1) f fd ps sp := by
  obtain ⟨oc, od, dV, kV, doc, pm, an, cdv, ct, osl, rfl, lk, hcd, _, _⟩ := F.ex
  refine ⟨len, ?_⟩
  intro A outer s H args us vs Q E hr hgd env hb r hsp
  have nvs : vs.length = ps.length := len _ _ _ _ hsp
  have old : ∀ b o, base.get? b = some o → s.heap.get? b = some o :=
    fun b o e => (env.bs b o e).1
  have KX : K.In s.heap := env.mod.kin.keeps old
  have lim : s.heap.NoLimit := env.mod.nolimit.keeps old
  have kinds : ∀ y ∈ ps.zip us, (defScope st).names.lookup y.1 = some .local ∨
      ((defScope st).names.lookup y.1 = some .cell ∧
        ((cellsFrom (s.heap.objs.size + 1) (defScope st).names []).lookup y.1).isSome = true) := by
    rintro ⟨n, v⟩ hy
    cases S.par n (List.of_mem_zip hy).1 with
    | inl q => exact .inl q
    | inr q => exact .inr ⟨q, PySem.W.cellsFrom_some _ _ _ (.inl q)⟩
  refine codeAny_call_function hr.depth (KX _ _ lk) rfl S.co S.gen rfl
    (PySem.W.codeRec_of KX hcd) (hb _ _ _ _ ?_)
  refine wpAny_newFunctionEnv_cells S.kind kinds ?_
  intro env' he s1 xx
  subst he
  refine ⟨lim.keeps xx.toInCall.keep, codeAny_func ?_⟩
  obtain ⟨t, ht, hq⟩ := hbody cdv A outer s H vs Q E (hr.deeper _) hgd hsp
  have I := inv_start (CX := CX) (P := P) (mg := mg) (E := E) S hr.hd env nvs r xx
  have leave : ∀ {σ' : L2.St} {H' : Hp} {v : V} {u : Value} {s' : Shared},
      Inv (cxOf CX P w K mg base N qual (defScope st) f cdv A outer s H E) [] σ' H' s' →
      RelV v u → Q v H' → CE outer P w H s Q u s' := by
    intro σ' H' v u s' J rv q
    exact ⟨v, H', J.os, J.bare, J.base, J.hok, rv, q⟩
  refine wpAny_mono (ht.run [] s1 (start N vs) H _ I hq) ?_ (fun e s' hs => hs)
  intro fl s' hs
  match fl, hs with
  | .ret u, hs =>
    obtain ⟨v, σ', H', J, rv, q⟩ := hs
    exact leave J rv q
  | .next, hs =>
    obtain ⟨σ', H', J, q⟩ := hs
    exact leave (v := V.non) (u := Value.none) J rfl q
  | .brk, hs =>
    obtain ⟨_, _, _, q⟩ := hs
    exact False.elim q
  | .cont, hs =>
    obtain ⟨_, _, _, q⟩ := hs
    exact False.elim q
theorem fgd_of0 {x qual : Str} {st : Stmt} {dvs : List V} {f : Addr} {fd : FuncData}
    {N ps : List Str} {k : Nat} {sp : Sp} (F : FnD K x qual st dvs f fd)
    (S : FnScope N ps (defScope st)) (len : ∀ vs H Q E, sp vs H Q E → vs.length = ps.length)
    (hbody : ∀ (cdv : Value) (A : Around) (outer : List Env) (s : Shared) (H : Hp)
      (vs : List V) (Q : VK) (E : XK),
      Room k (A.deeper (envOfC qual (defScope st) s.heap.objs.size f cdv)) →
      A.guards = some [] → sp vs H Q E →
      ∃ t, PSs (cxOf CX0 P w K mg base N qual (defScope st) f cdv A outer s H E).nox (defBody st) t ∧
        t { nx := fun _ H' => Q .non H', rt := Q } (start N vs) H) :
    Fg P w K mg base CX0 (k + 1) f fd ps sp := by
  refine fgd_of F S len ?_
  intro cdv A outer s H vs Q E hr hg hsp
  obtain ⟨t, h, q⟩ := hbody cdv A outer s H vs Q E hr hg hsp
  exact ⟨t, h.nox, q⟩
end
/-- what a call by names binds, in the parameters' order, the defaults among them -/
theorem kbn_mk {K : PySem.W.Frag} {fd : FuncData} {ps ks : List Str} {n : Nat} {T : Addr} {ocT : Value} {odT : Option Addr} {slT : Array (Option Value)} {its : List Value} {m : Nat}
    {g : List Value → List Value → List Value} {gV : List V → List V → List V}
    (lT : K.lookup T = some ⟨ocT, odT, .seq its.toArray m, slT⟩) (hr : ∀ {vs : List V} {us : List Value} {zs : List V} {ws : List Value}, Vals vs us → Vals zs ws → Vals (gV vs zs) (g us ws))
    (h : ∀ us ws : List Value, us.length = n → ws.length = ks.length → ∃ k, bindArgs fd ⟨us, ks.zip ws⟩ = seqItems? (.ref T) >>= k ∧ k (some its.toArray) = pure (ps.zip (g us ws))) : KBn K fd ps n ks g gV := by
  refine ⟨fun s us ws X l1 l2 => ?_, hr⟩
  obtain ⟨k, e1, e2⟩ := h us ws l1 l2
  refine BindsTo.of_looks fun M => ?_
  rw [e1]
  exact looks_items X lT rfl (.of_pure e2)
section
variable {X : Cx} {CX : CXT} {k n : Nat} {f : Addr} {fd : FuncData} {ps ks : List Str}
  {sp : Sp} {dvs : List V} {E : XK} {x : Str} {p pos : Pos}
  {e : Expr} {es : List Expr} {kws : List Keyword} {t tk : TA} {g : List Value → List Value → List Value} {gV : List V → List V → List V}
theorem pg_callD (F : Fg X.prog X.w X.K X.mg X.base CX k f fd ps sp) (hr : Room k X.A)
    (hgd : X.A.guards = some []) (hg : Gl X x) (hm : X.mg x = some (.ref f))
    (hk : PySem.W.keepIn X.K (.ref f) = true) (hb : ∃ ds, Vals dvs ds ∧ Binds X.K fd ps ds)
    (hx : Passes CX X E) (ha : PA X (e :: es) t)
    (hdb : (x == ("__debug__" : Str)) = false := by decide)
    (he : starEach (e :: es) X.env = (false, eval e X.env) :: starEach es X.env := by rfl)
    (hpl : (backTo pos (starEach es X.env)).any (·.1) = false := by rfl) :
    PE X (.Call (.Name x p) (e :: es) [] pos) (tCall sp dvs E t) := by
  obtain ⟨ds, hd, hb⟩ := hb
  exact pg_call F hr hgd hg hm hk hb hd hx ha hdb he hpl
theorem go_fnN {pins : List (Addr × Obj)} {σ : L2.St} {H : Hp} {s : Shared} {Q : VK}
    {us ws : List Value} {vs zs : List V}
    (F : Fg X.prog X.w X.K X.mg X.base CX k f fd ps sp) (hr : Room k X.A)
    (hg : X.A.guards = some []) (hb : KBn X.K fd ps n ks g gV)
    (hx : Passes CX X E) (I : Inv X pins σ H s) (r : Vals vs us) (rz : Vals zs ws)
    (l1 : vs.length = n) (l2 : zs.length = ks.length) (h : sp (gV vs zs) H Q E) :
    wpAny (model X.prog X.w) X.A (call (.ref f) us (ks.zip ws)) (EP X pins σ Q) X.xe s := by
  have both := hb.rel r rz
  have body := F.go X.A X.stack s H ⟨us, ks.zip ws⟩ (g us ws) (gV vs zs) Q E hr hg I.env0
    (hb.to s us ws I.kIn (r.length.symm.trans l1) (rz.length.symm.trans l2)) both h
  refine wpAny_call (codeAny_mono body ?_)
  intro r s' hq
  match r, hq with
  | .error e, hq => exact hx pins σ H s e s' I hq
  | .ok (.ret u), hq => exact I.after hq
theorem pg_callN (F : Fg X.prog X.w X.K X.mg X.base CX k f fd ps sp) (hr : Room k X.A)
    (hgd : X.A.guards = some []) (hg : Gl X x) (hm : X.mg x = some (.ref f))
    (hk : PySem.W.keepIn X.K (.ref f) = true) (hb : KBn X.K fd ps n ks g gV)
    (hx : Passes CX X E) (ha : PA X (e :: es) t) (hkw : PK X kws tk)
    (hall : (backToKw pos (keywordEach kws X.env)).all (·.1.isSome) = true := by rfl)
    (hks : (backToKw pos (keywordEach kws X.env)).filterMap (·.1) = ks := by rfl)
    (hdb : (x == ("__debug__" : Str)) = false := by decide)
    (he : starEach (e :: es) X.env = (false, eval e X.env) :: starEach es X.env := by rfl)
    (hpl : ((backTo pos (starEach (e :: es) X.env)).any (·.1) || (backToKw pos (keywordEach kws X.env)).any (·.1.isNone)) = false := by rfl) :
    PE X (.Call (.Name x p) (e :: es) kws pos) (tCallN n ks.length sp gV E t tk) := by
  constructor
  intro pins s σ H Q I h
  have args := ha.run pos pins s σ H _ I h
  refine wpAny_Call_Name_kw (ld_glob I hg hm ?_ hdb)
  refine PySem.W.callWith_KW (h₀ := X.base) I.ok.mod.kin hk hall (thn args ?_) hpl he
  rintro us s1 ⟨vs, H1, I1, r, q⟩
  refine thn (hkw.run pos pins s1 σ H1 _ I1 q) ?_
  rintro ws s2 ⟨zs, H2, I2, rz, l1, l2, q2⟩
  refine ⟨I2.kIn, ?_⟩
  rw [hks]
  exact go_fnN F hr hgd hb hx I2 r rz l1 l2 q2
theorem pg_callN0 (F : Fg X.prog X.w X.K X.mg X.base CX k f fd ps sp) (hr : Room k X.A)
    (hgd : X.A.guards = some []) (hg : Gl X x) (hm : X.mg x = some (.ref f))
    (hk : PySem.W.keepIn X.K (.ref f) = true) (hb : KBn X.K fd ps 0 ks g gV)
    (hx : Passes CX X E) (hkw : PK X kws tk)
    (hall : (backToKw pos (keywordEach kws X.env)).all (·.1.isSome) = true := by rfl)
    (hks : (backToKw pos (keywordEach kws X.env)).filterMap (·.1) = ks := by rfl)
    (hdb : (x == ("__debug__" : Str)) = false := by decide)
    (hpl : ((backTo pos (starEach [] X.env)).any (·.1) || (backToKw pos (keywordEach kws X.env)).any (·.1.isNone)) = false := by rfl) :
    PE X (.Call (.Name x p) [] kws pos) (tCallN 0 ks.length sp gV E tNil tk) := by
  constructor
  intro pins s σ H Q I h
  refine wpAny_Call_Name_kw (ld_glob I hg hm ?_ hdb)
  refine PySem.W.callWith_KW0 (h₀ := X.base) I.ok.mod.kin hk hall (thn (hkw.run pos pins s σ H _ I h) ?_) hpl
  rintro ws s2 ⟨zs, H2, I2, rz, l1, l2, q2⟩
  refine ⟨I2.kIn, ?_⟩
  rw [hks]
  exact go_fnN (us := []) (vs := []) F hr hgd hb hx I2 .nil rz l1 l2 q2
theorem r_callN {σ : L2.St} {H : Hp} {Q : VK} {m : Nat} (q : t σ H fun vs H1 => tk σ H1 fun zs H2 => vs.length = n ∧ zs.length = m ∧ sp (gV vs zs) H2 Q E) : tCallN n m sp gV E t tk σ H Q := q
theorem r_names {vs zs : List V} {m : Nat} {Q : Prop} (h1 : vs.length = n) (h2 : zs.length = m) (q : Q) : vs.length = n ∧ zs.length = m ∧ Q := ⟨h1, h2, q⟩
end
end Cm
set_option Elab.async false
set_option linter.all false
set_option maxRecDepth 100000
set_option maxHeartbeats 4000000
/-! ## 7. Instances of the program's own classes -/
namespace Cm
open PySem PySem.Spec PyProof.Rows L2
theorem under_guards {A : Around} {C : Addr} {us : List Value} {kw : List (Str × Value)} (h : A.guards = some []) : (A.under (.builtin "type.__call__" ⟨.ref C :: us, kw⟩)).guards = some [] := by
  first
    | exact h
    | (simp only [Around.under]; exact h)
    | (simp [Around.under, Code.weight, Code.isCreation, Code.isGuard, Code.isCaller, Code.frames, Code.isFrame, guardIds, h])
section
variable {X : Cx} {CX : CXT} {k n : Nat} {f C : Addr} {fd : FuncData} {ps ks : List Str} {sp : Sp} {E : XK} {x : Str} {p pos : Pos}
  {e : Expr} {es : List Expr} {kws : List Keyword} {t tk : TA} {g : List Value → List Value → List Value} {gV : List V → List V → List V}
theorem go_makeN {pins : List (Addr × Obj)} {σ : L2.St} {H : Hp} {s : Shared} {Q : VK} {us ws : List Value} {vs zs : List V}
    (M : Mk X.K C f) (F : Fg X.prog X.w X.K X.mg X.base CX k f fd ps sp) (hr : Room (k + 1) X.A) (hgd : X.A.guards = some [])
    (hb : KBn X.K fd ps (n + 1) ks g gV) (hx : Passes CX X E) (I : Inv X pins σ H s) (r : Vals vs us) (rz : Vals zs ws)
    (l1 : vs.length = n) (l2 : zs.length = ks.length)
    (h : ∀ x dx, H x = none → H dx = none → dx ≠ x → sp (gV (.ref x :: vs) zs) (upd (upd H dx (.own x)) x (.ins C dx [])) (fun v H2 => v = .non ∧ Q (.ref x) H2) E) :
    wpAny (model X.prog X.w) X.A (call (.ref C) us (ks.zip ws)) (EP X pins σ Q) X.xe s := by
  let nx := s.heap.objs.size + 1
  have start := h nx s.heap.objs.size (I.hok.fresh (Nat.le_succ _)) (I.hok.fresh (Nat.le_refl _)) (Nat.ne_of_lt (Nat.lt_succ_self _))
  have J := Inv.made (C := C) I
  have r1 : Vals (V.ref nx :: vs) (Value.ref nx :: us) := .cons rfl r
  have both := hb.rel r1 rz
  have k1 : (Value.ref nx :: us).length = n + 1 := r1.length.symm.trans (congrArg Nat.succ l1)
  have k2 : ws.length = ks.length := rz.length.symm.trans l2
  have body := F.go _ X.stack _ _ ⟨Value.ref nx :: us, ks.zip ws⟩ (g (Value.ref nx :: us) ws) _ _ E (hr.make C us (ks.zip ws))
    (under_guards hgd) (J.env0.make C us (ks.zip ws)) (hb.to _ (Value.ref nx :: us) ws J.kIn k1 k2) both start
  refine wpAny_call (make_map (f := f) I.kIn M.makes M.init (beq_iff_eq.mp M.fn) (codeAny_mono body ?_))
  intro rr s' hq
  match rr, hq with
  | .error e, hq => exact hx pins σ _ _ e s' J hq
  | .ok (.ret u), hq =>
    obtain ⟨v, H', J3, rv, ev, q⟩ := J.after hq
    subst ev
    exact ⟨rv, ⟨V.ref nx, H', J3, rfl, q⟩⟩
/-- C(k = v, ..) -/
theorem pg_makeN0 (M : Mk X.K C f) (F : Fg X.prog X.w X.K X.mg X.base CX k f fd ps sp) (hr : Room (k + 1) X.A) (hgd : X.A.guards = some [])
    (hg : Gl X x) (hm : X.mg x = some (.ref C)) (hb : KBn X.K fd ps 1 ks g gV) (hx : Passes CX X E) (hkw : PK X kws tk)
    (hall : (backToKw pos (keywordEach kws X.env)).all (·.1.isSome) = true := by rfl)
    (hks : (backToKw pos (keywordEach kws X.env)).filterMap (·.1) = ks := by rfl)
    (hdb : (x == ("__debug__" : Str)) = false := by decide)
    (hpl : ((backTo pos (starEach [] X.env)).any (·.1) || (backToKw pos (keywordEach kws X.env)).any (·.1.isNone)) = false := by rfl) :
    PE X (.Call (.Name x p) [] kws pos) (tMakeN C 0 ks.length sp gV E tNil tk) := by
  constructor
  intro pins s σ H Q I h
  refine wpAny_Call_Name_kw (ld_glob I hg hm ?_ hdb)
  refine PySem.W.callWith_KW0 (h₀ := X.base) I.ok.mod.kin M.kp hall (thn (hkw.run pos pins s σ H _ I h) ?_) hpl
  rintro ws s2 ⟨zs, H2, I2, rz, l1, l2, q2⟩
  refine ⟨I2.kIn, ?_⟩
  rw [hks]
  exact go_makeN (us := []) (vs := []) M F hr hgd hb hx I2 .nil rz l1 l2 q2
/-- C(e, .., k = v, ..) -/
theorem pg_makeN (M : Mk X.K C f) (F : Fg X.prog X.w X.K X.mg X.base CX k f fd ps sp) (hr : Room (k + 1) X.A) (hgd : X.A.guards = some [])
    (hg : Gl X x) (hm : X.mg x = some (.ref C)) (hb : KBn X.K fd ps (n + 1) ks g gV) (hx : Passes CX X E) (ha : PA X (e :: es) t) (hkw : PK X kws tk)
    (hall : (backToKw pos (keywordEach kws X.env)).all (·.1.isSome) = true := by rfl)
    (hks : (backToKw pos (keywordEach kws X.env)).filterMap (·.1) = ks := by rfl)
    (hdb : (x == ("__debug__" : Str)) = false := by decide)
    (he : starEach (e :: es) X.env = (false, eval e X.env) :: starEach es X.env := by rfl)
    (hpl : ((backTo pos (starEach (e :: es) X.env)).any (·.1) || (backToKw pos (keywordEach kws X.env)).any (·.1.isNone)) = false := by rfl) :
    PE X (.Call (.Name x p) (e :: es) kws pos) (tMakeN C n ks.length sp gV E t tk) := by
  constructor
  intro pins s σ H Q I h
  have args := ha.run pos pins s σ H _ I h
  refine wpAny_Call_Name_kw (ld_glob I hg hm ?_ hdb)
  refine PySem.W.callWith_KW (h₀ := X.base) I.ok.mod.kin M.kp hall (thn args ?_) hpl he
  rintro us s1 ⟨vs, H1, I1, r, q⟩
  refine thn (hkw.run pos pins s1 σ H1 _ I1 q) ?_
  rintro ws s2 ⟨zs, H2, I2, rz, l1, l2, q2⟩
  refine ⟨I2.kIn, ?_⟩
  rw [hks]
  exact go_makeN M F hr hgd hb hx I2 r rz l1 l2 q2
theorem r_makeN {σ : L2.St} {H : Hp} {Q : VK} {m : Nat} (q : t σ H fun vs H1 => tk σ H1 fun zs H2 => vs.length = n ∧ zs.length = m ∧
    ∀ x dx, H2 x = none → H2 dx = none → dx ≠ x → sp (gV (.ref x :: vs) zs) (upd (upd H2 dx (.own x)) x (.ins C dx [])) (fun v H3 => v = .non ∧ Q (.ref x) H3) E) :
    tMakeN C n m sp gV E t tk σ H Q := q
end
end Cm
set_option Elab.async false
set_option linter.all false
set_option maxRecDepth 100000
set_option maxHeartbeats 4000000
namespace Cm
open PySem PySem.Spec PyProof.Rows L2
open AutoSeq1 (wpAny_loadPart')
open PySem.SeqAt
section
variable {prog : Program} {w : World} {A : Around} {E : Value → Shared → Prop} {s : Shared} {Q : Fin → Shared → Prop} {K : PySem.W.Frag} {x C : Addr} {o : Obj}
theorem dec_non (q : Q (.done (.ret .notImplemented)) s) : wpAny (model prog w) A (Builtin.«NoneType.__eq__» ⟨[.none, .ref x], []⟩) Q E s := by
  obtain ⟨hp, g, d, tk, os⟩ := s
  wp_walk
  exact q
theorem dec_int {i : Int} {u : Tok} (ho : s.heap.get? x = some o) (hd : o.data = .plain) (q : Q (.done (.ret .notImplemented)) s) : wpAny (model prog w) A (Builtin.«int.__eq__» ⟨[.int i u, .ref x], []⟩) Q E s := by
  obtain ⟨hp, g, d, tk, os⟩ := s
  obtain ⟨c, dd, dt, sl⟩ := o
  simp only at hd
  subst hd
  wp_walk using wpAny_loadPart' ho, wpAny_load ho
  exact q
theorem dec_bool {i : Bool} (ho : s.heap.get? x = some o) (hd : o.data = .plain) (q : Q (.done (.ret .notImplemented)) s) : wpAny (model prog w) A (Builtin.«int.__eq__» ⟨[.bool i, .ref x], []⟩) Q E s := by
  obtain ⟨hp, g, d, tk, os⟩ := s
  obtain ⟨c, dd, dt, sl⟩ := o
  simp only at hd
  subst hd
  wp_walk using wpAny_loadPart' ho, wpAny_load ho
  exact q
theorem dec_str {i : Str} {u : Tok} (ho : s.heap.get? x = some o) (hd : o.data = .plain) (q : Q (.done (.ret .notImplemented)) s) : wpAny (model prog w) A (Builtin.«str.__eq__» ⟨[.str i u, .ref x], []⟩) Q E s := by
  obtain ⟨hp, g, d, tk, os⟩ := s
  obtain ⟨c, dd, dt, sl⟩ := o
  simp only at hd
  subst hd
  wp_walk using wpAny_loadPart' ho, wpAny_load ho
  exact q
theorem dec_list {l : Addr} (ho : s.heap.get? x = some o) (hc : o.cls = .ref C) (X : K.In s.heap) (hs : PySem.W.subIn K (.ref C) (.type "list") = some false) (q : Q (.done (.ret .notImplemented)) s) :
    wpAny (model prog w) A (Builtin.«list.__eq__» ⟨[.ref l, .ref x], []⟩) Q E s := by
  have sb : ∀ {A : Around} {Q : Bool → Shared → Prop} {E : Value → Shared → Prop}, Q false s → wpAny (model prog w) A (isSubtype (.ref C) (.type "list")) Q E s := fun q => (PySem.W.looks_subIn X hs).here q
  obtain ⟨hp, g, d, tk, os⟩ := s
  obtain ⟨c, dd, dt, sl⟩ := o
  simp only at hc
  subst hc
  wp_walk using wpAny_loadPart' ho, wpAny_load ho, sb
  exact q
theorem dec_tuple {l : Addr} (ho : s.heap.get? x = some o) (hc : o.cls = .ref C) (X : K.In s.heap) (hs : PySem.W.subIn K (.ref C) (.type "tuple") = some false) (q : Q (.done (.ret .notImplemented)) s) :
    wpAny (model prog w) A (Builtin.«tuple.__eq__» ⟨[.ref l, .ref x], []⟩) Q E s := by
  have sb : ∀ {A : Around} {Q : Bool → Shared → Prop} {E : Value → Shared → Prop}, Q false s → wpAny (model prog w) A (isSubtype (.ref C) (.type "tuple")) Q E s := fun q => (PySem.W.looks_subIn X hs).here q
  obtain ⟨hp, g, d, tk, os⟩ := s
  obtain ⟨c, dd, dt, sl⟩ := o
  simp only at hc
  subst hc
  wp_walk using wpAny_loadPart' ho, wpAny_load ho, sb
  exact q
theorem dec_dict {l : Addr} (ho : s.heap.get? x = some o) (hc : o.cls = .ref C) (X : K.In s.heap) (hs : PySem.W.subIn K (.ref C) (.type "dict") = some false) (q : Q (.done (.ret .notImplemented)) s) :
    wpAny (model prog w) A (Builtin.«dict.__eq__» ⟨[.ref l, .ref x], []⟩) Q E s := by
  have sb : ∀ {A : Around} {Q : Bool → Shared → Prop} {E : Value → Shared → Prop}, Q false s → wpAny (model prog w) A (isSubtype (.ref C) (.type "dict")) Q E s := fun q => (PySem.W.looks_subIn X hs).here q
  obtain ⟨hp, g, d, tk, os⟩ := s
  obtain ⟨c, dd, dt, sl⟩ := o
  simp only at hc
  subst hc
  wp_walk using wpAny_loadPart' ho, wpAny_load ho, sb
  exact q
end
end Cm
set_option Elab.async false
set_option linter.all false
set_option maxRecDepth 100000
set_option maxHeartbeats 4000000
namespace Cm
open PySem PySem.Spec PyProof.Rows L2
section
variable {prog : Program} {w : World} {A : Around} {E : Value → Shared → Prop} {s : Shared} {K : PySem.W.Frag} {x C f : Addr} {ox : Obj} {od : Option Obj} {a b tb : Value} {T : String} {Q : Value → Shared → Prop}
/-- data == an instance: the data's own == declines, the instance's is asked -/
theorem rc_reflect (hu : A.units < cLine) (X : K.In s.heap) (I : PySem.W.InstAt s.heap x ox C od) (hT : s.TypeIs a T) (hone : oneThing? .Eq a (.ref x) = none)
    (hsub : PySem.W.subIn K (.ref C) (.type T) = some false) (hs : PySem.W.findIn K (.ref C) "__eq__" = some (some (.ref f))) (hf : PySem.W.isFn K (.ref f) = true)
    (hdec : wpAny (model prog w) A (tryCompare a "__eq__" (.ref x)) (fun r s' => r = none ∧ s' = s) E s)
    (h : wpAny (model prog w) A (call (.ref f) [.ref x, a]) (PySem.W.CmpBack Q) E s) : wpAny (model prog w) A (richCompare .Eq a (.ref x)) Q E s := by
  have two : wpAny (model prog w) A (tryCompare (.ref x) "__eq__" a) (fun r s' => ∃ v, r = some v ∧ Q v s') E s := by
    unfold tryCompare
    refine wpAny_bind (PySem.W.ifBound_K X I hs hf (wpAny_mono h (fun v s' hv => ?_) fun _ _ e => e))
    cases v <;> first | exact hv.elim | exact wpAny_pure ⟨_, rfl, hv⟩
  simp only [richCompare, cmpInfo_Eq, hone]
  refine wpAny_holding (wpAny_bind (wpAny_cRoomFor hu ?_))
  refine wpAny_bind (wpAny_typeOf hT (wpAny_bind (I.type.here ?_)))
  split
  · refine wpAny_bind ((PySem.W.looks_subIn X hsub).here ?_)
    simp only [Bool.false_eq_true, if_false, Bool.not_false, if_true]
    refine wpAny_bind (m := tryCompare a _ (.ref x)) (wpAny_mono hdec (fun r s1 z => ?_) fun _ _ e => e)
    obtain ⟨z1, z2⟩ := z
    subst z1
    subst z2
    refine wpAny_bind (m := tryCompare (.ref x) _ a) (wpAny_mono two (fun r s2 z => ?_) fun _ _ e => e)
    obtain ⟨v, rfl, hq⟩ := z
    exact wpAny_pure hq
  · rename_i q
    exact absurd (by simp) q
theorem ifBound_objNe {args : List Value} {M : Model} {Q : Option Value → Shared → Prop} (X : K.In s.heap) (I : PySem.W.InstAt s.heap x ox C od) (hs : PySem.W.findIn K (.ref C) "__ne__" = some (some (.builtin "object.__ne__")))
    (h : wpAny M A (call (.builtin "object.__ne__") (.ref x :: args)) (fun v => Q (some v)) E s) : wpAny M A (callSpecialIfBound? (.ref x) "__ne__" args) Q E s := by
  simp only [callSpecialIfBound?, bindSpecialIfBound?]
  refine wpAny_holding (wpAny_bind (wpAny_bind (wpAny_bind (I.type.here ((PySem.W.looks_findIn X hs).here ?_)))))
  refine wpAny_bind (wpAny_askSetting (wpAny_ite ?_))
  have last : wpAny M A (call (.builtin "object.__ne__") ([.ref x] ++ args) >>= fun v => pure (some v)) Q E s :=
    wpAny_bind (wpAny_mono h (fun v s' h' => wpAny_pure h') fun _ _ h' => h')
  split
  · exact wpAny_bind (wpAny_of_eq (F.cmp_object.ne.bind _) (wpAny_pure (by exact last)))
  · exact wpAny_tryCatch (wpAny_bind (wpAny_of_eq (F.cmp_object.ne.bind _) (wpAny_pure (by exact last))))
theorem entry_ne (hu : A.units < cLine) (X : K.In s.heap) (I : PySem.W.InstAt s.heap x ox C od) (hs : PySem.W.findIn K (.ref C) "__eq__" = some (some (.ref f))) (hf : PySem.W.isFn K (.ref f) = true) {Q : Fin → Shared → Prop}
    (h : wpAny (model prog w) A (call (.ref f) [.ref x, b]) (fun v s' => ∃ c, v = .bool c ∧ Q (.done (.ret (.bool (!c)))) s') E s) :
    wpAny (model prog w) A (Builtin.«object.__ne__» ⟨[.ref x, b], []⟩) Q E s := by
  unfold Builtin.«object.__ne__»
  repeat (first
    | with_reducible refine wpAny_cRoomFor hu ?_
    | (refine wpAny_bind (m := callSpecialIfBound? (.ref x) (Str.ofString "__eq__") [b])
        (PySem.W.ifBound_K X I hs hf (wpAny_mono h (fun r s' hr => by
          obtain ⟨c, rfl, hq⟩ := hr
          repeat (first | exact hq | exact wpAny_pure hq | exact wpAny_truthy_bool hq | (refine wpAny_bind (m := truthy (.bool _)) (wpAny_truthy_bool ?_)) | wp_step)) fun _ _ e => e)))
    | wp_step)
theorem rc_ne (hu : A.units + 1 < cLine) (X : K.In s.heap) (I : PySem.W.InstAt s.heap x ox C od) (hb : PySem.W.Looks (model prog w) s.heap (typeOf b) tb) (hn : PySem.W.notFirst K C tb = true)
    (hm : PySem.W.mroIn K C (.type "object") = some true) (hne : PySem.W.findIn K (.ref C) "__ne__" = some (some (.builtin "object.__ne__")))
    (hs : PySem.W.findIn K (.ref C) "__eq__" = some (some (.ref f))) (hf : PySem.W.isFn K (.ref f) = true)
    (h : wpAny (model prog w) A.in1 (call (.ref f) [.ref x, b]) (fun v s' => ∃ c, v = .bool c ∧ Q (.bool (!c)) s') E s) : wpAny (model prog w) A (richCompare .NotEq (.ref x) b) Q E s := by
  have called : wpAny (model prog w) A (call (.builtin "object.__ne__") [.ref x, b]) (fun v s' => ∃ c, v = .bool c ∧ Q (.bool c) s') E s := by
    refine wpAny_call (codeAny_call_builtin F.cmp_object.ne.plain F.cmpEntry_ne (PySem.W.check_slot F.cmpKind_ne F.cmpSplit_ne (I.type.andThen (PySem.W.looks_mroIn X hm)) (F.cmpArgs_ne _ _) ?_))
    refine entry_ne (A := A.in1) hu X I hs hf (wpAny_mono h (fun v s' hv => ?_) fun _ _ e => e)
    obtain ⟨c, rfl, hq⟩ := hv
    exact ⟨c, rfl, _, rfl, hq⟩
  have one : wpAny (model prog w) A (tryCompare (.ref x) "__ne__" b) (fun r s' => ∃ c, r = some (.bool c) ∧ Q (.bool c) s') E s := by
    unfold tryCompare
    refine wpAny_bind (ifBound_objNe X I hne (wpAny_mono called (fun v s' hv => ?_) fun _ _ e => e))
    obtain ⟨c, rfl, hq⟩ := hv
    exact wpAny_pure ⟨c, rfl, hq⟩
  unfold richCompare
  simp only [oneThing_ref]
  refine wpAny_holding (wpAny_bind (wpAny_cRoomFor (Nat.lt_of_succ_lt hu) ?_))
  rw [cmpInfo_NotEq]
  dsimp only
  refine wpAny_bind (I.type.here (wpAny_bind (hb.here ?_)))
  split
  · rename_i q
    have e : PySem.W.subIn K tb (.ref C) = some false := by
      rcases Bool.or_eq_true_iff.mp hn with e | e
      · rw [beq_iff_eq.mp e] at q; simp at q
      · exact beq_iff_eq.mp e
    refine wpAny_bind ((PySem.W.looks_subIn X e).here ?_)
    simp only [Bool.false_eq_true, if_false]
    refine wpAny_bind (wpAny_mono one (fun r s' z => ?_) fun _ _ e => e)
    obtain ⟨v, rfl, hq⟩ := z
    exact wpAny_pure hq
  · refine wpAny_bind (wpAny_pure ?_)
    simp only [Bool.false_eq_true, if_false]
    refine wpAny_bind (wpAny_mono one (fun r s' z => ?_) fun _ _ e => e)
    obtain ⟨v, rfl, hq⟩ := z
    exact wpAny_pure hq
end
end Cm
set_option Elab.async false
set_option linter.all false
set_option maxRecDepth 100000
set_option maxHeartbeats 4000000
namespace Cm
open PySem PySem.Spec PyProof.Rows L2
/-- the seven kinds of data -/
def kinds : List String := ["NoneType", "bool", "int", "str", "list", "tuple", "dict"]
theorem kind_in (d : PyData) : kindD d ∈ kinds := by
  cases d <;> simp [kindD, kinds]
/-- an own class with an __eq__ of its own at gE -/
structure Own (K : PySem.W.Frag) (C gE : Addr) : Prop where
  eq : PySem.W.findIn K (.ref C) "__eq__" = some (some (.ref gE))
  fn : PySem.W.isFn K (.ref gE) = true
  ne : PySem.W.findIn K (.ref C) "__ne__" = some (some (.builtin "object.__ne__"))
  ob : PySem.W.mroIn K C (.type "object") = some true
  sub : ∀ T ∈ kinds, PySem.W.subIn K (.ref C) (.type T) = some false
theorem sub_kind {K : PySem.W.Frag} {C : Addr} (T : String) (h : T ∈ kinds) : PySem.W.subIn K (.type T) (.ref C) = some false := by
  have e : ∀ T ∈ kinds, ∃ l, fastBuiltinMro T = some l ∧ ∀ a : Addr, l.contains (.ref a) = false := by
    intro T h
    simp only [kinds, List.mem_cons, List.not_mem_nil, or_false] at h
    rcases h with h | h | h | h | h | h | h <;> subst h
    · exact ⟨[.type "NoneType", .type "object"], by decide +kernel, fun a => by simp⟩
    · exact ⟨[.type "bool", .type "int", .type "object"], by decide +kernel, fun a => by simp⟩
    · exact ⟨[.type "int", .type "object"], by decide +kernel, fun a => by simp⟩
    · exact ⟨[.type "str", .type "object"], by decide +kernel, fun a => by simp⟩
    · exact ⟨[.type "list", .type "object"], by decide +kernel, fun a => by simp⟩
    · exact ⟨[.type "tuple", .type "object"], by decide +kernel, fun a => by simp⟩
    · exact ⟨[.type "dict", .type "object"], by decide +kernel, fun a => by simp⟩
  obtain ⟨l, e1, e2⟩ := e T h
  show (fastBuiltinMro T).map (·.contains (.ref C)) = some false
  rw [e1]
  show some (l.contains (.ref C)) = some false
  rw [e2]
section
variable {X : Cx} {CX : CXT} {pins : List (Addr × Obj)} {σ : L2.St} {H : Hp} {s : Shared} {p C gE : Addr} {k : Nat} {f : Addr} {fd : FuncData} {ps : List Str} {sp : Sp} {E : XK}
theorem Dt.typeIs (I : Inv X pins σ H s) {v : V} {u : Value} {d : PyData} (h : Dt H p v d) (r : RelV v u) : s.TypeIs u (kindD d) := by
  cases h with
  | non => cases r; rfl
  | bl b => cases r; rfl
  | int i => obtain ⟨t, rfl⟩ := r; exact typeIs_int s i t
  | str x => obtain ⟨t, rfl⟩ := r; exact typeIs_str s x t
  | lst n e a =>
    cases r
    obtain ⟨its, rv, ⟨o, k, ho, hc, _, hdat⟩, _⟩ := I.list (SqL.of e)
    exact ⟨o, ho, hc⟩
  | tup n e a =>
    cases r
    obtain ⟨its, rv, ⟨o, ho, hc, k, hdat⟩, _⟩ := I.tuple (SqT.of e)
    exact ⟨o, ho, hc⟩
  | dct n e a =>
    cases r
    obtain ⟨_, no1, vs, rel, o, es, ep, ho, hx, hdat, _, hp, _⟩ := dk_of I.hok e
    exact ⟨o, ho, hx.1⟩
theorem looks_ty {M : Model} {u : Value} {T : String} (h : s.TypeIs u T) : PySem.W.Looks M s.heap (typeOf u) (.type T) := by
  intro A Q E s' kp q
  refine wpAny_typeOf (T := T) ?_ q
  match u, h with
  | .ref a, ⟨o, ho, hc⟩ => exact ⟨o, kp _ _ ho, hc⟩
  | .none, h => exact h
  | .ellipsis, h => exact h
  | .notImplemented, h => exact h
  | .bool _, h => exact h
  | .int _ _, h => exact h
  | .float _ _, h => exact h
  | .str _ _, h => exact h
  | .bytes _ _, h => exact h
  | .type _, h => exact h
  | .builtin _, h => exact h
/-- a def is called below the running body -/
theorem fn_at {A : Around} {Q : VK} {us : List Value} {vs : List V} (F : FnOk X.prog X.w X.K X.mg X.base CX k f fd ps sp) (hr : Room k A) (e0 : Env0 X.prog X.w X.K X.mg X.base A X.stack s H)
    (hb : Binds X.K fd ps []) (hx : Passes CX X E) (I : Inv X pins σ H s) (r : Vals vs us) (h : sp vs H Q E) :
    wpAny (model X.prog X.w) A (call (.ref f) us) (EP X pins σ Q) X.xe s := by
  have hl : us.length = ps.length := by rw [← r.length]; exact F.len _ _ _ _ h
  have bnd := hb s us I.kIn (by simpa using hl)
  have body := F.run A X.stack s H ⟨us, []⟩ us vs Q E hr e0 (by simpa using bnd) r h
  refine wpAny_call (codeAny_mono body ?_)
  intro r s' hq
  match r, hq with
  | .error e, hq => exact hx pins σ H s e s' I hq
  | .ok (.ret u), hq => exact I.after hq
def Oth (H : Hp) (C : Addr) (y : V) : Prop := (∃ b dy gs, y = .ref b ∧ H b = some (.ins C dy gs)) ∨ ∃ p d, Dt H p y d
def rOwnEq (C : Addr) (sp : Sp) (E : XK) : R2 := fun x y H Q =>
  (∃ a dx fs, x = .ref a ∧ H a = some (.ins C dx fs) ∧ Oth H C y ∧ sp [x, y] H (fun z H' => ∃ c, z = .bl c ∧ Q z H') E) ∨
  (∃ a dx fs p d, y = .ref a ∧ H a = some (.ins C dx fs) ∧ Dt H p x d ∧ sp [y, x] H (fun z H' => ∃ c, z = .bl c ∧ Q z H') E)
def rOwnNe (C : Addr) (sp : Sp) (E : XK) : R2 := fun x y H Q =>
  ∃ a dx fs, x = .ref a ∧ H a = some (.ins C dx fs) ∧ Oth H C y ∧ sp [x, y] H (fun z H' => ∃ c, z = .bl c ∧ Q (.bl (!c)) H') E
theorem oth_looks {y : V} {u : Value} (I : Inv X pins σ H s) (O : Oth H C y) (r : RelV y u) : ∃ tb, PySem.W.Looks (model X.prog X.w) s.heap (typeOf u) tb ∧ PySem.W.notFirst X.K C tb = true := by
  rcases O with ⟨b, dy, gs, rfl, hb⟩ | ⟨p, d, hd⟩
  · cases r
    obtain ⟨mB, J, _⟩ := ins_get I.hok hb
    obtain ⟨od, J, _⟩ := J.look
    exact ⟨.ref C, J.type, by simp [PySem.W.notFirst]⟩
  · refine ⟨_, looks_ty (hd.typeIs I r), ?_⟩
    unfold PySem.W.notFirst
    rw [sub_kind _ (kind_in d)]
    simp
theorem op_ownEq (Fn : FnOk X.prog X.w X.K X.mg X.base CX k gE fd ps sp) (hr : Room k X.A) (O : Own X.K C gE) (hb : Binds X.K fd ps []) (hx : Passes CX X E) : OpR X (compareOp .Eq) (rOwnEq C sp E) := by
  intro pins s σ H x y v u Q I rx ry hq
  show wpAny (model X.prog X.w) X.A (richCompare .Eq v u) (EP X pins σ Q) X.xe s
  obtain ⟨m, hF⟩ := I.fr
  rcases hq with ⟨a, dx, fs, rfl, ha, hy, q⟩ | ⟨a, dx, fs, p, d, rfl, ha, hd, q⟩
  · cases rx
    obtain ⟨mA, J, _⟩ := ins_get I.hok ha
    obtain ⟨od, J, _⟩ := J.look
    obtain ⟨tb, lk, nf⟩ := oth_looks I hy ry
    refine PySem.W.cmp_K (op := .Eq) hr.units0 hF I.ok.mod.kin J lk nf O.eq O.fn ?_
    refine wpAny_mono (fn_at (us := [.ref a, u]) (vs := [.ref a, y]) Fn hr I.env0 hb hx I (.cons rfl (.cons ry .nil)) q) (fun w s' z => ?_) fun _ _ x => x
    obtain ⟨z', H', I', rz, c, rfl, qz⟩ := z
    cases rz
    exact ⟨.bl c, H', I', rfl, qz⟩
  · cases ry
    obtain ⟨mA, JO, _⟩ := ins_get I.hok ha
    have hob := JO.obj
    obtain ⟨od, J, _⟩ := JO.look
    have hT := hd.typeIs I rx
    have hsub := O.sub _ (kind_in d)
    have back : wpAny (model X.prog X.w) X.A (call (.ref gE) [.ref a, v]) (PySem.W.CmpBack (EP X pins σ Q)) X.xe s := by
      refine wpAny_mono (fn_at (us := [.ref a, v]) (vs := [.ref a, x]) Fn hr I.env0 hb hx I (.cons rfl (.cons rx .nil)) q) (fun w s' z => ?_) fun _ _ x => x
      obtain ⟨z', H', I', rz, c, rfl, qz⟩ := z
      cases rz
      exact ⟨.bl c, H', I', rfl, qz⟩
    refine rc_reflect hr.units0 I.kIn J hT ?_ hsub O.eq O.fn ?_ back
    · cases hd with
      | non => cases rx; rfl
      | bl b => cases rx; rfl
      | int i => obtain ⟨t, rfl⟩ := rx; rfl
      | str z => obtain ⟨t, rfl⟩ := rx; rfl
      | lst n e a => cases rx; rfl
      | tup n e a => cases rx; rfl
      | dct n e a => cases rx; rfl
    · cases hd with
      | non =>
        cases rx
        exact wpAny_tryCompare_declines hT F.slot_NoneType_eq (GQ.call_here F.slot_NoneType_eq hT F.entry_NoneType_eq (F.args_NoneType_eq_2 _ _) (dec_non ⟨rfl, rfl, rfl⟩))
      | bl b =>
        cases rx
        exact wpAny_tryCompare_declines hT F.slot_bool_eq (GQ.call_here F.slot_bool_eq hT F.entry_int_eq (F.args_int_eq_2 _ _) (dec_bool hob rfl ⟨rfl, rfl, rfl⟩))
      | int i =>
        obtain ⟨t, rfl⟩ := rx
        exact wpAny_tryCompare_declines hT F.slot_int_eq (GQ.call_here F.slot_int_eq hT F.entry_int_eq (F.args_int_eq_2 _ _) (dec_int hob rfl ⟨rfl, rfl, rfl⟩))
      | str z =>
        obtain ⟨t, rfl⟩ := rx
        exact wpAny_tryCompare_declines hT F.slot_str_eq (GQ.call_here F.slot_str_eq hT F.entry_str_eq (F.args_str_eq_2 _ _) (dec_str hob rfl ⟨rfl, rfl, rfl⟩))
      | lst n e a =>
        cases rx
        exact wpAny_tryCompare_declines hT F.slot_list_eq (GQ.call_here F.slot_list_eq hT F.entry_list_eq (F.args_list_eq_2 _ _) (dec_list hob rfl I.kIn hsub ⟨rfl, rfl, rfl⟩))
      | tup n e a =>
        cases rx
        exact wpAny_tryCompare_declines hT F.slot_tuple_eq (GQ.call_here F.slot_tuple_eq hT F.entry_tuple_eq (F.args_tuple_eq_2 _ _) (dec_tuple hob rfl I.kIn hsub ⟨rfl, rfl, rfl⟩))
      | dct n e a =>
        cases rx
        exact wpAny_tryCompare_declines hT F.slot_dict_eq (GQ.call_here F.slot_dict_eq hT F.entry_dict_eq (F.args_dict_eq_2 _ _) (dec_dict hob rfl I.kIn hsub ⟨rfl, rfl, rfl⟩))
theorem op_ownNe (F : FnOk X.prog X.w X.K X.mg X.base CX k gE fd ps sp) (hr : Room (k + 1) X.A) (O : Own X.K C gE) (hb : Binds X.K fd ps []) (hx : Passes CX X E) : OpR X (compareOp .NotEq) (rOwnNe C sp E) := by
  intro pins s σ H x y v u Q I rx ry hq
  show wpAny (model X.prog X.w) X.A (richCompare .NotEq v u) (EP X pins σ Q) X.xe s
  obtain ⟨a, dx, fs, rfl, ha, hy, q⟩ := hq
  cases rx
  obtain ⟨mA, J, _⟩ := ins_get I.hok ha
  obtain ⟨od, J, _⟩ := J.look
  obtain ⟨tb, lk, nf⟩ := oth_looks I hy ry
  refine rc_ne (Nat.lt_of_le_of_lt (Nat.le_refl _) hr.in1.units0) I.kIn J lk nf O.ob O.ne O.eq O.fn ?_
  refine wpAny_mono (fn_at (A := X.A.in1) (us := [.ref a, u]) (vs := [.ref a, y]) F hr.in1 I.env0.in1 hb hx I (.cons rfl (.cons ry .nil)) q) (fun w s' z => ?_) fun _ _ x => x
  obtain ⟨z', H', I', rz, c, rfl, qz⟩ := z
  cases rz
  exact ⟨c, rfl, .bl (!c), H', I', rfl, qz⟩
end
end Cm
set_option Elab.async false
set_option linter.all false
set_option maxRecDepth 100000
set_option maxHeartbeats 4000000
namespace Cm
open PySem PySem.Spec PyProof.Rows L2
section
variable {prog : Program} {w : World} {A : Around} {E : Value → Shared → Prop} {s : Shared} {K : PySem.W.Frag} {x C f : Addr} {ox : Obj} {od : Option Obj}
/-- an own repr, asked from within a builtin's repr -/
theorem under_own {base : Nat} {Q : Str → Shared → Prop} (hz : base ≤ sizeLine) (hu : A.units < cLine) (X : K.In s.heap) (I : PySem.W.InstAt s.heap x ox C od)
    (hs : PySem.W.findIn K (.ref C) "__repr__" = some (some (.ref f))) (hf : PySem.W.isFn K (.ref f) = true)
    (h : wpAny (model prog w) A (call (.ref f) [.ref x]) (fun v s' => ∃ y t, v = .str y t ∧ Q y s') E s) : wpAny (model prog w) A (pyReprUnder base (.ref x)) Q E s := by
  have asked : wpAny (model prog w) A (callSpecialIfBoundBy? (fun g first => match reprUnder? g, first with
      | some twin, [self] => call twin [self, rawInt base]
      | _, _ => call g (first ++ [])) (.ref x) "__repr__") (fun r s' => ∃ y t, r = some (.str y t) ∧ Q y s') E s := by
    unfold callSpecialIfBoundBy?
    simp only [bindSpecialIfBound?]
    refine wpAny_holding (wpAny_bind (wpAny_bind (wpAny_bind (I.type.here ((PySem.W.looks_findIn X hs).here ?_)))))
    refine wpAny_bind (wpAny_askSetting (wpAny_ite ?_))
    have last : wpAny (model prog w) A (call (.ref f) ([.ref x] ++ []) >>= fun v => pure (some v)) (fun r s' => ∃ y t, r = some (.str y t) ∧ Q y s') E s :=
      wpAny_bind (wpAny_mono h (fun v s' ⟨y, t, e, q⟩ => wpAny_pure ⟨y, t, congrArg some e, q⟩) fun _ _ h' => h')
    split
    · exact wpAny_bind ((PySem.W.bind_fn X _ (beq_iff_eq.mp hf)).here (wpAny_pure (by exact last)))
    · exact wpAny_tryCatch (wpAny_bind ((PySem.W.bind_fn X _ (beq_iff_eq.mp hf)).here (wpAny_pure (by exact last))))
  unfold pyReprUnder pyReprObjUnder pyReprObjBy
  simp only []
  split
  · rename_i c
    exact absurd hz (by omega)
  · refine wpAny_bind ?_
    refine wpAny_bind (wpAny_cRoomFor hu ?_)
    refine wpAny_bind (wpAny_bind (I.type.here ((PySem.W.looks_findIn X hs).here ?_)))
    rw [if_neg (by simp)]
    refine wpAny_bind (wpAny_mono asked (fun r s' z => ?_) fun _ _ e => e)
    obtain ⟨y, t, rfl, q⟩ := z
    refine wpAny_bind (wpAny_isInstance (typeIs_str _ _ _) isSubtype_str_str ?_)
    rw [if_pos rfl]
    exact wpAny_pure (wpAny_pure q)
/-- what is shown while J stands -/
def ReprJ (prog : Program) (w : World) (A : Around) (E : Value → Shared → Prop) (J : Shared → Prop) (x : Value) (t : Str) : Prop :=
  ∀ (b : Nat), b + t.length ≤ sizeLine → ∀ (s : Shared) (Q : Str → Shared → Prop), J s → (∀ s', J s' → Q t s') → wpAny (model prog w) A (pyReprUnder b x) Q E s
theorem fold_J {J : Shared → Prop} {Q : (Array Str × Nat) → Shared → Prop} {vs : List Value} {ts : List Str} (hT : Paired (fun x t => ReprJ prog w A E J x t) vs ts) :
    ∀ (acc : Array Str) (n : Nat) (s : Shared), n + piled ts ≤ sizeLine → J s → (∀ s', J s' → Q ⟨acc ++ ts.toArray, n + piled ts⟩ s') →
    wpAny (model prog w) A (forIn vs (⟨acc, n⟩ : (Array Str × Nat)) tupBody) Q E s := by
  induction hT with
  | nil =>
    intro acc n s _ hJ h
    rw [List.forIn_nil]
    have last := h s hJ
    exact wpAny_pure (by simpa [piled] using last)
  | cons hx _ ih =>
    rename_i x t vs ts _hr
    intro acc n s hn hJ h
    rw [piled_cons] at hn
    rw [List.forIn_cons]
    refine wpAny_bind (wpAny_bind (hx (n + 1) (by omega) s _ hJ fun s1 J1 => wpAny_pure ?_))
    refine ih (acc.push t) (n + (t.length + 2)) s1 (by omega) J1 fun s2 J2 => ?_
    have last := h s2 J2
    rw [show n + piled (t :: ts) = n + (t.length + 2) + piled ts by rw [piled_cons]; omega] at last
    simpa using last
theorem tuple_J {a : Addr} {o : Obj} {items : Array Value} {n : Nat} {ts : List Str} {J : Shared → Prop} {Q : Value → Shared → Prop}
    (ha : s.heap.get? a = some o) (hc : o.cls = .type "tuple") (hd : o.data = .seq items n) (hg : A.guards = some [])
    (hT : Paired (fun x t => ReprJ prog w (A.under (.builtin "tuple.__repr__" ⟨[.ref a], []⟩)) E J x t) items.toList ts) (hJ : J s)
    (hz : (tupleText ts).length ≤ sizeLine) (hQ : ∀ s' u, J s' → Q (.str (tupleText ts) u) { s' with toks := s'.toks + 1 }) :
    wpAny (model prog w) A (call (.builtin "tuple.__repr__") [.ref a]) Q E s := by
  have hl : ts.length = items.size := by
    have := Paired.length hT
    simpa using this.symm
  have hp := piled_le_tupleText ts
  refine wpAny_call (codeAny_call_builtin_own (Code.quiet_builtin _ (by decide +kernel)) F.entry_tuple_repr (F.slot_tuple_repr.check _ _ _ _ _ _ _ _ ⟨o, ha, hc⟩ (F.args_tuple_repr_1 _) ?_))
  show wpOwn _ _ _ (Builtin.tupleReprAt 0 ⟨[.ref a], []⟩) _ _ s
  rw [tuple_repr_tree, tupleReprUnderWay_eq]
  refine wpOwn_bind (wpOwn_stackTailAny hg (tupGuardF_off _) (tupGuardF_pos _) ?_)
  rw [List.any_nil]
  refine wpOwn_of_wpAny ?_
  show wpAny _ _ (tupleReprRest 0 (.ref a)) _ _ s
  unfold tupleReprRest Builtin.Tuple.tupleItemsOf
  refine wpAny_bind (wpAny_bind (wpAny_seqItems ha hd (wpAny_pure ?_)))
  rw [← Array.forIn_toList]
  refine wpAny_bind (fold_J hT #[] 0 s (by omega) hJ fun s' J' => ?_)
  refine wpAny_bind (wpAny_mkStr (wpAny_pure ?_) (by simpa [tupleText, hl] using hz))
  have last := hQ s' s'.toks J'
  simpa [tupleText, hl] using last
end
section
variable {X : Cx} {CX : CXT} {pins : List (Addr × Obj)} {σ : L2.St} {H : Hp} {s : Shared} {C gR : Addr} {k : Nat} {fd : FuncData} {ps : List Str} {sp : Sp} {E : XK}
/-- repr(x) by the class's own def -/
def rReprO (C : Addr) (sp : Sp) (E : XK) : List V → Hp → VK → Prop := fun xs H Q => ∃ a dx fs, xs = [.ref a] ∧ H a = some (.ins C dx fs) ∧ sp [.ref a] H (fun z H' => ∃ y : Str, z = .str y ∧ Q z H') E
theorem call_reprO (Fn : FnOk X.prog X.w X.K X.mg X.base CX k gR fd ps sp) (hr : Room (k + 1) X.A) (hs : PySem.W.findIn X.K (.ref C) "__repr__" = some (some (.ref gR))) (hf : PySem.W.isFn X.K (.ref gR) = true)
    (hb : Binds X.K fd ps []) (hx : Passes CX X E) : CallR X (.builtin "repr") (rReprO C sp E) := by
  intro pins s σ H xs us Q I r h
  obtain ⟨a, dx, fs, rfl, ha, q⟩ := h
  obtain ⟨u, rfl, ru⟩ := r.one
  cases ru
  obtain ⟨mA, J, _⟩ := ins_get I.hok ha
  obtain ⟨od, J, _⟩ := J.look
  obtain ⟨m, hF⟩ := I.fr
  refine PySem.W.repr_K hr.in1.units0 hF I.ok.mod.kin J hs hf ?_
  refine wpAny_mono (fn_at (A := X.A.in1) (us := [.ref a]) (vs := [.ref a]) Fn hr.in1 I.env0.in1 hb hx I (.cons rfl .nil) q) (fun w s' z => ?_) fun _ _ x => x
  obtain ⟨z', H', I', rz, y, rfl, qz⟩ := z
  obtain ⟨t, rfl⟩ := rz
  exact ⟨.str y, H', I', ⟨t, rfl⟩, qz⟩
/-- repr of a tuple of instances, each shown by the class's own def, which leaves the heap -/
def rReprT (K : PySem.W.Frag) (C : Addr) (sp : Sp) (E : XK) : List V → Hp → VK → Prop := fun xs H Q => ∃ (t : Addr) (vs : List V) (ts : List Str), xs = [.ref t] ∧ H t = some (.tup vs) ∧
  Paired (fun v y => ∃ a dx fs, v = V.ref a ∧ H a = some (.ins C dx fs) ∧ sp [.ref a] H (fun z H' => z = .str y ∧ H' = H) E) vs ts ∧ (tupleText ts).length ≤ sizeLine ∧ Q (.str (tupleText ts)) H
theorem room_tup {A : Around} {args : Args} (r : Room (k + 1) A) : Room k (A.under (.builtin "tuple.__repr__" args)) := by
  refine ⟨?_, ?_, ?_⟩
  · exact r.hd
  · have h := r.dp
    have e : (A.under (.builtin "tuple.__repr__" args)).depth ≤ A.depth + 2 := by
      simp [Around.under, Code.weight, Code.isCreation, Code.isGuard, Code.isCaller, Code.frames, Code.isFrame, guardIds]
    omega
  · rw [units_under_tuple_repr]
    have h := r.un
    omega
theorem env_tup {A : Around} {args : Args} {outer : List Env} (e : Env0 X.prog X.w X.K X.mg X.base A outer s H) : Env0 X.prog X.w X.K X.mg X.base (A.under (.builtin "tuple.__repr__" args)) outer s H :=
  ⟨by first | exact e.frames | (simpa [Around.under, Code.envs, Code.isFrame, pushEnvs] using e.frames), e.mod, e.bs, e.bsz, e.funs, e.frf, e.hok, e.bare⟩
theorem call_reprT (Fn : FnOk X.prog X.w X.K X.mg X.base CX k gR fd ps sp) (hr : Room (k + 2) X.A) (hg : X.A.guards = some []) (hs : PySem.W.findIn X.K (.ref C) "__repr__" = some (some (.ref gR))) (hf : PySem.W.isFn X.K (.ref gR) = true)
    (hb : Binds X.K fd ps []) (hx : Passes CX X E) : CallR X (.builtin "repr") (rReprT X.K C sp E) := by
  intro pins s σ H xs us Q I r h
  obtain ⟨t, vs, ts, rfl, ht, hp, hz, q⟩ := h
  obtain ⟨u, rfl, ru⟩ := r.one
  cases ru
  obtain ⟨its, rv, ⟨o, ho, hc, n, hd⟩, _⟩ := I.tuple (SqT.of ht)
  refine call_repr_slot (show X.A.units + 1 < cLine from hr.in1.units0) ⟨o, ho, hc⟩ F.slot_tuple_repr ?_
  refine tuple_J (A := X.A.in1) (J := fun s' => Inv X pins σ H s') ho hc hd hg ?_ I hz fun s' u J' => ⟨_, _, rfl, .str (tupleText ts), H, J'.tok _, ⟨_, rfl⟩, q⟩
  have each : ∀ {vs : List V} {us : List Value} {ts : List Str}, Vals vs us → Paired (fun v y => ∃ a dx fs, v = V.ref a ∧ H a = some (.ins C dx fs) ∧ sp [.ref a] H (fun z H' => z = .str y ∧ H' = H) E) vs ts →
      Paired (fun x t' => ReprJ X.prog X.w (X.A.in1.under (.builtin "tuple.__repr__" ⟨[.ref t], []⟩)) X.xe (fun s' => Inv X pins σ H s') x t') us ts := by
    intro vs us ts rv hp
    induction hp generalizing us with
    | nil => cases rv; exact .nil
    | cons h _ ih =>
      cases rv with
      | cons r1 r2 =>
        refine .cons ?_ (ih r2)
        obtain ⟨a, dx, fs, rfl, ha, q⟩ := h
        cases r1
        intro b hb2 s' Q' J' hQ
        obtain ⟨mA, JO, _⟩ := ins_get J'.hok ha
        obtain ⟨od, JO, _⟩ := JO.look
        have rm : Room k (X.A.in1.under (.builtin "tuple.__repr__" ⟨[.ref t], []⟩)) := room_tup hr.in1
        refine under_own (by omega) rm.units0 J'.kIn JO hs hf ?_
        refine wpAny_mono (fn_at (us := [.ref a]) (vs := [.ref a]) Fn rm (env_tup J'.env0.in1) hb hx J' (.cons rfl .nil) q) (fun w s2 z => ?_) fun _ _ x => x
        obtain ⟨z', H', I', rz, rfl, rfl⟩ := z
        obtain ⟨tk, rfl⟩ := rz
        exact ⟨_, tk, rfl, hQ s2 I'⟩
  simpa using each rv hp
end
end Cm
set_option Elab.async false
set_option linter.all false
set_option maxRecDepth 100000
set_option maxHeartbeats 4000000
/-! ## 8. Steps for instances -/
namespace Cm
open PySem PySem.Spec PyProof.Rows L2
theorem pe_gstr {X : Cx} {x : Str} {i : Str} {pos : Pos} (hg : Gl X x) (hm : ∃ t, X.mg x = some (.str i t)) (hd : (x == ("__debug__" : Str)) = false := by decide) :
    PE X (.Name x pos) (tC (.str i)) := by
  obtain ⟨t, e⟩ := hm
  exact pe_glob hg e ⟨t, rfl⟩ hd
theorem pe_gref {X : Cx} {x : Str} {a : Addr} {pos : Pos} (hg : Gl X x) (hm : X.mg x = some (.ref a)) (hd : (x == ("__debug__" : Str)) = false := by decide) :
    PE X (.Name x pos) (tC (.ref a)) := pe_glob hg hm rfl hd
/-- a tuple of the written part -/
def WrT (K : PySem.W.Frag) (a : Addr) (xs : List V) : Prop := ∃ (o : Obj) (its : Array Value) (n : Nat), K.lookup a = some o ∧ o.cls = .type "tuple" ∧ o.data = .seq its n ∧ its.size ≤ sizeLine ∧ Vals xs its.toList
theorem WrT.sq {K : PySem.W.Frag} {H : Hp} {a : Addr} {xs : List V} (h : WrT K a xs) : SqT K H a xs := .inr h
theorem kbn_mk0 {K : PySem.W.Frag} {fd : FuncData} {ps ks : List Str} {n : Nat} {g : List Value → List Value → List Value} {gV : List V → List V → List V}
    (hr : ∀ {vs : List V} {us : List Value} {zs : List V} {ws : List Value}, Vals vs us → Vals zs ws → Vals (gV vs zs) (g us ws))
    (h : ∀ us ws : List Value, us.length = n → ws.length = ks.length → bindArgs fd ⟨us, ks.zip ws⟩ = pure (ps.zip (g us ws))) : KBn K fd ps n ks g gV :=
  ⟨fun s us ws X l1 l2 => .of_eq (h us ws l1 l2), hr⟩
/-- what isinstance asks of the class at C -/
structure IsiC (K : PySem.W.Frag) (C : Addr) : Prop where
  cl : Cls K C
  ha : PySem.W.findIn K (.ref C) "__class__" = some (some (.builtin "object.__class__"))
  hn : PySem.W.specialIn K (.builtin "object.__class__") "__get__" = some (some (.builtin "getset_descriptor.__get__"))
  ht : PySem.W.takesIn K (.builtin "object.__class__") = some true
  ob : PySem.W.mroIn K C (.type "object") = some true
  ks : PySem.W.kitOne K (.ref C) (.ref C) = some true
  kn : ∀ T ∈ kinds, PySem.W.kitOne K (.type T) (.ref C) = some false
theorem kit_own {K : PySem.W.Frag} {C : Addr} : PySem.W.kitOne K (.ref C) (.ref C) = some true := by
  unfold PySem.W.kitOne
  rw [if_pos (by simp)]
theorem kit_kind {K : PySem.W.Frag} {C : Addr} (c : PySem.W.isClsIn K C = true) (t : PySem.W.typeIn K (.ref C) = some (.type "type")) (T : String) (h : T ∈ kinds) : PySem.W.kitOne K (.type T) (.ref C) = some false := by
  unfold PySem.W.kitOne PySem.W.kitCls
  rw [if_neg (by simp)]
  show (if ((PySem.W.clsIn K C).isSome && PySem.W.typeIn K (.ref C) == some (.type "type")) = true then PySem.W.subIn K (.type T) (.ref C) else none) = some false
  rw [t, sub_kind T h]
  rw [if_pos (by rw [show (PySem.W.clsIn K C).isSome = true from c]; simp)]
section
variable {X : Cx} {CX : CXT} {k n : Nat} {f C : Addr} {fd : FuncData} {ps ks : List Str} {sp : Sp} {E : XK} {x : Str} {p pos : Pos}
  {e : Expr} {es : List Expr} {kws : List Keyword} {t tk : TA} {I : Type} {gV : List V → List V → List V}
theorem pg_makeN0E {g : Value → List Value → List Value → List Value} (M : Mk X.K C f) (F : Fg X.prog X.w X.K X.mg X.base CX k f fd ps sp) (hr : Room (k + 1) X.A) (hgd : X.A.guards = some [])
    (hg : Gl X x) (hm : X.mg x = some (.ref C)) (hb : ∃ d, KBn X.K fd ps 1 ks (g d) gV) (hx : Passes CX X E) (hkw : PK X kws tk)
    (hall : (backToKw pos (keywordEach kws X.env)).all (·.1.isSome) = true := by rfl)
    (hks : (backToKw pos (keywordEach kws X.env)).filterMap (·.1) = ks := by rfl)
    (hdb : (x == ("__debug__" : Str)) = false := by decide)
    (hpl : ((backTo pos (starEach [] X.env)).any (·.1) || (backToKw pos (keywordEach kws X.env)).any (·.1.isNone)) = false := by rfl) :
    PE X (.Call (.Name x p) [] kws pos) (tMakeN C 0 ks.length sp gV E tNil tk) := by
  obtain ⟨d, hb⟩ := hb
  exact pg_makeN0 M F hr hgd hg hm hb hx hkw hall hks hdb hpl
end
section
variable {K : PySem.W.Frag} {H : Hp} {Q : VK} {σ : L2.St} {D : Ends} {C : Addr}
theorem r_isiO {a dx : Addr} {fs : List (Str × V)} (c : IsiC K C) (h : H a = some (.ins C dx fs)) (q : Q (.bl true) H) : rIsi K [.ref a, .ref C] H Q :=
  ⟨_, _, _, _, _, rfl, .own C, .base (.ins h c.cl c.ha c.hn c.ht c.ob), c.ks, q⟩
theorem r_isiD {p : Addr} {x : V} {d : PyData} (c : IsiC K C) (h : Dt H p x d) (q : Q (.bl false) H) : rIsi K [x, .ref C] H Q :=
  ⟨_, _, _, _, _, rfl, .own C, h.kind, c.kn _ (kind_in d), q⟩
theorem r_fld {ta : TE} {f : Str} (q : ta σ H fun x H1 => ∃ a C dx fs v, x = .ref a ∧ H1 a = some (.ins C dx fs) ∧ Cls K C ∧ NoAttr K C f ∧ fs.lookup f = some v ∧ Q v H1) : tFld K ta f σ H Q := q
theorem r_fldAt {a dx : Addr} {fs : List (Str × V)} {f : Str} {v : V} {Q : V → Prop} (h : H a = some (.ins C dx fs)) (c : Cls K C) (n : NoAttr K C f) (l : fs.lookup f = some v) (q : Q v) :
    ∃ a' C' dx' fs' v', V.ref a = .ref a' ∧ H a' = some (.ins C' dx' fs') ∧ Cls K C' ∧ NoAttr K C' f ∧ fs'.lookup f = some v' ∧ Q v' := ⟨a, C, dx, fs, v, rfl, h, c, n, l, q⟩
theorem r_sfld {ta tv : TE} {f : Str} (q : tv σ H fun y H1 => ta σ H1 fun x H2 => ∃ a C dx fs, x = .ref a ∧ H2 a = some (.ins C dx fs) ∧ Cls K C ∧ NoAttr K C f ∧ fs.length < 1000 ∧
    D.nx σ (upd H2 a (.ins C dx (putF f y fs)))) : sFld K ta tv f D σ H := q
theorem r_sfldAt {a dx : Addr} {fs gs : List (Str × V)} {f : Str} {y : V} {Q : Hp → Prop} (h : H a = some (.ins C dx fs)) (c : Cls K C) (n : NoAttr K C f) (l : fs.length < 1000) (e : putF f y fs = gs) (q : Q (upd H a (.ins C dx gs))) :
    ∃ a' C' dx' fs', V.ref a = .ref a' ∧ H a' = some (.ins C' dx' fs') ∧ Cls K C' ∧ NoAttr K C' f ∧ fs'.length < 1000 ∧ Q (upd H a' (.ins C' dx' (putF f y fs'))) := ⟨a, C, dx, fs, rfl, h, c, n, l, e ▸ q⟩
theorem r_fmtI {te : TE} (q : te σ H fun x H1 => (∃ y : Str, x = .str y ∧ y.length ≤ sizeLine ∧ Q (.str y) H1) ∨ ∃ i : Int, x = .int i ∧ i.natAbs.log2 < 1920 ∧ Q (.str (toString i)) H1) : tFmt te σ H Q := q
theorem r_fmtInt {i : Int} {P1 : Str → Prop} {P2 : Int → Prop} (h : i.natAbs < 2 ^ 200) (q : P2 i) : (∃ y : Str, V.int i = .str y ∧ y.length ≤ sizeLine ∧ P1 y) ∨ ∃ j : Int, V.int i = .int j ∧ j.natAbs.log2 < 1920 ∧ P2 j := by
  refine .inr ⟨i, rfl, ?_, q⟩
  by_cases h0 : i.natAbs = 0
  · rw [h0]; decide
  · exact Nat.lt_of_lt_of_le ((Nat.log2_lt h0).mpr h) (by decide)
theorem r_fmtStr {z : Str} {P1 : Str → Prop} {P2 : Int → Prop} (h : z.length ≤ sizeLine) (q : P1 z) : (∃ y : Str, V.str z = .str y ∧ y.length ≤ sizeLine ∧ P1 y) ∨ ∃ j : Int, V.str z = .int j ∧ j.natAbs.log2 < 1920 ∧ P2 j :=
  .inl ⟨z, rfl, h, q⟩
theorem r_js0 {acc : Str} {Q : Str → Hp → Prop} (q : Q acc H) : tJs [] acc σ H Q := q
theorem r_js {t : TE} {ts : List TE} {acc : Str} {Q : Str → Hp → Prop} (q : t σ H fun x H1 => ∃ y : Str, x = .str y ∧ (acc ++ y).length ≤ sizeLine ∧ tJs ts (acc ++ y) σ H1 Q) : tJs (t :: ts) acc σ H Q := q
theorem r_jsStr {z : Str} {P : Str → Prop} {acc : Str} (h : (acc ++ z).length ≤ sizeLine) (q : P z) : ∃ y : Str, V.str z = .str y ∧ (acc ++ y).length ≤ sizeLine ∧ P y := ⟨z, rfl, h, q⟩
theorem r_strI {i : Int} {P : Int → Prop} (h : i.natAbs < 2 ^ 200) (q : P i) : ∃ j, [V.int i] = [V.int j] ∧ j.natAbs.log2 < 1920 ∧ P j := by
  refine ⟨i, rfl, ?_, q⟩
  by_cases h0 : i.natAbs = 0
  · rw [h0]; decide
  · exact Nat.lt_of_lt_of_le ((Nat.log2_lt h0).mpr h) (by decide)
theorem r_new {P : Addr → Addr → Prop} (q : ∀ x dx, H x = none → H dx = none → dx ≠ x → P x dx) : ∀ x dx, H x = none → H dx = none → dx ≠ x → P x dx := q
theorem Same.made {H H' : Hp} {x dx : Addr} {o u : HO} (k : Same H H') (h : H' x = none) (h' : H' dx = none) : Same H (upd (upd H' dx o) x u) := by
  intro b v e
  have e' := k _ _ e
  rw [upd_ne (ne_of_none e' h), upd_ne (ne_of_none e' h')]
  exact e'
end
end Cm
set_option Elab.async false
set_option linter.all false
set_option maxRecDepth 100000
set_option maxHeartbeats 4000000
/-! ## 9. Small tuples -/
namespace Cm
open PySem PySem.Spec PyProof.Rows L2
section
variable {K : PySem.W.Frag} {H : Hp} {Q : VK}
theorem r_plusTU {l b : Addr} {xs zs : List V} (h : H l = some (.tup xs)) (h' : H b = some (.tup zs)) (e : xs.length + zs.length ≤ 1000)
    (q : ∀ t H', Same H H' → H' t = some (.tup (xs ++ zs)) → Q (.ref t) H') : rPlus K (.ref l) (.ref b) H Q := by
  refine r_plusT h h' (Nat.le_trans e (by decide)) ?_ ?_ ?_
  · intro e0
    subst e0
    exact q b H (Same.refl H) h'
  · intro _ e0
    subst e0
    exact q l H (Same.refl H) (by rw [List.append_nil]; exact h)
  · intro _ _ p n
    exact q p _ (Same.new (Same.refl H) n) upd_same
theorem r_cutTU {a : Addr} {xs : List V} {lo hi : Option Int} (h : H a = some (.tup xs)) (q : ∀ t H', Same H H' → H' t = some (.tup (cutV xs lo hi)) → Q (.ref t) H') : rCut K (.ref a) lo hi H Q := by
  refine r_cutT h ?_ ?_
  · rintro ⟨e1, e2⟩
    refine q a H (Same.refl H) ?_
    unfold cutV
    rw [e1, e2, List.drop_zero, Nat.sub_zero, List.take_length]
    exact h
  · intro _ p n
    exact q p _ (Same.new (Same.refl H) n) upd_same
theorem r_cut3a {a : Addr} {x y z : V} {lo hi : Option Int} (h : H a = some (.tup [x, y, z])) (e1 : lo = none) (e2 : hi = some 0) (q : ∀ t H', Same H H' → H' t = some (.tup []) → Q (.ref t) H') : rCut K (.ref a) lo hi H Q := by
  subst e1 e2
  exact r_cutTU h fun t H' s g => q t H' s g
theorem r_cut3b {a : Addr} {x y z : V} {lo hi : Option Int} (h : H a = some (.tup [x, y, z])) (e1 : lo = none) (e2 : hi = some 1) (q : ∀ t H', Same H H' → H' t = some (.tup [x]) → Q (.ref t) H') : rCut K (.ref a) lo hi H Q := by
  subst e1 e2
  exact r_cutTU h fun t H' s g => q t H' s g
theorem r_cut3c {a : Addr} {x y z : V} {lo hi : Option Int} (h : H a = some (.tup [x, y, z])) (e1 : lo = none) (e2 : hi = some 2) (q : ∀ t H', Same H H' → H' t = some (.tup [x, y]) → Q (.ref t) H') : rCut K (.ref a) lo hi H Q := by
  subst e1 e2
  exact r_cutTU h fun t H' s g => q t H' s g
theorem r_cut3d {a : Addr} {x y z : V} {lo hi : Option Int} (h : H a = some (.tup [x, y, z])) (e1 : lo = some 1) (e2 : hi = none) (q : ∀ t H', Same H H' → H' t = some (.tup [y, z]) → Q (.ref t) H') : rCut K (.ref a) lo hi H Q := by
  subst e1 e2
  exact r_cutTU h fun t H' s g => q t H' s g
theorem r_cut3e {a : Addr} {x y z : V} {lo hi : Option Int} (h : H a = some (.tup [x, y, z])) (e1 : lo = some 2) (e2 : hi = none) (q : ∀ t H', Same H H' → H' t = some (.tup [z]) → Q (.ref t) H') : rCut K (.ref a) lo hi H Q := by
  subst e1 e2
  exact r_cutTU h fun t H' s g => q t H' s g
theorem r_cut3f {a : Addr} {x y z : V} {lo hi : Option Int} (h : H a = some (.tup [x, y, z])) (e1 : lo = some 3) (e2 : hi = none) (q : ∀ t H', Same H H' → H' t = some (.tup []) → Q (.ref t) H') : rCut K (.ref a) lo hi H Q := by
  subst e1 e2
  exact r_cutTU h fun t H' s g => q t H' s g
theorem shaped3 {a b : Int} {z : Str} (hz : PyData.strOk z = true) : SeqAt.shaped (.tuple [.int a, .int b, .str z]) = true := by
  unfold SeqAt.shaped
  simp only [PyData.canLay0, PyData.canLayAll0, PyData.depth, PyData.depthAll, hz]
  rfl
theorem r_sameT3 {t u : Addr} {a b a' b' : Int} {z z' : Str} (h : H t = some (.tup [.int a, .int b, .str z])) (h' : H u = some (.tup [.int a', .int b', .str z'])) (hz : PyData.strOk z = true) (hz' : PyData.strOk z' = true) (q : Q (.bl (decide (a = a' ∧ b = b' ∧ z = z'))) H) :
    rSame K (.ref t) (.ref u) H Q := by
  refine .inr ⟨.tuple [.int a, .int b, .str z], .tuple [.int a', .int b', .str z'], .tup (SqT.of h) (.cons (.int a) (.cons (.int b) (.cons (.str z) .nil))), .tup (SqT.of h') (.cons (.int a') (.cons (.int b') (.cons (.str z') .nil))), shaped3 hz, shaped3 hz', ?_⟩
  have e : PyData.eqv (.tuple [.int a, .int b, .str z]) (.tuple [.int a', .int b', .str z']) = decide (a = a' ∧ b = b' ∧ z = z') := by
    simp only [PyData.eqv, PyData.eqvAll]
    by_cases h1 : a = a' <;> by_cases h2 : b = b' <;> by_cases h3 : z = z' <;> simp [h1, h2, h3]
  rw [e]
  exact q
theorem r_unlikeT3 {t u : Addr} {a b a' b' : Int} {z z' : Str} (h : H t = some (.tup [.int a, .int b, .str z])) (h' : H u = some (.tup [.int a', .int b', .str z'])) (hz : PyData.strOk z = true) (hz' : PyData.strOk z' = true) (q : Q (.bl (!decide (a = a' ∧ b = b' ∧ z = z'))) H) :
    rUnlike K (.ref t) (.ref u) H Q := by
  refine .inr ⟨.tuple [.int a, .int b, .str z], .tuple [.int a', .int b', .str z'], .tup (SqT.of h) (.cons (.int a) (.cons (.int b) (.cons (.str z) .nil))), .tup (SqT.of h') (.cons (.int a') (.cons (.int b') (.cons (.str z') .nil))), shaped3 hz, shaped3 hz', ?_⟩
  have e : PyData.eqv (.tuple [.int a, .int b, .str z]) (.tuple [.int a', .int b', .str z']) = decide (a = a' ∧ b = b' ∧ z = z') := by
    simp only [PyData.eqv, PyData.eqvAll]
    by_cases h1 : a = a' <;> by_cases h2 : b = b' <;> by_cases h3 : z = z' <;> simp [h1, h2, h3]
  rw [e]
  exact q
end
theorem sql_same {K : PySem.W.Frag} {H H' : Hp} {a : Addr} {xs : List V} (s : Same H H') (h : SqL K H a xs) : SqL K H' a xs :=
  h.elim (fun h => .inl (h.elim (fun e => .inl (s _ _ e)) fun ⟨o, e⟩ => .inr ⟨o, s _ _ e⟩)) .inr
theorem Same.ofKeep {p : Addr} {H H1 H' : Hp} (s : Same H H1) (n : Fre H p) (k : Keep p H1 H') : Same H H' := fun b o h =>
  k b o (ne_of_none h n.no) (s b o h)
end Cm
set_option Elab.async false
set_option linter.all false
set_option maxRecDepth 100000
set_option maxHeartbeats 4000000
/-! ## D0. Data as trees; what represents them in the heap -/
namespace Dl
open PySem PySem.Spec PyProof.Rows L2 Cm
inductive D where
  | non | bl (b : Bool) | int (i : Int) | str (x : Str) | ty (n : String) | ref (a : Addr)
  | tup (ds : List D) | con (ds : List D) | lst (ds : List D) | dct (kvs : List (Key × Int))
  | ins (C : Addr) (ns : List Str) (ds : List D)
  | scr (ns : List Int)
mutual
/-- v stands for d; N: what may change or is nobody's -/
inductive Is (K : PySem.W.Frag) (N : Addr → Prop) (H : Hp) : V → D → Prop
  | non : Is K N H .non .non
  | bl (b : Bool) : Is K N H (.bl b) (.bl b)
  | int (i : Int) : Is K N H (.int i) (.int i)
  | str (x : Str) : Is K N H (.str x) (.str x)
  | ty (n : String) : Is K N H (.ty n) (.ty n)
  | ref (a : Addr) : Is K N H (.ref a) (.ref a)
  | tup {a : Addr} {vs : List V} {ds : List D} : ¬ N a → H a = some (.tup vs) → IsAll K N H vs ds → Is K N H (.ref a) (.tup ds)
  | con {a : Addr} {vs : List V} {ds : List D} : WrT K a vs → IsAll K N H vs ds → Is K N H (.ref a) (.con ds)
  | lst {a : Addr} {vs : List V} {ds : List D} : ¬ N a → H a = some (.lst vs) → IsAll K N H vs ds → Is K N H (.ref a) (.lst ds)
  | dct {a : Addr} {kvs : List (Key × Int)} : ¬ N a → H a = some (.dK (kvs.map fun p => (p.1, V.int p.2))) → Is K N H (.ref a) (.dct kvs)
  | ins {a C dx : Addr} {ns : List Str} {vs : List V} {ds : List D} : ¬ N a → H a = some (.ins C dx (ns.zip vs)) → ns.length = vs.length → IsAll K N H vs ds → Is K N H (.ref a) (.ins C ns ds)
  | scr {a : Addr} {ns : List Int} : ¬ N a → Rd H a (.lst (ns.map V.int)) → Is K N H (.ref a) (.scr ns)
  | scrK {a : Addr} {ns : List Int} : (∀ H : Hp, SqL K H a (ns.map V.int)) → Is K N H (.ref a) (.scr ns)
inductive IsAll (K : PySem.W.Frag) (N : Addr → Prop) (H : Hp) : List V → List D → Prop
  | nil : IsAll K N H [] []
  | cons {v : V} {d : D} {vs : List V} {ds : List D} : Is K N H v d → IsAll K N H vs ds → IsAll K N H (v :: vs) (d :: ds)
end
section
variable {K : PySem.W.Frag} {N N' N2 : Addr → Prop} {H H' H2 : Hp}
/-- what is known stays known -/
def Go (N : Addr → Prop) (H : Hp) (N' : Addr → Prop) (H' : Hp) : Prop := ∀ b o, ¬ N b → H b = some o → ¬ N' b ∧ H' b = some o
mutual
theorem Is.go (g : Go N H N' H') : ∀ {v : V} {d : D}, Is K N H v d → Is K N' H' v d
  | _, _, .non => .non
  | _, _, .bl b => .bl b
  | _, _, .int i => .int i
  | _, _, .str x => .str x
  | _, _, .ty n => .ty n
  | _, _, .ref a => .ref a
  | _, _, .tup n h r => .tup (g _ _ n h).1 (g _ _ n h).2 (IsAll.go g r)
  | _, _, .con h r => .con h (IsAll.go g r)
  | _, _, .lst n h r => .lst (g _ _ n h).1 (g _ _ n h).2 (IsAll.go g r)
  | _, _, .dct n h => .dct (g _ _ n h).1 (g _ _ n h).2
  | _, _, .ins n h l r => .ins (g _ _ n h).1 (g _ _ n h).2 l (IsAll.go g r)
  | _, _, .scr n h => by
    rcases h with h | ⟨o, h⟩
    · exact .scr (g _ _ n h).1 (.inl (g _ _ n h).2)
    · exact .scr (g _ _ n h).1 (.inr ⟨o, (g _ _ n h).2⟩)
  | _, _, .scrK h => .scrK h
theorem IsAll.go (g : Go N H N' H') : ∀ {vs : List V} {ds : List D}, IsAll K N H vs ds → IsAll K N' H' vs ds
  | _, _, .nil => .nil
  | _, _, .cons a r => .cons (Is.go g a) (IsAll.go g r)
end
theorem Go.refl : Go N H N H := fun _ _ n h => ⟨n, h⟩
theorem Go.trans (a : Go N H N' H') (b : Go N' H' N2 H2) : Go N H N2 H2 := fun c o n h => b c o (a c o n h).1 (a c o n h).2
theorem Go.less (s : ∀ b, N' b → N b) : Go N H N' H := fun b _ n h => ⟨fun z => n (s b z), h⟩
theorem IsAll.length : ∀ {vs : List V} {ds : List D}, IsAll K N H vs ds → vs.length = ds.length
  | _, _, .nil => rfl
  | _, _, .cons _ r => by rw [List.length_cons, List.length_cons, IsAll.length r]
theorem IsAll.append : ∀ {vs ws : List V} {ds es : List D}, IsAll K N H vs ds → IsAll K N H ws es → IsAll K N H (vs ++ ws) (ds ++ es)
  | _, _, _, _, .nil, b => b
  | _, _, _, _, .cons a r, b => .cons a (IsAll.append r b)
theorem IsAll.get : ∀ {vs : List V} {ds : List D} {i : Nat} {v : V}, IsAll K N H vs ds → vs[i]? = some v → ∃ d, ds[i]? = some d ∧ Is K N H v d
  | _, _, _, _, .nil, e => by simp at e
  | _, _, 0, _, .cons a r, e => by simp at e; subst e; exact ⟨_, rfl, a⟩
  | _, _, i + 1, v, .cons a r, e => by
    obtain ⟨d, h1, h2⟩ := IsAll.get (i := i) (v := v) r (by simpa using e)
    exact ⟨d, by simpa using h1, h2⟩
theorem IsAll.getD : ∀ {vs : List V} {ds : List D} {i : Nat} {d : D}, IsAll K N H vs ds → ds[i]? = some d → ∃ v, vs[i]? = some v ∧ Is K N H v d
  | _, _, _, _, .nil, e => by simp at e
  | _, _, 0, _, .cons a r, e => by simp at e; subst e; exact ⟨_, rfl, a⟩
  | _, _, i + 1, v, .cons a r, e => by
    obtain ⟨d, h1, h2⟩ := IsAll.getD (i := i) (d := v) r (by simpa using e)
    exact ⟨d, by simpa using h1, h2⟩
theorem IsAll.take : ∀ (n : Nat) {vs : List V} {ds : List D}, IsAll K N H vs ds → IsAll K N H (vs.take n) (ds.take n)
  | 0, _, _, _ => .nil
  | _ + 1, _, _, .nil => .nil
  | n + 1, _, _, .cons a b => .cons a (IsAll.take n b)
theorem IsAll.drop : ∀ (n : Nat) {vs : List V} {ds : List D}, IsAll K N H vs ds → IsAll K N H (vs.drop n) (ds.drop n)
  | 0, _, _, h => h
  | _ + 1, _, _, .nil => .nil
  | n + 1, _, _, .cons _ b => IsAll.drop n b
theorem IsAll.set {v : V} {d : D} (h : Is K N H v d) : ∀ (n : Nat) {vs : List V} {ds : List D}, IsAll K N H vs ds → IsAll K N H (vs.set n v) (ds.set n d)
  | _, _, _, .nil => .nil
  | 0, _, _, .cons _ b => .cons h b
  | n + 1, _, _, .cons a b => .cons a (IsAll.set h n b)
theorem IsAll.reverse : ∀ {vs : List V} {ds : List D}, IsAll K N H vs ds → IsAll K N H vs.reverse ds.reverse
  | _, _, .nil => .nil
  | _, _, .cons a b => by
    rw [List.reverse_cons, List.reverse_cons]
    exact IsAll.append (IsAll.reverse b) (.cons a .nil)
theorem IsAll.eraseIdx : ∀ (n : Nat) {vs : List V} {ds : List D}, IsAll K N H vs ds → IsAll K N H (vs.eraseIdx n) (ds.eraseIdx n)
  | _, _, _, .nil => .nil
  | 0, _, _, .cons _ b => b
  | n + 1, _, _, .cons a b => .cons a (IsAll.eraseIdx n b)
theorem IsAll.ints : ∀ (ns : List Int), IsAll K N H (ns.map V.int) (ns.map D.int)
  | [] => .nil
  | n :: ns => .cons (.int n) (IsAll.ints ns)
theorem IsAll.bls : ∀ (ns : List Bool), IsAll K N H (ns.map V.bl) (ns.map D.bl)
  | [] => .nil
  | n :: ns => .cons (.bl n) (IsAll.bls ns)
theorem IsAll.strs : ∀ (ns : List Str), IsAll K N H (ns.map V.str) (ns.map D.str)
  | [] => .nil
  | n :: ns => .cons (.str n) (IsAll.strs ns)
/-! scalars are their values -/
theorem Is.int_inv {v : V} {i : Int} (h : Is K N H v (.int i)) : v = .int i := by cases h; rfl
theorem Is.bl_inv {v : V} {i : Bool} (h : Is K N H v (.bl i)) : v = .bl i := by cases h; rfl
theorem Is.str_inv {v : V} {i : Str} (h : Is K N H v (.str i)) : v = .str i := by cases h; rfl
theorem Is.non_inv {v : V} (h : Is K N H v .non) : v = .non := by cases h; rfl
theorem Is.ty_inv {v : V} {n : String} (h : Is K N H v (.ty n)) : v = .ty n := by cases h; rfl
theorem Is.ref_inv {v : V} {a : Addr} (h : Is K N H v (.ref a)) : v = .ref a := by cases h; rfl
theorem Is.tup_inv {v : V} {ds : List D} (h : Is K N H v (.tup ds)) : ∃ a vs, v = .ref a ∧ ¬ N a ∧ H a = some (.tup vs) ∧ IsAll K N H vs ds := by
  cases h with
  | tup n h r => exact ⟨_, _, rfl, n, h, r⟩
theorem Is.con_inv {v : V} {ds : List D} (h : Is K N H v (.con ds)) : ∃ a vs, v = .ref a ∧ SqT K H a vs ∧ IsAll K N H vs ds := by
  cases h with
  | con h r => exact ⟨_, _, rfl, h.sq, r⟩
theorem Is.lst_inv {v : V} {ds : List D} (h : Is K N H v (.lst ds)) : ∃ a vs, v = .ref a ∧ ¬ N a ∧ H a = some (.lst vs) ∧ IsAll K N H vs ds := by
  cases h with
  | lst n h r => exact ⟨_, _, rfl, n, h, r⟩
theorem Is.ins_inv {v : V} {C : Addr} {ns : List Str} {ds : List D} (h : Is K N H v (.ins C ns ds)) : ∃ a dx vs, v = .ref a ∧ ¬ N a ∧ H a = some (.ins C dx (ns.zip vs)) ∧ ns.length = vs.length ∧ IsAll K N H vs ds := by
  cases h with
  | ins n h l r => exact ⟨_, _, _, rfl, n, h, l, r⟩
theorem Is.scr_inv {v : V} {ns : List Int} (h : Is K N H v (.scr ns)) : ∃ a, v = .ref a ∧ SqL K H a (ns.map V.int) := by
  cases h with
  | scr n h => exact ⟨_, rfl, .inl h⟩
  | scrK h => exact ⟨_, rfl, h H⟩
theorem IsAll.ints_inv : ∀ {vs : List V} {ns : List Int}, IsAll K N H vs (ns.map D.int) → vs = ns.map V.int
  | _, [], .nil => rfl
  | _, n :: ns, .cons a r => by rw [a.int_inv, IsAll.ints_inv r]; rfl
theorem IsAll.bls_inv : ∀ {vs : List V} {ns : List Bool}, IsAll K N H vs (ns.map D.bl) → vs = ns.map V.bl
  | _, [], .nil => rfl
  | _, n :: ns, .cons a r => by rw [a.bl_inv, IsAll.bls_inv r]; rfl
theorem IsAll.strs_inv : ∀ {vs : List V} {ns : List Str}, IsAll K N H vs (ns.map D.str) → vs = ns.map V.str
  | _, [], .nil => rfl
  | _, n :: ns, .cons a r => by rw [a.str_inv, IsAll.strs_inv r]; rfl
end
/-! ### cells: lists and records that change -/
inductive Cell where
  | lst (ds : List D)
  | obj (C : Addr) (ns : List Str) (ds : List D)
abbrev Mu := List (Option Cell)
abbrev Ms := List (Option Addr)
inductive S where
  | d (x : D)
  | cel (k : Nat)
abbrev Rho := List (Option S)
/-- the tables of code objects that may grow, with the names of the codes that they tell -/
class Tbls where
  ts : List (Addr × Str)
section
variable [Tb : Tbls]
def inT (a : Addr) : Prop := ∃ q, (a, q) ∈ Tb.ts
def inM (M : Ms) (a : Addr) : Prop := some a ∈ M ∨ inT a
theorem inM.of {M : Ms} {a : Addr} {k : Nat} (h : M[k]? = some (some a)) : inM M a := .inl (List.mem_of_getElem? h)
theorem inM_app {M X : Ms} {a : Addr} (h : inM (M ++ X) a) : inM M a ∨ some a ∈ X := by
  rcases h with h | h
  · exact (List.mem_append.mp h).elim (fun z => .inl (.inl z)) .inr
  · exact .inl (.inr h)
theorem tabs_put {T : List (Addr × Str)} {H : Hp} {p : Addr} {o x : HO} (t : LamX.Tabs T H) (h : H p = some o) (h1 : ∀ ps, o ≠ .tbl ps) (h2 : ∀ c q, o ≠ LamX.CodeO c q) : LamX.Tabs T (upd H p x) := by
  intro w hw
  obtain ⟨ps, e1, e2, e3⟩ := t w hw
  refine ⟨ps, ?_, e2, fun pos cv hc => ?_⟩
  · rw [upd_ne (fun z => by rw [z, h] at e1; exact h1 ps (Option.some.inj e1))]; exact e1
  · obtain ⟨c, e4, e5⟩ := e3 pos cv hc
    refine ⟨c, e4, ?_⟩
    rw [upd_ne (fun z => by rw [z, h] at e5; exact h2 _ _ (Option.some.inj e5))]; exact e5
theorem tabs_new {T : List (Addr × Str)} {H : Hp} {p : Addr} {x : HO} (t : LamX.Tabs T H) (h : H p = none) : LamX.Tabs T (upd H p x) :=
  t.ext fun b o e => by rw [upd_ne (ne_of_none e h)]; exact e
theorem tabs_lst {T : List (Addr × Str)} {H : Hp} {p : Addr} {vs : List V} {x : HO} (t : LamX.Tabs T H) (h : H p = some (.lst vs)) : LamX.Tabs T (upd H p x) :=
  tabs_put t h (fun _ z => by cases z) fun _ _ z => by unfold LamX.CodeO at z; cases z
theorem tabs_ins {T : List (Addr × Str)} {H : Hp} {p C dx : Addr} {vs : List (Str × V)} {x : HO} (t : LamX.Tabs T H) (h : H p = some (.ins C dx vs)) : LamX.Tabs T (upd H p x) :=
  tabs_put t h (fun _ z => by cases z) fun _ _ z => by unfold LamX.CodeO at z; cases z
theorem tabs_not {H : Hp} {p : Addr} {o : HO} (t : LamX.Tabs Tb.ts H) (h : H p = some o) (h1 : ∀ ps, o ≠ .tbl ps) : ¬ inT p := by
  rintro ⟨q, hq⟩
  obtain ⟨ps, e, _⟩ := t _ hq
  rw [h] at e
  exact h1 ps (Option.some.inj e)
end
/-- what stands at a is the cell's content -/
def CellAt (K : PySem.W.Frag) (N : Addr → Prop) (H : Hp) (a : Addr) : Cell → Prop
  | .lst ds => ∃ vs, H a = some (.lst vs) ∧ IsAll K N H vs ds
  | .obj C ns ds => ∃ dx vs, H a = some (.ins C dx (ns.zip vs)) ∧ ns.length = vs.length ∧ IsAll K N H vs ds
structure StR [Tb : Tbls] (K : PySem.W.Frag) (N : Addr → Prop) (M : Ms) (H : Hp) (μ : Mu) : Prop where
  len : M.length = μ.length
  sub : ∀ a, inM M a → N a
  trk : ∀ a, N a → ∃ o, H a = some o
  cell : ∀ (k : Nat) a, M[k]? = some (some a) → ∃ c, μ[k]? = some (some c) ∧ CellAt K N H a c
  inj : ∀ (j k : Nat) a, M[j]? = some (some a) → M[k]? = some (some a) → j = k
  tab : LamX.Tabs Tb.ts H
inductive IsS (K : PySem.W.Frag) (N : Addr → Prop) (M : Ms) (H : Hp) : V → S → Prop
  | d {v : V} {x : D} : Is K N H v x → IsS K N M H v (.d x)
  | cel {a : Addr} {k : Nat} : M[k]? = some (some a) → IsS K N M H (.ref a) (.cel k)
inductive IsSA (K : PySem.W.Frag) (N : Addr → Prop) (M : Ms) (H : Hp) : List V → List S → Prop
  | nil : IsSA K N M H [] []
  | cons {v : V} {s : S} {vs : List V} {ss : List S} : IsS K N M H v s → IsSA K N M H vs ss → IsSA K N M H (v :: vs) (s :: ss)
/-- all but the cells is kept -/
def Kp [Tb : Tbls] (M : Ms) (H H' : Hp) : Prop := ∀ b o, ¬ inM M b → H b = some o → H' b = some o
structure EnvR (K : PySem.W.Frag) (N : Addr → Prop) (M : Ms) (σ : L2.St) (H : Hp) (ρ : Rho) : Prop where
  len : σ.length = ρ.length
  at_ : ∀ (i : Nat) s, ρ[i]? = some (some s) → ∃ v, σ[i]? = some (some v) ∧ IsS K N M H v s
structure ER [Tb : Tbls] (K : PySem.W.Frag) (N : Addr → Prop) (M : Ms) (σ : L2.St) (H : Hp) (ρ : Rho) (μ : Mu) : Prop where
  env : EnvR K N M σ H ρ
  st : StR K N M H μ
section
variable [Tb : Tbls] {K : PySem.W.Frag} {N N' : Addr → Prop} {M M' M2 : Ms} {H H' H2 : Hp} {σ : L2.St} {ρ : Rho} {μ μ' : Mu} {p : Addr} {o : HO}
theorem Kp.refl : Kp M H H := fun _ _ _ h => h
theorem Kp.trans (a : Kp M H H') (b : Kp M H' H2) : Kp M H H2 := fun c o n h => b c o n (a c o n h)
theorem StR.go (s : StR K N M H μ) (k : Kp M H H') : Go N H N H' := fun b o n h => ⟨n, k b o (fun z => n (s.sub b z)) h⟩
theorem IsS.go {v : V} {s : S} (g : Go N H N' H') : IsS K N M H v s → IsS K N' M H' v s
  | .d h => .d (h.go g)
  | .cel h => .cel h
theorem IsSA.go (g : Go N H N' H') : ∀ {vs : List V} {ss : List S}, IsSA K N M H vs ss → IsSA K N' M H' vs ss
  | _, _, .nil => .nil
  | _, _, .cons a r => .cons (a.go g) (IsSA.go g r)
theorem EnvR.go (g : Go N H N' H') (e : EnvR K N M σ H ρ) : EnvR K N' M σ H' ρ :=
  ⟨e.len, fun i s h => let ⟨v, h1, h2⟩ := e.at_ i s h; ⟨v, h1, h2.go g⟩⟩
/-- behind an expression -/
theorem ER.go (e : ER K N M σ H ρ μ) (k : Kp M H H') (s : StR K N M H' μ') : ER K N M σ H' ρ μ' := ⟨e.env.go (e.st.go k), s⟩
theorem CellAt.go {a : Addr} {c : Cell} (g : Go N H N' H') (e : H' a = H a) : CellAt K N H a c → CellAt K N' H' a c := by
  cases c with
  | lst ds => rintro ⟨vs, h, r⟩; exact ⟨vs, e.trans h, r.go g⟩
  | obj C ns ds => rintro ⟨dx, vs, h, l, r⟩; exact ⟨dx, vs, e.trans h, l, r.go g⟩
theorem StR.notN (s : StR K N M H μ) (hp : H p = none) : ¬ N p := fun z => by
  obtain ⟨o, h⟩ := s.trk p z
  rw [h] at hp; cases hp
/-- a new object that nobody changes -/
theorem StR.new (s : StR K N M H μ) (hp : H p = none) : StR K N M (upd H p o) μ ∧ Kp M H (upd H p o) ∧ ¬ N p := by
  have np := s.notN hp
  have g : Go N H N (upd H p o) := fun b u n h => ⟨n, by rw [upd_ne (ne_of_none h hp)]; exact h⟩
  refine ⟨⟨s.len, s.sub, fun a z => ?_, fun k a h => ?_, s.inj, tabs_new s.tab hp⟩, fun b u _ h => by rw [upd_ne (ne_of_none h hp)]; exact h, np⟩
  · obtain ⟨u, h⟩ := s.trk a z
    exact ⟨u, by rw [upd_ne (ne_of_none h hp)]; exact h⟩
  · obtain ⟨c, h1, h2⟩ := s.cell k a h
    refine ⟨c, h1, h2.go g ?_⟩
    have : a ≠ p := fun e => np (e ▸ s.sub a (inM.of h))
    rw [upd_ne this]
theorem Kp.free (s : StR K N M H μ) (k : Kp M H H') (s' : StR K N M H' μ') (hp : H' p = none) : H p = none := by
  cases e : H p with
  | none => rfl
  | some o =>
    by_cases z : inM M p
    · obtain ⟨o', e'⟩ := s'.trk p (s'.sub p z)
      rw [e'] at hp; cases hp
    · rw [k p o z e] at hp; cases hp
/-- N and one more -/
def Nl (N : Addr → Prop) (l : Addr) : Addr → Prop := fun b => N b ∨ b = l
theorem go_nl {l : Addr} {o : HO} (hl : H l = none) (s : StR K N M H μ) : Go N H (Nl N l) (upd H l o) := fun b u n h => by
  have : b ≠ l := ne_of_none h hl
  exact ⟨fun z => z.elim n this, by rw [upd_ne this]; exact h⟩
/-- a new list that nobody knows yet -/
theorem StR.fresh (s : StR K N M H μ) (hp : H p = none) : StR K (Nl N p) M (upd H p o) μ := by
  have g : Go N H (Nl N p) (upd H p o) := go_nl hp s
  have np := s.notN hp
  refine ⟨s.len, fun a z => .inl (s.sub a z), fun a z => ?_, fun k a h => ?_, s.inj, tabs_new s.tab hp⟩
  · rcases z with z | z
    · obtain ⟨u, h⟩ := s.trk a z
      exact ⟨u, by rw [upd_ne (ne_of_none h hp)]; exact h⟩
    · subst z; exact ⟨_, upd_same⟩
  · obtain ⟨c, h1, h2⟩ := s.cell k a h
    refine ⟨c, h1, h2.go g ?_⟩
    have : a ≠ p := fun e => np (e ▸ s.sub a (inM.of h))
    rw [upd_ne this]
/-- .. that is known from now on -/
theorem StR.less (s : StR K (Nl N p) M H μ) (np : ¬ N p) (hM : ∀ a, inM M a → N a) : StR K N M H μ := by
  refine ⟨s.len, hM, fun a z => s.trk a (.inl z), fun k a h => ?_, s.inj, s.tab⟩
  obtain ⟨c, h1, h2⟩ := s.cell k a h
  exact ⟨c, h1, h2.go (Go.less fun b z => .inl z) rfl⟩
theorem CellAt.notTbl {a : Addr} {c : Cell} (h : CellAt K N H a c) : ∃ o, H a = some o ∧ ∀ ps, o ≠ .tbl ps := by
  cases c with
  | lst ds => obtain ⟨vs, h, _⟩ := h; exact ⟨_, h, fun _ z => by cases z⟩
  | obj C ns ds => obtain ⟨dx, vs, h, _⟩ := h; exact ⟨_, h, fun _ z => by cases z⟩
theorem StR.notT {k : Nat} {a : Addr} (s : StR K N M H μ) (ha : M[k]? = some (some a)) : ¬ inT a := by
  obtain ⟨c, _, h⟩ := s.cell k a ha
  obtain ⟨o, h1, h2⟩ := h.notTbl
  exact tabs_not s.tab h1 h2
theorem StR.tabPut {k : Nat} {a : Addr} (s : StR K N M H μ) (ha : M[k]? = some (some a)) : LamX.Tabs Tb.ts (upd H a o) := by
  obtain ⟨c, _, h⟩ := s.cell k a ha
  cases c with
  | lst ds => obtain ⟨vs, h, _⟩ := h; exact tabs_lst s.tab h
  | obj C ns ds => obtain ⟨dx, vs, h, _⟩ := h; exact tabs_ins s.tab h
/-- a cell is written -/
theorem StR.write {k : Nat} {a : Addr} {c : Cell} (s : StR K N M H μ) (ha : M[k]? = some (some a)) (hc : CellAt K N (upd H a o) a c) :
    StR K N M (upd H a o) (μ.set k (some c)) ∧ Kp M H (upd H a o) := by
  have hN : N a := s.sub a (inM.of ha)
  have g : Go N H N (upd H a o) := fun b u n h => ⟨n, by rw [upd_ne (fun e => n (by rw [e]; exact hN))]; exact h⟩
  have hk : k < μ.length := by rw [← s.len]; exact (List.getElem?_eq_some_iff.mp ha).1
  refine ⟨⟨by rw [List.length_set]; exact s.len, s.sub, fun b z => ?_, fun j b h => ?_, s.inj, s.tabPut ha⟩, fun b u n h => ?_⟩
  · by_cases e : b = a
    · subst e; exact ⟨_, upd_same⟩
    · obtain ⟨u, h⟩ := s.trk b z
      exact ⟨u, by rw [upd_ne e]; exact h⟩
  · by_cases e : j = k
    · subst e
      rw [ha] at h; cases h
      exact ⟨c, by rw [List.getElem?_set_self hk], hc⟩
    · obtain ⟨c', h1, h2⟩ := s.cell j b h
      refine ⟨c', by rw [List.getElem?_set_ne (Ne.symm e)]; exact h1, h2.go g ?_⟩
      have : b ≠ a := fun z => e (s.inj j k a (z ▸ h) ha)
      rw [upd_ne this]
  · have : b ≠ a := fun z => n (z ▸ inM.of ha)
    rw [upd_ne this]; exact h
end
end Dl
set_option Elab.async false
set_option linter.all false
set_option maxRecDepth 100000
set_option maxHeartbeats 4000000
/-! ## D1. Readings of data: expressions -/
namespace Dl
open PySem PySem.Spec PyProof.Rows L2 Cm
variable [Tb : Tbls]
abbrev QD := S → Mu → Prop
abbrev TD := Rho → Mu → QD → Prop
abbrev TAd := Rho → Mu → (List S → Mu → Prop) → Prop
abbrev TTd := Rho → Mu → (Bool → Mu → Prop) → Prop
abbrev TNd := Rho → Mu → (List D → Mu → Prop) → Prop
abbrev RD1 := S → Mu → QD → Prop
abbrev RD2 := S → S → Mu → QD → Prop
abbrev RDl := List S → Mu → QD → Prop
/-- what comes behind -/
def Ct (K : PySem.W.Frag) (N : Addr → Prop) (M : Ms) (H : Hp) (Qd : QD) (Qv : VK) : Prop := ∀ v H' s μ', Kp M H H' → StR K N M H' μ' → IsS K N M H' v s → Qd s μ' → Qv v H'
def CtN (K : PySem.W.Frag) (N : Addr → Prop) (M : Ms) (H : Hp) (Qd : List D → Mu → Prop) (Qv : VK) : Prop := ∀ l H' vs ds μ', Kp M H H' → H l = none → H' l = some (.lst vs) → StR K (Nl N l) M H' μ' → IsAll K (Nl N l) H' vs ds → Qd ds μ' → Qv (.ref l) H'
class SdE (K : PySem.W.Frag) (t : TE) (T : outParam TD) : Prop where
  go : ∀ N M σ H ρ μ (Qd : QD) (Qv : VK), ER K N M σ H ρ μ → T ρ μ Qd → Ct K N M H Qd Qv → t σ H Qv
class SdN (K : PySem.W.Frag) (t : TE) (T : outParam TNd) : Prop where
  go : ∀ N M σ H ρ μ (Qd : List D → Mu → Prop) (Qv : VK), ER K N M σ H ρ μ → T ρ μ Qd → CtN K N M H Qd Qv → t σ H Qv
class SdA (K : PySem.W.Frag) (t : TA) (T : outParam TAd) : Prop where
  go : ∀ N M σ H ρ μ (Qd : List S → Mu → Prop) (Qv : List V → Hp → Prop), ER K N M σ H ρ μ → T ρ μ Qd →
    (∀ vs H' ss μ', Kp M H H' → StR K N M H' μ' → IsSA K N M H' vs ss → Qd ss μ' → Qv vs H') → t σ H Qv
class SdT (K : PySem.W.Frag) (t : TT) (T : outParam TTd) : Prop where
  go : ∀ N M σ H ρ μ (Qd : Bool → Mu → Prop) (Qv : Bool → Hp → Prop), ER K N M σ H ρ μ → T ρ μ Qd →
    (∀ b H' μ', Kp M H H' → StR K N M H' μ' → Qd b μ' → Qv b H') → t σ H Qv
class OpD (K : PySem.W.Frag) (r : R2) (rd : outParam RD2) : Prop where
  go : ∀ N M H μ v w x y (Qd : QD) (Qv : VK), StR K N M H μ → IsS K N M H v x → IsS K N M H w y → rd x y μ Qd → Ct K N M H Qd Qv → r v w H Qv
class UnD (K : PySem.W.Frag) (r : V → Hp → VK → Prop) (rd : outParam RD1) : Prop where
  go : ∀ N M H μ v x (Qd : QD) (Qv : VK), StR K N M H μ → IsS K N M H v x → rd x μ Qd → Ct K N M H Qd Qv → r v H Qv
class CallD (K : PySem.W.Frag) (r : List V → Hp → VK → Prop) (rd : outParam RDl) : Prop where
  go : ∀ N M H μ vs ss (Qd : QD) (Qv : VK), StR K N M H μ → IsSA K N M H vs ss → rd ss μ Qd → Ct K N M H Qd Qv → r vs H Qv
/-- .. that give a new list -/
class OpN (K : PySem.W.Frag) (r : R2) (rd : outParam (S → S → Mu → (List D → Mu → Prop) → Prop)) : Prop where
  go : ∀ N M H μ v w x y (Qd : List D → Mu → Prop) (Qv : VK), StR K N M H μ → IsS K N M H v x → IsS K N M H w y → rd x y μ Qd → CtN K N M H Qd Qv → r v w H Qv
class CallN (K : PySem.W.Frag) (r : List V → Hp → VK → Prop) (rd : outParam (List S → Mu → (List D → Mu → Prop) → Prop)) : Prop where
  go : ∀ N M H μ vs ss (Qd : List D → Mu → Prop) (Qv : VK), StR K N M H μ → IsSA K N M H vs ss → rd ss μ Qd → CtN K N M H Qd Qv → r vs H Qv
section
variable {K : PySem.W.Frag} {N : Addr → Prop} {M : Ms} {H H' : Hp} {μ μ' : Mu} {Qd : QD} {Qv : VK}
theorem Ct.same (c : Ct K N M H Qd Qv) (st : StR K N M H μ) {v : V} {s : S} (h : IsS K N M H v s) (q : Qd s μ) : Qv v H := c v H s μ Kp.refl st h q
theorem Ct.scal (c : Ct K N M H Qd Qv) (st : StR K N M H μ) {v : V} {x : D} (h : Is K N H v x) (q : Qd (.d x) μ) : Qv v H := c v H _ μ Kp.refl st (.d h) q
theorem Ct.step (c : Ct K N M H Qd Qv) (k : Kp M H H') : Ct K N M H' Qd Qv := fun v H2 s μ2 k2 st h q => c v H2 s μ2 (k.trans k2) st h q
theorem CtN.step {Qd : List D → Mu → Prop} (c : CtN K N M H Qd Qv) (st : StR K N M H μ) (k : Kp M H H') (st' : StR K N M H' μ') : CtN K N M H' Qd Qv :=
  fun l H2 vs ds μ2 k2 n h s2 r q => c l H2 vs ds μ2 (k.trans k2) (Kp.free st k st' n) h s2 r q
/-- a new list that becomes data -/
theorem CtN.of {μ : Mu} (st : StR K N M H μ) (c : Ct K N M H Qd Qv) : CtN K N M H (fun ds μ' => Qd (.d (.lst ds)) μ') Qv := by
  intro l H' vs ds μ' k n h s r q
  have nl : ¬ N l := st.notN n
  have sub : ∀ a, inM M a → N a := st.sub
  exact c _ _ _ μ' k (s.less nl sub) (.d (.lst nl h (r.go (Go.less fun b z => .inl z)))) q
/-- a new list is laid -/
theorem CtN.put {Qd : List D → Mu → Prop} (c : CtN K N M H Qd Qv) (st : StR K N M H μ) {vs : List V} {ds : List D} (h : IsAll K N H vs ds) {p : Addr} (hp : H p = none) (q : Qd ds μ) : Qv (.ref p) (upd H p (.lst vs)) :=
  c p _ vs ds μ (st.new hp).2.1 hp upd_same (st.fresh hp) (h.go (go_nl hp st)) q
/-- a new tuple is laid -/
theorem Ct.tup (c : Ct K N M H Qd Qv) (st : StR K N M H μ) {vs : List V} {ds : List D} (h : IsAll K N H vs ds) {p : Addr} (hp : H p = none) (q : Qd (.d (.tup ds)) μ) : Qv (.ref p) (upd H p (.tup vs)) := by
  obtain ⟨s, k, n⟩ := st.new (o := .tup vs) hp
  exact c _ _ _ μ k s (.d (.tup n upd_same (h.go (st.go k)))) q
end
/-! ### names, constants -/
def vD : V → Option D
  | .non => some .non | .bl b => some (.bl b) | .int i => some (.int i) | .str x => some (.str x) | .ty n => some (.ty n) | .ref a => some (.ref a) | _ => none
theorem vD_is {K : PySem.W.Frag} {N : Addr → Prop} {H : Hp} {v : V} {d : D} (h : vD v = some d) : Is K N H v d := by
  cases v <;> simp only [vD, Option.some.injEq, reduceCtorEq] at h <;> subst h <;> constructor
def dVar (i : Nat) : TD := fun ρ μ Q => ∃ s, ρ[i]? = some (some s) ∧ Q s μ
instance {K : PySem.W.Frag} {i : Nat} : SdE K (tVar i) (dVar i) where
  go := by
    intro N M σ H ρ μ Qd Qv er h c
    obtain ⟨s, e, q⟩ := h
    obtain ⟨v, e1, r⟩ := er.env.at_ i s e
    exact ⟨v, e1, c.same er.st r q⟩
def dC (v : V) : TD := fun _ μ Q => ∃ d, vD v = some d ∧ Q (.d d) μ
instance {K : PySem.W.Frag} {v : V} : SdE K (tC v) (dC v) where
  go := by
    intro N M σ H ρ μ Qd Qv er h c
    obtain ⟨d, e, q⟩ := h
    exact c.scal er.st (vD_is e) q
def dOp (rd : RD2) (A B : TD) : TD := fun ρ μ Q => A ρ μ fun x μ1 => B ρ μ1 fun y μ2 => rd x y μ2 Q
instance {K : PySem.W.Frag} {r : R2} {rd : RD2} {ta tb : TE} {A B : TD} [o : OpD K r rd] [a : SdE K ta A] [b : SdE K tb B] : SdE K (tOp r ta tb) (dOp rd A B) where
  go := by
    intro N M σ H ρ μ Qd Qv er h c
    refine a.go N M σ H ρ μ _ _ er h fun v H1 x μ1 k1 s1 r1 h1 => ?_
    refine b.go N M σ H1 ρ μ1 _ _ (er.go k1 s1) h1 fun w H2 y μ2 k2 s2 r2 h2 => ?_
    exact o.go N M H2 μ2 v w x y _ _ s2 (r1.go (s1.go k2)) r2 h2 (c.step (k1.trans k2))
def dOpN (rd : S → S → Mu → (List D → Mu → Prop) → Prop) (A B : TD) : TNd := fun ρ μ Q => A ρ μ fun x μ1 => B ρ μ1 fun y μ2 => rd x y μ2 Q
instance {K : PySem.W.Frag} {r : R2} {rd : S → S → Mu → (List D → Mu → Prop) → Prop} {ta tb : TE} {A B : TD} [o : OpN K r rd] [a : SdE K ta A] [b : SdE K tb B] : SdN K (tOp r ta tb) (dOpN rd A B) where
  go := by
    intro N M σ H ρ μ Qd Qv er h c
    refine a.go N M σ H ρ μ _ _ er h fun v H1 x μ1 k1 s1 r1 h1 => ?_
    refine b.go N M σ H1 ρ μ1 _ _ (er.go k1 s1) h1 fun w H2 y μ2 k2 s2 r2 h2 => ?_
    exact o.go N M H2 μ2 v w x y _ _ s2 (r1.go (s1.go k2)) r2 h2 (c.step er.st (k1.trans k2) s2)
def dUn (rd : RD1) (A : TD) : TD := fun ρ μ Q => A ρ μ fun x μ1 => rd x μ1 Q
instance {K : PySem.W.Frag} {r : V → Hp → VK → Prop} {rd : RD1} {ta : TE} {A : TD} [o : UnD K r rd] [a : SdE K ta A] : SdE K (tUn r ta) (dUn rd A) where
  go := by
    intro N M σ H ρ μ Qd Qv er h c
    refine a.go N M σ H ρ μ _ _ er h fun v H1 x μ1 k1 s1 r1 h1 => ?_
    exact o.go N M H1 μ1 v x _ _ s1 r1 h1 (c.step k1)
/-! ### rows of arguments, displays -/
def dNil : TAd := fun _ μ Q => Q [] μ
instance {K : PySem.W.Frag} : SdA K tNil dNil where
  go := fun N M σ H ρ μ Qd Qv er h c => c [] H [] μ Kp.refl er.st .nil h
def dCons (A : TD) (B : TAd) : TAd := fun ρ μ Q => A ρ μ fun x μ1 => B ρ μ1 fun xs μ2 => Q (x :: xs) μ2
instance {K : PySem.W.Frag} {ta : TE} {tr : TA} {A : TD} {B : TAd} [a : SdE K ta A] [b : SdA K tr B] : SdA K (tCons ta tr) (dCons A B) where
  go := by
    intro N M σ H ρ μ Qd Qv er h c
    refine a.go N M σ H ρ μ _ _ er h fun v H1 x μ1 k1 s1 r1 h1 => ?_
    refine b.go N M σ H1 ρ μ1 _ _ (er.go k1 s1) h1 fun vs H2 xs μ2 k2 s2 r2 h2 => ?_
    exact c _ _ _ _ (k1.trans k2) s2 (.cons (r1.go (s1.go k2)) r2) h2
/-- all are data -/
def datas : List S → Option (List D)
  | [] => some []
  | .d x :: r => (datas r).map (x :: ·)
  | .cel _ :: _ => none
theorem datas_is {K : PySem.W.Frag} {N : Addr → Prop} {M : Ms} {H : Hp} : ∀ {vs : List V} {ss : List S} {ds : List D}, IsSA K N M H vs ss → datas ss = some ds → IsAll K N H vs ds
  | _, _, ds, .nil, e => by simp only [datas, Option.some.injEq] at e; subst e; exact .nil
  | _, _, ds, .cons (.d h) r, e => by
    simp only [datas, Option.map_eq_some_iff] at e
    obtain ⟨es, e1, e2⟩ := e
    subst e2
    exact .cons h (datas_is r e1)
  | _, _, ds, .cons (.cel h) r, e => by simp [datas] at e
def dTup (T : TAd) : TD := fun ρ μ Q => T ρ μ fun ss μ1 => ∃ ds, datas ss = some ds ∧ ds.length ≤ 1000 ∧ Q (.d (.tup ds)) μ1
instance {K : PySem.W.Frag} {t : TA} {T : TAd} [a : SdA K t T] : SdE K (tTup t) (dTup T) where
  go := by
    intro N M σ H ρ μ Qd Qv er h c
    refine a.go N M σ H ρ μ _ _ er h fun vs H1 ss μ1 k1 s1 r1 ⟨ds, e, l, q⟩ => ?_
    have hi := datas_is r1 e
    exact ⟨Nat.le_trans (by rw [hi.length]; exact l) (by decide), fun p hp => (c.step k1).tup s1 hi hp q⟩
def dLst (T : TAd) : TNd := fun ρ μ Q => T ρ μ fun ss μ1 => ∃ ds, datas ss = some ds ∧ ds.length ≤ 1000 ∧ Q ds μ1
instance sdn_lst {K : PySem.W.Frag} {t : TA} {T : TAd} [a : SdA K t T] : SdN K (tLst t) (dLst T) where
  go := by
    intro N M σ H ρ μ Qd Qv er h c
    refine a.go N M σ H ρ μ _ _ er h fun vs H1 ss μ1 k1 s1 r1 ⟨ds, e, l, q⟩ => ?_
    have hi := datas_is r1 e
    exact ⟨Nat.le_trans (by rw [hi.length]; exact l) (by decide), fun p hp => (c.step er.st k1 s1).put s1 hi hp q⟩
/-- a new list as data -/
def dOfN (T : TNd) : TD := fun ρ μ Q => T ρ μ fun ds μ' => Q (.d (.lst ds)) μ'
theorem sde_of {K : PySem.W.Frag} {t : TE} {T : TNd} (a : SdN K t T) : SdE K t (dOfN T) where
  go := fun N M σ H ρ μ Qd Qv er h c => a.go N M σ H ρ μ _ _ er h (CtN.of er.st c)
instance {K : PySem.W.Frag} {t : TA} {T : TAd} [SdA K t T] : SdE K (tLst t) (dOfN (dLst T)) := sde_of inferInstance
/-! ### tests -/
def dIf (T : TTd) (A B : TD) : TD := fun ρ μ Q => T ρ μ fun b μ1 => if b = true then A ρ μ1 Q else B ρ μ1 Q
instance {K : PySem.W.Frag} {t : TT} {ta tb : TE} {T : TTd} {A B : TD} [x : SdT K t T] [a : SdE K ta A] [b : SdE K tb B] : SdE K (tIf t ta tb) (dIf T A B) where
  go := by
    intro N M σ H ρ μ Qd Qv er h c
    refine x.go N M σ H ρ μ _ _ er h fun k H1 μ1 k1 s1 h1 => ?_
    cases k with
    | true => exact a.go N M σ H1 ρ μ1 _ _ (er.go k1 s1) h1 (c.step k1)
    | false => exact b.go N M σ H1 ρ μ1 _ _ (er.go k1 s1) h1 (c.step k1)
def dB (A : TD) : TTd := fun ρ μ Q => A ρ μ fun s μ1 => ∃ b, s = .d (.bl b) ∧ Q b μ1
theorem sdt_b {K : PySem.W.Frag} {t : TE} {A : TD} (a : SdE K t A) (N : Addr → Prop) (M : Ms) (σ : L2.St) (H : Hp) (ρ : Rho) (μ : Mu) (Qd : Bool → Mu → Prop) (Qv : Bool → Hp → Prop) (er : ER K N M σ H ρ μ) (h : dB A ρ μ Qd)
    (c : ∀ b H' μ', Kp M H H' → StR K N M H' μ' → Qd b μ' → Qv b H') : t σ H fun x H1 => ∃ k, x = .bl k ∧ Qv k H1 := by
  refine a.go N M σ H ρ μ _ _ er h fun v H1 x μ1 k1 s1 r1 ⟨b, e, q⟩ => ?_
  subst e
  cases r1 with
  | d r => exact ⟨b, r.bl_inv, c b H1 μ1 k1 s1 q⟩
instance {K : PySem.W.Frag} {t : TE} {A : TD} [a : SdE K t A] : SdT K (tTest t) (dB A) where
  go := fun N M σ H ρ μ Qd Qv er h c => sdt_b a N M σ H ρ μ Qd Qv er h c
instance {K : PySem.W.Frag} {t : TE} {A : TD} [a : SdE K t A] : SdT K (tB t) (dB A) where
  go := fun N M σ H ρ μ Qd Qv er h c => sdt_b a N M σ H ρ μ Qd Qv er h c
def dAnd (A B : TTd) : TTd := fun ρ μ Q => A ρ μ fun b μ1 => if b = true then B ρ μ1 Q else Q false μ1
instance {K : PySem.W.Frag} {t u : TT} {A B : TTd} [a : SdT K t A] [b : SdT K u B] : SdT K (tAnd t u) (dAnd A B) where
  go := by
    intro N M σ H ρ μ Qd Qv er h c
    refine a.go N M σ H ρ μ _ _ er h fun k H1 μ1 k1 s1 h1 => ?_
    cases k with
    | true => exact b.go N M σ H1 ρ μ1 _ _ (er.go k1 s1) h1 fun b H2 μ2 k2 s2 q => c b H2 μ2 (k1.trans k2) s2 q
    | false => exact c _ _ _ k1 s1 h1
def dOr (A B : TTd) : TTd := fun ρ μ Q => A ρ μ fun b μ1 => if b = true then Q true μ1 else B ρ μ1 Q
instance {K : PySem.W.Frag} {t u : TT} {A B : TTd} [a : SdT K t A] [b : SdT K u B] : SdT K (tOr t u) (dOr A B) where
  go := by
    intro N M σ H ρ μ Qd Qv er h c
    refine a.go N M σ H ρ μ _ _ er h fun k H1 μ1 k1 s1 h1 => ?_
    cases k with
    | false => exact b.go N M σ H1 ρ μ1 _ _ (er.go k1 s1) h1 fun b H2 μ2 k2 s2 q => c b H2 μ2 (k1.trans k2) s2 q
    | true => exact c _ _ _ k1 s1 h1
def dNot (A : TTd) : TTd := fun ρ μ Q => A ρ μ fun b μ1 => Q (!b) μ1
instance {K : PySem.W.Frag} {t : TT} {A : TTd} [a : SdT K t A] : SdT K (tNot t) (dNot A) where
  go := fun N M σ H ρ μ Qd Qv er h c => a.go N M σ H ρ μ _ _ er h fun k H1 μ1 k1 s1 h1 => c _ _ _ k1 s1 h1
/-- .. as values -/
def dAndV (A B : TD) : TD := fun ρ μ Q => A ρ μ fun s μ1 => ∃ b, s = .d (.bl b) ∧ if b = true then B ρ μ1 Q else Q (.d (.bl false)) μ1
instance {K : PySem.W.Frag} {t u : TE} {A B : TD} [a : SdE K t A] [b : SdE K u B] : SdE K (tAndV t u) (dAndV A B) where
  go := by
    intro N M σ H ρ μ Qd Qv er h c
    refine a.go N M σ H ρ μ _ _ er h fun v H1 x μ1 k1 s1 r1 ⟨k, e, q⟩ => ?_
    subst e
    cases r1 with
    | d r =>
      refine ⟨k, r.bl_inv, ?_⟩
      cases k with
      | true => exact b.go N M σ H1 ρ μ1 _ _ (er.go k1 s1) q (c.step k1)
      | false => exact (c.step k1).scal s1 (.bl false) q
def dOrV (A B : TD) : TD := fun ρ μ Q => A ρ μ fun s μ1 => ∃ b, s = .d (.bl b) ∧ if b = true then Q (.d (.bl true)) μ1 else B ρ μ1 Q
instance {K : PySem.W.Frag} {t u : TE} {A B : TD} [a : SdE K t A] [b : SdE K u B] : SdE K (tOrV t u) (dOrV A B) where
  go := by
    intro N M σ H ρ μ Qd Qv er h c
    refine a.go N M σ H ρ μ _ _ er h fun v H1 x μ1 k1 s1 r1 ⟨k, e, q⟩ => ?_
    subst e
    cases r1 with
    | d r =>
      refine ⟨k, r.bl_inv, ?_⟩
      cases k with
      | false => exact b.go N M σ H1 ρ μ1 _ _ (er.go k1 s1) q (c.step k1)
      | true => exact (c.step k1).scal s1 (.bl true) q
def dNotV (A : TD) : TD := fun ρ μ Q => A ρ μ fun s μ1 => ∃ b, s = .d (.bl b) ∧ Q (.d (.bl (!b))) μ1
instance {K : PySem.W.Frag} {t : TE} {A : TD} [a : SdE K t A] : SdE K (tNotV t) (dNotV A) where
  go := by
    intro N M σ H ρ μ Qd Qv er h c
    refine a.go N M σ H ρ μ _ _ er h fun v H1 x μ1 k1 s1 r1 ⟨k, e, q⟩ => ?_
    subst e
    cases r1 with
    | d r => exact ⟨k, r.bl_inv, (c.step k1).scal s1 (.bl _) q⟩
def dChain (rd rd' : RD2) (A B C : TD) : TD := fun ρ μ Q => A ρ μ fun x μ1 => B ρ μ1 fun y μ2 => rd x y μ2 fun z μ3 => ∃ b, z = .d (.bl b) ∧ if b = true then C ρ μ3 fun u μ4 => rd' y u μ4 Q else Q (.d (.bl false)) μ3
instance {K : PySem.W.Frag} {r r' : R2} {rd rd' : RD2} {ta tb tc : TE} {A B C : TD} [o : OpD K r rd] [o' : OpD K r' rd'] [a : SdE K ta A] [b : SdE K tb B] [d : SdE K tc C] : SdE K (tChain r r' ta tb tc) (dChain rd rd' A B C) where
  go := by
    intro N M σ H ρ μ Qd Qv er h c
    refine a.go N M σ H ρ μ _ _ er h fun v H1 x μ1 k1 s1 r1 h1 => ?_
    refine b.go N M σ H1 ρ μ1 _ _ (er.go k1 s1) h1 fun w H2 y μ2 k2 s2 r2 h2 => ?_
    refine o.go N M H2 μ2 v w x y _ _ s2 (r1.go (s1.go k2)) r2 h2 fun z H3 sz μ3 k3 s3 r3 ⟨k, e, q⟩ => ?_
    subst e
    have kk := (k1.trans k2).trans k3
    cases r3 with
    | d r =>
      refine ⟨k, r.bl_inv, ?_⟩
      cases k with
      | true =>
        refine d.go N M σ H3 ρ μ3 _ _ (er.go kk s3) q fun u H4 su μ4 k4 s4 r4 h4 => ?_
        exact o'.go N M H4 μ4 w u y su _ _ s4 ((r2.go (s2.go k3)).go (s3.go k4)) r4 h4 (c.step (kk.trans k4))
      | false => exact (c.step kk).scal s3 (.bl false) q
/-! ### calls of what is built in -/
def dCB (rd : RDl) (T : TAd) : TD := fun ρ μ Q => T ρ μ fun ss μ1 => rd ss μ1 Q
instance {K : PySem.W.Frag} {r : List V → Hp → VK → Prop} {rd : RDl} {t : TA} {T : TAd} [o : CallD K r rd] [a : SdA K t T] : SdE K (tCB r t) (dCB rd T) where
  go := by
    intro N M σ H ρ μ Qd Qv er h c
    refine a.go N M σ H ρ μ _ _ er h fun vs H1 ss μ1 k1 s1 r1 h1 => ?_
    exact o.go N M H1 μ1 vs ss _ _ s1 r1 h1 (c.step k1)
def dCBN (rd : List S → Mu → (List D → Mu → Prop) → Prop) (T : TAd) : TNd := fun ρ μ Q => T ρ μ fun ss μ1 => rd ss μ1 Q
instance {K : PySem.W.Frag} {r : List V → Hp → VK → Prop} {rd : List S → Mu → (List D → Mu → Prop) → Prop} {t : TA} {T : TAd} [o : CallN K r rd] [a : SdA K t T] : SdN K (tCB r t) (dCBN rd T) where
  go := by
    intro N M σ H ρ μ Qd Qv er h c
    refine a.go N M σ H ρ μ _ _ er h fun vs H1 ss μ1 k1 s1 r1 h1 => ?_
    exact o.go N M H1 μ1 vs ss _ _ s1 r1 h1 (c.step er.st k1 s1)
theorem calld_of {K : PySem.W.Frag} {r : List V → Hp → VK → Prop} {rd : List S → Mu → (List D → Mu → Prop) → Prop} (o : CallN K r rd) : CallD K r (fun ss μ Q => rd ss μ fun ds μ' => Q (.d (.lst ds)) μ') where
  go := fun N M H μ vs ss Qd Qv st r1 h c => o.go N M H μ vs ss _ _ st r1 h (CtN.of st c)
theorem opd_of {K : PySem.W.Frag} {r : R2} {rd : S → S → Mu → (List D → Mu → Prop) → Prop} (o : OpN K r rd) : OpD K r (fun x y μ Q => rd x y μ fun ds μ' => Q (.d (.lst ds)) μ') where
  go := fun N M H μ v w x y Qd Qv st r1 r2 h c => o.go N M H μ v w x y _ _ st r1 r2 h (CtN.of st c)
end Dl
set_option Elab.async false
set_option linter.all false
set_option maxRecDepth 100000
set_option maxHeartbeats 4000000
/-! ## D2. Operators and what is built in -/
namespace Dl
open PySem PySem.Spec PyProof.Rows L2 Cm
variable [Tb : Tbls]
/-! ### named readings -/
def rSub : R2 := rI0 fun i j => .int (i - j)
def rLt : R2 := rI0 fun i j => .bl (decide (i < j))
def rLe : R2 := rI0 fun i j => .bl (decide (i ≤ j))
def rGt : R2 := rI0 fun i j => .bl (decide (j < i))
def rGe : R2 := rI0 fun i j => .bl (decide (j ≤ i))
def rIsN : R2 := fun x y H Q => y = .non ∧ Q (.bl (decide (x = .non))) H
def rNotN : R2 := fun x y H Q => y = .non ∧ Q (.bl (!decide (x = .non))) H
def rNeg : V → Hp → VK → Prop := rU fun i => .int (-i)
theorem op_minus {X : Cx} : OpR X (binaryOp .Sub) rSub := op_sub
theorem op_less {X : Cx} : OpR X (compareOp .Lt) rLt := op_lt
theorem op_lesse {X : Cx} : OpR X (compareOp .LtE) rLe := op_le
theorem op_more {X : Cx} : OpR X (compareOp .Gt) rGt := op_gt
theorem op_moree {X : Cx} : OpR X (compareOp .GtE) rGe := op_ge
theorem op_isNo {X : Cx} : OpR X (compareOp .Is) rIsN := op_isN
theorem op_notNo {X : Cx} : OpR X (compareOp .IsNot) rNotN := op_notN
theorem un_minus {X : Cx} : UnR X (unaryOp .USub) rNeg := un_neg
/-! ### data as the library has it -/
def keyD' : Key × Int → PyData × PyData := fun p => Cm.pairD (p.1, V.int p.2)
mutual
def py : D → PyData
  | .non => .none | .bl b => .bool b | .int i => .int i | .str x => .str x
  | .tup ds => .tuple (pyAll ds) | .con ds => .tuple (pyAll ds) | .lst ds => .list (pyAll ds)
  | .dct kvs => .dict (kvs.map keyD')
  | .ty _ | .ref _ | .ins _ _ _ | .scr _ => .none
def pyAll : List D → List PyData
  | [] => []
  | d :: ds => py d :: pyAll ds
end
mutual
/-- made of numbers, truths, None, texts, tuples, lists, dicts of numbers -/
def plain : D → Bool
  | .non | .bl _ | .int _ | .str _ | .dct _ => true
  | .tup ds | .lst ds => plainAll ds
  | .con _ | .ty _ | .ref _ | .ins _ _ _ | .scr _ => false
def plainAll : List D → Bool
  | [] => true
  | d :: ds => plain d && plainAll ds
end
theorem pyAll_map : ∀ ds : List D, pyAll ds = ds.map py
  | [] => rfl
  | d :: ds => by simp only [pyAll, List.map_cons, pyAll_map ds]
theorem plainAll_all : ∀ ds : List D, plainAll ds = ds.all plain
  | [] => rfl
  | d :: ds => by simp only [plainAll, List.all_cons, plainAll_all ds]
section
variable {K : PySem.W.Frag} {N : Addr → Prop} {H : Hp}
mutual
/-- no dicts among it -/
def noDct : D → Bool
  | .dct _ => false
  | .tup ds | .lst ds => noDctAll ds
  | _ => true
def noDctAll : List D → Bool
  | [] => true
  | d :: ds => noDct d && noDctAll ds
end
mutual
theorem Is.dp : ∀ {d : D} {v : V}, Is K N H v d → plain d = true → noDct d = true → Dp K H v (py d)
  | _, _, .non, _, _ => .non
  | _, _, .bl b, _, _ => .bl b
  | _, _, .int i, _, _ => .int i
  | _, _, .str x, _, _ => .str x
  | .tup ds, _, .tup n h r, p, q => by
    simp only [py]
    exact .tup (SqT.of h) (IsAll.dp r (by simpa only [plain] using p) (by simpa only [noDct] using q))
  | .lst ds, _, .lst n h r, p, q => by
    simp only [py]
    exact .lst (SqL.of h) (IsAll.dp r (by simpa only [plain] using p) (by simpa only [noDct] using q))
  | _, _, .dct _ _, _, q => by simp [noDct] at q
  | _, _, .ty _, p, _ => by simp [plain] at p
  | _, _, .ref _, p, _ => by simp [plain] at p
  | _, _, .con _ _, p, _ => by simp [plain] at p
  | _, _, .ins _ _ _ _, p, _ => by simp [plain] at p
  | _, _, .scr _ _, p, _ => by simp [plain] at p
  | _, _, .scrK _, p, _ => by simp [plain] at p
theorem IsAll.dp : ∀ {ds : List D} {vs : List V}, IsAll K N H vs ds → plainAll ds = true → noDctAll ds = true → DpAll K H vs (pyAll ds)
  | _, _, .nil, _, _ => .nil
  | _, _, .cons a r, p, q => by
    simp only [plainAll, Bool.and_eq_true] at p
    simp only [noDctAll, Bool.and_eq_true] at q
    simp only [pyAll]
    exact .cons (Is.dp a p.1 q.1) (IsAll.dp r p.2 q.2)
end
mutual
theorem Is.dt {q : Addr} (hq : H q = none) : ∀ {d : D} {v : V}, Is K N H v d → plain d = true → Dt H q v (py d)
  | _, _, .non, _ => .non
  | _, _, .bl b, _ => .bl b
  | _, _, .int i, _ => .int i
  | _, _, .str x, _ => .str x
  | .tup ds, _, .tup n h r, p => by
    simp only [py]
    exact .tup (ne_of_none h hq) h (IsAll.dt hq r (by simpa only [plain] using p))
  | .lst ds, _, .lst n h r, p => by
    simp only [py]
    exact .lst (ne_of_none h hq) h (IsAll.dt hq r (by simpa only [plain] using p))
  | .dct kvs, _, .dct n h, _ => by
    simp only [py]
    have e : kvs.map keyD' = (kvs.map fun p => (p.1, V.int p.2)).map Cm.pairD := by rw [List.map_map]; rfl
    rw [e]
    exact .dct (ne_of_none h hq) h (fun x hx => by
      obtain ⟨p, _, e⟩ := List.mem_map.mp hx
      exact ⟨p.2, by rw [← e]⟩)
  | _, _, .ty _, p => by simp [plain] at p
  | _, _, .ref _, p => by simp [plain] at p
  | _, _, .con _ _, p => by simp [plain] at p
  | _, _, .ins _ _ _ _, p => by simp [plain] at p
  | _, _, .scr _ _, p => by simp [plain] at p
  | _, _, .scrK _, p => by simp [plain] at p
theorem IsAll.dt {q : Addr} (hq : H q = none) : ∀ {ds : List D} {vs : List V}, IsAll K N H vs ds → plainAll ds = true → DtAll H q vs (pyAll ds)
  | _, _, .nil, _ => .nil
  | _, _, .cons a r, p => by
    simp only [plainAll, Bool.and_eq_true] at p
    simp only [pyAll]
    exact .cons (Is.dt hq a p.1) (IsAll.dt hq r p.2)
end
end
/-! ### ints -/
def dI (f : Int → Int → D) : RD2 := fun x y μ Q => ∃ i j, x = .d (.int i) ∧ y = .d (.int j) ∧ Q (.d (f i j)) μ
section
variable {K : PySem.W.Frag}
theorem IsS.int_inv {N : Addr → Prop} {M : Ms} {H : Hp} {v : V} {i : Int} : IsS K N M H v (.d (.int i)) → v = .int i
  | .d r => r.int_inv
theorem IsS.str_inv {N : Addr → Prop} {M : Ms} {H : Hp} {v : V} {i : Str} : IsS K N M H v (.d (.str i)) → v = .str i
  | .d r => r.str_inv
theorem IsS.d_inv {N : Addr → Prop} {M : Ms} {H : Hp} {v : V} {x : D} : IsS K N M H v (.d x) → Is K N H v x
  | .d r => r
theorem IsS.cel_inv {N : Addr → Prop} {M : Ms} {H : Hp} {v : V} {k : Nat} : IsS K N M H v (.cel k) → ∃ a, v = .ref a ∧ M[k]? = some (some a)
  | .cel r => ⟨_, rfl, r⟩
theorem opd_i0 {f : Int → Int → V} {g : Int → Int → D} (hv : ∀ i j, vD (f i j) = some (g i j)) : OpD K (rI0 f) (dI g) where
  go := by
    intro N M H μ v w x y Qd Qv st r1 r2 ⟨i, j, e1, e2, q⟩ c
    subst e1 e2
    exact ⟨i, j, r1.int_inv, r2.int_inv, c.scal st (vD_is (hv i j)) q⟩
instance : OpD K rSub (dI fun i j => .int (i - j)) := opd_i0 fun _ _ => rfl
instance : OpD K rLt (dI fun i j => .bl (decide (i < j))) := opd_i0 fun _ _ => rfl
instance : OpD K rLe (dI fun i j => .bl (decide (i ≤ j))) := opd_i0 fun _ _ => rfl
instance : OpD K rGt (dI fun i j => .bl (decide (j < i))) := opd_i0 fun _ _ => rfl
instance : OpD K rGe (dI fun i j => .bl (decide (j ≤ i))) := opd_i0 fun _ _ => rfl
/-- i.natAbs below 2^200 -/
def Sm (i : Int) : Prop := i.natAbs < 2 ^ 200
def dDiv : RD2 := fun x y μ Q => ∃ i j, x = .d (.int i) ∧ y = .d (.int j) ∧ 0 < j ∧ Sm j ∧ Q (.d (.int (i / j))) μ
instance : OpD K rDiv dDiv where
  go := by
    intro N M H μ v w x y Qd Qv st r1 r2 ⟨i, j, e1, e2, h0, h1, q⟩ c
    subst e1 e2
    have e1 := r1.int_inv
    have e2 := r2.int_inv
    subst e1 e2
    exact r_div h0 (by have h1' : j.natAbs < 2 ^ 200 := h1; omega) (c.scal st (.int _) q)
def dMod : RD2 := fun x y μ Q => ∃ i j, x = .d (.int i) ∧ y = .d (.int j) ∧ 0 < j ∧ Q (.d (.int (i % j))) μ
instance : OpD K rMod dMod where
  go := by
    intro N M H μ v w x y Qd Qv st r1 r2 ⟨i, j, e1, e2, h0, q⟩ c
    subst e1 e2
    exact ⟨i, j, r1.int_inv, r2.int_inv, h0, c.scal st (.int _) q⟩
def dPow : RD2 := fun x y μ Q => ∃ i j, x = .d (.int i) ∧ y = .d (.int j) ∧ 0 ≤ j ∧ j ≤ 1000000 ∧ i.natAbs < 2 ^ 64 ∧ Q (.d (.int (i ^ j.toNat))) μ
instance : OpD K rPow dPow where
  go := by
    intro N M H μ v w x y Qd Qv st r1 r2 ⟨i, j, e1, e2, h0, h1, h2, q⟩ c
    subst e1 e2
    exact ⟨i, j, r1.int_inv, r2.int_inv, ⟨h0, h1, h2⟩, c.scal st (.int _) q⟩
/-- + -/
def dAdd : RD2 := fun x y μ Q => (∃ i j, x = .d (.int i) ∧ y = .d (.int j) ∧ Q (.d (.int (i + j))) μ) ∨
  (∃ i j, x = .d (.str i) ∧ y = .d (.str j) ∧ i.length + j.length ≤ sizeLine ∧ Q (.d (.str (i ++ j))) μ) ∨
  (∃ i j, x = .d (.tup i) ∧ y = .d (.tup j) ∧ i.length + j.length ≤ 1000 ∧ Q (.d (.tup (i ++ j))) μ) ∨
  (∃ i j, x = .d (.lst i) ∧ y = .d (.lst j) ∧ i.length + j.length ≤ 1000 ∧ Q (.d (.lst (i ++ j))) μ)
instance : OpD K (rPlus K) dAdd where
  go := by
    intro N M H μ v w x y Qd Qv st r1 r2 h c
    rcases h with ⟨i, j, e1, e2, q⟩ | ⟨i, j, e1, e2, l, q⟩ | ⟨i, j, e1, e2, l, q⟩ | ⟨i, j, e1, e2, l, q⟩ <;> subst e1 e2
    · have e1 := r1.int_inv
      have e2 := r2.int_inv
      subst e1 e2
      exact r_plusI (c.scal st (.int _) q)
    · have e1 := r1.str_inv
      have e2 := r2.str_inv
      subst e1 e2
      exact r_plusS l (c.scal st (.str _) q)
    · obtain ⟨a, vs, rfl, na, ha, ra⟩ := r1.d_inv.tup_inv
      obtain ⟨b, ws, rfl, nb, hb, rb⟩ := r2.d_inv.tup_inv
      have l' : vs.length + ws.length ≤ sizeLine := by
        rw [ra.length, rb.length]
        exact Nat.le_trans l (by decide)
      refine r_plusT ha hb l' ?_ ?_ ?_
      · intro e; subst e
        cases ra
        exact c.same st (.d (.tup nb hb rb)) (by simpa using q)
      · intro _ e; subst e
        cases rb
        exact c.same st (.d (.tup na ha ra)) (by simpa using q)
      · intro _ _ p hp
        exact c.tup st (ra.append rb) hp q
    · obtain ⟨a, vs, rfl, na, ha, ra⟩ := r1.d_inv.lst_inv
      obtain ⟨b, ws, rfl, nb, hb, rb⟩ := r2.d_inv.lst_inv
      exact r_plusL ha hb (by rw [ra.length, rb.length]; exact l) fun p hp => (CtN.of st c).put st (ra.append rb) hp q
def dAddN : S → S → Mu → (List D → Mu → Prop) → Prop := fun x y μ Q => ∃ i j, x = .d (.lst i) ∧ y = .d (.lst j) ∧ i.length + j.length ≤ 1000 ∧ Q (i ++ j) μ
instance : OpN K (rPlus K) dAddN where
  go := by
    intro N M H μ v w x y Qd Qv st r1 r2 h c
    obtain ⟨i, j, e1, e2, l, q⟩ := h
    subst e1 e2
    obtain ⟨a, vs, rfl, na, ha, ra⟩ := r1.d_inv.lst_inv
    obtain ⟨b, ws, rfl, nb, hb, rb⟩ := r2.d_inv.lst_inv
    exact r_plusL ha hb (by rw [ra.length, rb.length]; exact l) fun p hp => c.put st (ra.append rb) hp q
theorem IsAll.replicate {N : Addr → Prop} {H : Hp} {vs : List V} {ds : List D} (h : IsAll K N H vs ds) : ∀ n : Nat, IsAll K N H (List.replicate n vs).flatten (List.replicate n ds).flatten
  | 0 => .nil
  | n + 1 => by
    rw [List.replicate_succ, List.replicate_succ, List.flatten_cons, List.flatten_cons]
    exact h.append (IsAll.replicate h n)
/-- * -/
def dMul : RD2 := fun x y μ Q => (∃ i j, x = .d (.int i) ∧ y = .d (.int j) ∧ Sm i ∧ Sm j ∧ Q (.d (.int (i * j))) μ) ∨
  (∃ ds k, x = .d (.lst ds) ∧ y = .d (.int k) ∧ 0 ≤ k ∧ k ≤ 1000 ∧ ds.length ≤ 1000 ∧ Q (.d (.lst (List.replicate k.toNat ds).flatten)) μ)
instance : OpD K (rTimes K) dMul where
  go := by
    intro N M H μ v w x y Qd Qv st r1 r2 h c
    rcases h with ⟨i, j, e1, e2, h1, h2, q⟩ | ⟨i, j, e1, e2, h0, h1, l, q⟩ <;> subst e1 e2
    · have e1 := r1.int_inv
      have e2 := r2.int_inv
      subst e1 e2
      exact r_timesI h1 h2 (c.scal st (.int _) q)
    · have e2 := r2.int_inv
      subst e2
      obtain ⟨a, vs, rfl, na, ha, ra⟩ := r1.d_inv.lst_inv
      exact r_timesL ha h0 h1 (by rw [ra.length]; exact l) fun p hp => (CtN.of st c).put st (ra.replicate _) hp q
def dNeg : RD1 := fun x μ Q => ∃ i, x = .d (.int i) ∧ Q (.d (.int (-i))) μ
instance : UnD K rNeg dNeg where
  go := by
    intro N M H μ v x Qd Qv st r1 ⟨i, e, q⟩ c
    subst e
    exact ⟨i, r1.int_inv, c.scal st (.int _) q⟩
/-! ### == and != -/
/-- data that may be compared -/
def eqOk (d : D) : Prop := plain d = true ∧ noDct d = true ∧ SeqAt.shaped (py d) = true
def eqD (a b : D) : Bool := PyData.eqv (py a) (py b)
def flD : D → Bool
  | .non | .bl _ | .int _ | .str _ => true
  | _ => false
def fV : D → V
  | .bl b => .bl b | .int i => .int i | .str x => .str x | _ => .non
theorem Is.flat {N : Addr → Prop} {H : Hp} {v : V} {d : D} (h : Is K N H v d) (f : flD d = true) : v = fV d ∧ flatV v = true := by
  cases h <;> first | exact ⟨rfl, rfl⟩ | (simp [flD] at f)
/-- both are numbers, truths, texts, None -/
def scOk (a b : D) : Prop := flD a = true ∧ flD b = true ∧ scal (fV a) (fV b) = true
def scEq (a b : D) : Bool := decide (fV a = fV b)
def dEq : RD2 := fun x y μ Q => ∃ a b, x = .d a ∧ y = .d b ∧ ((scOk a b ∧ Q (.d (.bl (scEq a b))) μ) ∨ (eqOk a ∧ eqOk b ∧ Q (.d (.bl (eqD a b))) μ))
def dNe : RD2 := fun x y μ Q => ∃ a b, x = .d a ∧ y = .d b ∧ ((scOk a b ∧ Q (.d (.bl (!scEq a b))) μ) ∨ (eqOk a ∧ eqOk b ∧ Q (.d (.bl (!eqD a b))) μ))
instance : OpD K (rSame K) dEq where
  go := by
    intro N M H μ v w x y Qd Qv st r1 r2 ⟨a, b, e1, e2, h⟩ c
    subst e1 e2
    rcases h with ⟨⟨f1, f2, sc⟩, q⟩ | ⟨h1, h2, q⟩
    · obtain ⟨ea, _⟩ := r1.d_inv.flat f1
      obtain ⟨eb, _⟩ := r2.d_inv.flat f2
      subst ea eb
      exact .inl ⟨sc, c.scal st (.bl _) q⟩
    · exact .inr ⟨py a, py b, r1.d_inv.dp h1.1 h1.2.1, r2.d_inv.dp h2.1 h2.2.1, h1.2.2, h2.2.2, c.scal st (.bl _) q⟩
instance : OpD K (rUnlike K) dNe where
  go := by
    intro N M H μ v w x y Qd Qv st r1 r2 ⟨a, b, e1, e2, h⟩ c
    subst e1 e2
    rcases h with ⟨⟨f1, f2, sc⟩, q⟩ | ⟨h1, h2, q⟩
    · obtain ⟨ea, _⟩ := r1.d_inv.flat f1
      obtain ⟨eb, _⟩ := r2.d_inv.flat f2
      subst ea eb
      exact .inl ⟨sc, c.scal st (.bl _) q⟩
    · exact .inr ⟨py a, py b, r1.d_inv.dp h1.1 h1.2.1, r2.d_inv.dp h2.1 h2.2.1, h1.2.2, h2.2.2, c.scal st (.bl _) q⟩
/-- is None -/
def isNon : S → Bool
  | .d .non => true
  | _ => false
theorem IsS.non_iff {N : Addr → Prop} {M : Ms} {H : Hp} {v : V} {s : S} (h : IsS K N M H v s) : decide (v = .non) = isNon s := by
  cases h with
  | d r => cases r <;> rfl
  | cel r => rfl
def dIsN : RD2 := fun x y μ Q => y = .d .non ∧ Q (.d (.bl (isNon x))) μ
def dNotN : RD2 := fun x y μ Q => y = .d .non ∧ Q (.d (.bl (!isNon x))) μ
instance : OpD K rIsN dIsN where
  go := by
    intro N M H μ v w x y Qd Qv st r1 r2 ⟨e, q⟩ c
    subst e
    exact ⟨r2.d_inv.non_inv, by rw [r1.non_iff]; exact c.scal st (.bl _) q⟩
instance : OpD K rNotN dNotN where
  go := by
    intro N M H μ v w x y Qd Qv st r1 r2 ⟨e, q⟩ c
    subst e
    exact ⟨r2.d_inv.non_inv, by rw [r1.non_iff]; exact c.scal st (.bl _) q⟩
/-! ### in -/
def inD (a : D) (ds : List D) : Bool := inV (fV a) (ds.map fV)
theorem IsAll.flat {N : Addr → Prop} {H : Hp} : ∀ {vs : List V} {ds : List D}, IsAll K N H vs ds → ds.all flD = true → vs = ds.map fV ∧ vs.all flatV = true
  | _, _, .nil, _ => ⟨rfl, rfl⟩
  | _, _, .cons a r, f => by
    simp only [List.all_cons, Bool.and_eq_true] at f
    obtain ⟨e1, f1⟩ := a.flat f.1
    obtain ⟨e2, f2⟩ := IsAll.flat r f.2
    subst e1 e2
    exact ⟨rfl, by rw [List.all_cons, f1, f2]; rfl⟩
def items : D → Option (List D)
  | .tup ds | .con ds | .lst ds => some ds
  | _ => none
theorem Is.items_inv {N : Addr → Prop} {H : Hp} {v : V} {d : D} {ds : List D} (h : Is K N H v d) (e : items d = some ds) : ∃ a vs, v = .ref a ∧ (SqL K H a vs ∨ SqT K H a vs) ∧ IsAll K N H vs ds := by
  cases d with
  | tup es =>
    have e' : es = ds := Option.some.inj e
    subst e'
    obtain ⟨a, vs, e, _, h, r⟩ := h.tup_inv
    exact ⟨a, vs, e, .inr (SqT.of h), r⟩
  | con es =>
    have e' : es = ds := Option.some.inj e
    subst e'
    obtain ⟨a, vs, e, h, r⟩ := h.con_inv
    exact ⟨a, vs, e, .inr h, r⟩
  | lst es =>
    have e' : es = ds := Option.some.inj e
    subst e'
    obtain ⟨a, vs, e, _, h, r⟩ := h.lst_inv
    exact ⟨a, vs, e, .inl (SqL.of h), r⟩
  | _ => exact absurd e (by intro z; cases z)
def dIn (neg : Bool) : RD2 := fun x y μ Q => ∃ a b ds, x = .d a ∧ y = .d b ∧ items b = some ds ∧ flD a = true ∧ ds.all flD = true ∧ Q (.d (.bl (if neg then !inD a ds else inD a ds))) μ
instance {neg : Bool} : OpD K (rIn K neg) (dIn neg) where
  go := by
    intro N M H μ v w x y Qd Qv st r1 r2 ⟨a, b, ds, e1, e2, hi, f1, f2, q⟩ c
    subst e1 e2
    obtain ⟨p, vs, rfl, hs, r⟩ := r2.d_inv.items_inv hi
    obtain ⟨ea, fa⟩ := r1.d_inv.flat f1
    obtain ⟨eb, fb⟩ := r.flat f2
    refine ⟨p, vs, rfl, hs, fa, fb, ?_⟩
    subst ea eb
    exact c.scal st (.bl _) q
/-! ### items -/
def dIx : RD2 := fun x y μ Q => ∃ i, y = .d (.int i) ∧ ((∃ a ds d, x = .d a ∧ items a = some ds ∧ atI ds i = some d ∧ Q (.d d) μ) ∨
  (∃ k ds d, x = .cel k ∧ μ[k]? = some (some (.lst ds)) ∧ atI ds i = some d ∧ Q (.d d) μ) ∨ (∃ ns n, x = .d (.scr ns) ∧ atI ns i = some n ∧ Q (.d (.int n)) μ) ∨
  (∃ z c, x = .d (.str z) ∧ z.length ≤ sizeLine ∧ atI z.cps.toList i = some c ∧ Q (.d (.str ⟨#[c]⟩)) μ))
theorem IsAll.at {N : Addr → Prop} {H : Hp} {vs : List V} {ds : List D} {i : Int} {d : D} (h : IsAll K N H vs ds) (e : atI ds i = some d) : ∃ v, atI vs i = some v ∧ Is K N H v d := by
  unfold atI at *
  rw [h.length]
  cases hj : ixN ds.length i with
  | none => rw [hj] at e; cases e
  | some j =>
    rw [hj] at e
    obtain ⟨v, h1, h2⟩ := h.getD (i := j) (d := d) e
    exact ⟨v, h1, h2⟩
theorem atI_map {α β : Type} {f : α → β} {xs : List α} {i : Int} {x : α} (h : atI xs i = some x) : atI (xs.map f) i = some (f x) := by
  unfold atI at *
  rw [List.length_map]
  cases hj : ixN xs.length i with
  | none => rw [hj] at h; cases h
  | some j =>
    rw [hj] at h
    show (xs.map f)[j]? = _
    rw [List.getElem?_map]
    rw [show xs[j]? = some x from h]
    rfl
instance : OpD K (rIx K) dIx where
  go := by
    intro N M H μ v w x y Qd Qv st r1 r2 ⟨i, e2, h⟩ c
    subst e2
    have e2 := r2.int_inv
    subst e2
    rcases h with ⟨a, ds, d, rfl, hi, hd, q⟩ | ⟨k, ds, d, rfl, hk, hd, q⟩ | ⟨ns, n, rfl, hn, q⟩ | ⟨z, cc, rfl, hz, hc, q⟩
    · obtain ⟨p, vs, rfl, hs, r⟩ := r1.d_inv.items_inv hi
      obtain ⟨u, hu, ru⟩ := r.at hd
      rcases hs with hs | hs
      · exact .inl ⟨p, vs, i, u, rfl, rfl, hs, hu, c.scal st ru q⟩
      · exact .inr (.inl ⟨p, vs, i, u, rfl, rfl, hs, hu, c.scal st ru q⟩)
    · obtain ⟨p, rfl, hp⟩ := r1.cel_inv
      obtain ⟨cl, h1, h2⟩ := st.cell k p hp
      rw [hk] at h1
      cases h1
      obtain ⟨vs, hv, r⟩ := h2
      obtain ⟨u, hu, ru⟩ := r.at hd
      exact .inl ⟨p, vs, i, u, rfl, rfl, SqL.of hv, hu, c.scal st ru q⟩
    · obtain ⟨p, rfl, hs⟩ := r1.d_inv.scr_inv
      exact .inl ⟨p, _, i, _, rfl, rfl, hs, atI_map hn, c.scal st (.int _) q⟩
    · have e1 := r1.str_inv
      subst e1
      exact .inr (.inr ⟨z, i, cc, rfl, rfl, hz, hc, c.scal st (.str _) q⟩)
end
end Dl
set_option Elab.async false
set_option linter.all false
set_option maxRecDepth 100000
set_option maxHeartbeats 4000000
/-! ## D3. More of what is built in; methods; fields; slices -/
namespace Dl
open PySem PySem.Spec PyProof.Rows L2 Cm
variable [Tb : Tbls]
/-- a list's items: data, a cell -/
def lstS : S → Mu → Option (List D)
  | .d (.lst ds), _ => some ds
  | .d (.scr ns), _ => some (ns.map .int)
  | .cel k, μ => match μ[k]? with
    | some (some (.lst ds)) => some ds
    | _ => none
  | _, _ => none
def seqS : S → Mu → Option (List D)
  | .d (.tup ds), _ => some ds
  | .d (.con ds), _ => some ds
  | x, μ => lstS x μ
section
variable {K : PySem.W.Frag}
theorem lstS_inv {N : Addr → Prop} {M : Ms} {H : Hp} {μ : Mu} {v : V} {x : S} {ds : List D} (st : StR K N M H μ) (r : IsS K N M H v x) (e : lstS x μ = some ds) :
    ∃ a vs, v = .ref a ∧ SqL K H a vs ∧ IsAll K N H vs ds := by
  cases r with
  | @d v x r =>
    cases x with
    | lst es =>
      have e' : es = ds := Option.some.inj e
      subst e'
      obtain ⟨a, vs, e, _, h, r⟩ := r.lst_inv
      exact ⟨a, vs, e, SqL.of h, r⟩
    | scr ns =>
      have e' : ns.map .int = ds := Option.some.inj e
      subst e'
      obtain ⟨a, e, h⟩ := r.scr_inv
      exact ⟨a, _, e, h, IsAll.ints ns⟩
    | _ => exact absurd e (by intro z; cases z)
  | @cel a k r =>
    obtain ⟨c, h1, h2⟩ := st.cell k a r
    simp only [lstS, h1] at e
    cases c with
    | lst es =>
      have e' : es = ds := Option.some.inj e
      subst e'
      obtain ⟨vs, h, r'⟩ := h2
      exact ⟨a, vs, rfl, SqL.of h, r'⟩
    | obj C ns es => cases e
theorem seqS_inv {N : Addr → Prop} {M : Ms} {H : Hp} {μ : Mu} {v : V} {x : S} {ds : List D} (st : StR K N M H μ) (r : IsS K N M H v x) (e : seqS x μ = some ds) :
    ∃ a vs, v = .ref a ∧ (SqL K H a vs ∨ SqT K H a vs) ∧ IsAll K N H vs ds := by
  have main : lstS x μ = some ds → ∃ a vs, v = .ref a ∧ (SqL K H a vs ∨ SqT K H a vs) ∧ IsAll K N H vs ds := fun e => by
    obtain ⟨a, vs, e1, h, q⟩ := lstS_inv st r e
    exact ⟨a, vs, e1, .inl h, q⟩
  cases x with
  | cel k => exact main e
  | d x =>
    cases x with
    | tup es =>
      have e' : es = ds := Option.some.inj e
      subst e'
      obtain ⟨a, vs, e, _, h, r⟩ := r.d_inv.tup_inv
      exact ⟨a, vs, e, .inr (SqT.of h), r⟩
    | con es =>
      have e' : es = ds := Option.some.inj e
      subst e'
      obtain ⟨a, vs, e, h, r⟩ := r.d_inv.con_inv
      exact ⟨a, vs, e, .inr h, r⟩
    | _ => exact main e
theorem isSA1 {N : Addr → Prop} {M : Ms} {H : Hp} {vs : List V} {x : S} (r : IsSA K N M H vs [x]) : ∃ v, vs = [v] ∧ IsS K N M H v x := by
  cases r with
  | cons a r => cases r; exact ⟨_, rfl, a⟩
theorem isSA2 {N : Addr → Prop} {M : Ms} {H : Hp} {vs : List V} {x y : S} (r : IsSA K N M H vs [x, y]) : ∃ v w, vs = [v, w] ∧ IsS K N M H v x ∧ IsS K N M H w y := by
  cases r with
  | cons a r =>
    cases r with
    | cons b r => cases r; exact ⟨_, _, rfl, a, b⟩
def dLen : RDl := fun ss μ Q => ∃ x, ss = [x] ∧ ((∃ ds, seqS x μ = some ds ∧ Q (.d (.int ds.length)) μ) ∨ ∃ z : Str, x = .d (.str z) ∧ z.length ≤ sizeLine ∧ Q (.d (.int z.length)) μ)
instance : CallD K (Cm.rLen K) dLen where
  go := by
    intro N M H μ vs ss Qd Qv st r ⟨x, e, h⟩ c
    subst e
    (obtain ⟨v, rfl, r0⟩ := isSA1 r; clear r; have r := r0; clear r0)
    rcases h with ⟨ds, e, q⟩ | ⟨z, rfl, hz, q⟩
    · obtain ⟨a, vs, rfl, h, ra⟩ := seqS_inv st r e
      refine ⟨_, vs.length, rfl, ?_, ?_⟩
      · rcases h with h | h
        · exact .inl ⟨_, h, rfl⟩
        · exact .inr ⟨_, h, rfl⟩
      · rw [ra.length]
        exact c.scal st (.int _) q
    · have e := r.str_inv
      subst e
      exact ⟨_, _, rfl, ⟨hz, rfl⟩, c.scal st (.int _) q⟩
def dMin2 : RDl := fun ss μ Q => ∃ i j, ss = [.d (.int i), .d (.int j)] ∧ Q (.d (.int (if j < i then j else i))) μ
def dMax2 : RDl := fun ss μ Q => ∃ i j, ss = [.d (.int i), .d (.int j)] ∧ Q (.d (.int (if j > i then j else i))) μ
instance : CallD K rMin2 dMin2 where
  go := by
    intro N M H μ vs ss Qd Qv st r ⟨i, j, e, q⟩ c
    subst e
    obtain ⟨v, w, rfl, r1, r2⟩ := isSA2 r
    exact ⟨i, j, by rw [r1.int_inv, r2.int_inv], c.scal st (.int _) q⟩
instance : CallD K rMax2 dMax2 where
  go := by
    intro N M H μ vs ss Qd Qv st r ⟨i, j, e, q⟩ c
    subst e
    obtain ⟨v, w, rfl, r1, r2⟩ := isSA2 r
    exact ⟨i, j, by rw [r1.int_inv, r2.int_inv], c.scal st (.int _) q⟩
def rInt1 : List V → Hp → VK → Prop := fun xs H Q => (∃ i, xs = [.int i] ∧ Q (.int i) H) ∨ ∃ k, xs = [.bl k] ∧ Q (.int (if k then 1 else 0)) H
theorem call_inted {X : Cx} : CallR X (.type "int") rInt1 := call_int1
def dInt1 : RDl := fun ss μ Q => (∃ i, ss = [.d (.int i)] ∧ Q (.d (.int i)) μ) ∨ ∃ k : Bool, ss = [.d (.bl k)] ∧ Q (.d (.int (if k then 1 else 0))) μ
instance : CallD K rInt1 dInt1 where
  go := by
    intro N M H μ vs ss Qd Qv st r h c
    rcases h with ⟨i, e, q⟩ | ⟨k, e, q⟩ <;> subst e <;> (obtain ⟨v, rfl, r0⟩ := isSA1 r; clear r; have r := r0; clear r0)
    · exact .inl ⟨i, by rw [r.int_inv], c.scal st (.int _) q⟩
    · exact .inr ⟨k, by rw [r.d_inv.bl_inv], c.scal st (.int _) q⟩
def rStrI : List V → Hp → VK → Prop := fun xs H Q => ∃ i, xs = [.int i] ∧ i.natAbs.log2 < 1920 ∧ Q (.str (toString i)) H
theorem call_strI {X : Cx} : CallR X (.type "str") rStrI := call_str_int
def dStrI : RDl := fun ss μ Q => ∃ i : Int, ss = [.d (.int i)] ∧ Sm i ∧ Q (.d (.str (toString i))) μ
instance : CallD K rStrI dStrI where
  go := by
    intro N M H μ vs ss Qd Qv st r ⟨i, e, hz, q⟩ c
    subst e
    (obtain ⟨v, rfl, r0⟩ := isSA1 r; clear r; have r := r0; clear r0)
    have e := r.int_inv
    subst e
    exact r_strI hz (c.scal st (.str _) q)
def dSum : RDl := fun ss μ Q => ∃ (x : S) (ns : List Int), ss = [x] ∧ lstS x μ = some (ns.map .int) ∧ Q (.d (.int ns.sum)) μ
instance : CallD K (rSum K) dSum where
  go := by
    intro N M H μ vs ss Qd Qv st r ⟨x, ns, e, h, q⟩ c
    subst e
    (obtain ⟨v, rfl, r0⟩ := isSA1 r; clear r; have r := r0; clear r0)
    obtain ⟨a, vs, rfl, hs, ra⟩ := lstS_inv st r h
    have e := ra.ints_inv
    subst e
    exact ⟨a, ns, rfl, hs, c.scal st (.int _) q⟩
def dMaxL : RDl := fun ss μ Q => ∃ (x : S) (ns : List Int), ss = [x] ∧ lstS x μ = some (ns.map .int) ∧ 0 < ns.length ∧ ∀ m, m ∈ ns → (∀ y, y ∈ ns → y ≤ m) → Q (.d (.int m)) μ
instance : CallD K (rMax K) dMaxL where
  go := by
    intro N M H μ vs ss Qd Qv st r ⟨x, ns, e, h, l, q⟩ c
    subst e
    (obtain ⟨v, rfl, r0⟩ := isSA1 r; clear r; have r := r0; clear r0)
    obtain ⟨a, vs, rfl, hs, ra⟩ := lstS_inv st r h
    have e := ra.ints_inv
    subst e
    exact ⟨a, ns, rfl, hs, l, fun m h1 h2 => c.scal st (.int _) (q m h1 h2)⟩
def dMinL : RDl := fun ss μ Q => ∃ (x : S) (ns : List Int), ss = [x] ∧ lstS x μ = some (ns.map .int) ∧ 0 < ns.length ∧ ∀ m, m ∈ ns → (∀ y, y ∈ ns → m ≤ y) → Q (.d (.int m)) μ
instance : CallD K (rMin K) dMinL where
  go := by
    intro N M H μ vs ss Qd Qv st r ⟨x, ns, e, h, l, q⟩ c
    subst e
    (obtain ⟨v, rfl, r0⟩ := isSA1 r; clear r; have r := r0; clear r0)
    obtain ⟨a, vs, rfl, hs, ra⟩ := lstS_inv st r h
    have e := ra.ints_inv
    subst e
    exact ⟨a, ns, rfl, hs, l, fun m h1 h2 => c.scal st (.int _) (q m h1 h2)⟩
def dAll : RDl := fun ss μ Q => ∃ (x : S) (bs : List Bool), ss = [x] ∧ lstS x μ = some (bs.map .bl) ∧ Q (.d (.bl (bs.all id))) μ
instance : CallD K (rAll K) dAll where
  go := by
    intro N M H μ vs ss Qd Qv st r ⟨x, bs, e, h, q⟩ c
    subst e
    (obtain ⟨v, rfl, r0⟩ := isSA1 r; clear r; have r := r0; clear r0)
    obtain ⟨a, vs, rfl, hs, ra⟩ := lstS_inv st r h
    have e := ra.bls_inv
    subst e
    exact ⟨a, bs, rfl, hs, c.scal st (.bl _) q⟩
def dAny : RDl := fun ss μ Q => ∃ (x : S) (bs : List Bool), ss = [x] ∧ lstS x μ = some (bs.map .bl) ∧ Q (.d (.bl (bs.any id))) μ
instance : CallD K (rAny K) dAny where
  go := by
    intro N M H μ vs ss Qd Qv st r ⟨x, bs, e, h, q⟩ c
    subst e
    (obtain ⟨v, rfl, r0⟩ := isSA1 r; clear r; have r := r0; clear r0)
    obtain ⟨a, vs, rfl, hs, ra⟩ := lstS_inv st r h
    have e := ra.bls_inv
    subst e
    exact ⟨a, bs, rfl, hs, c.scal st (.bl _) q⟩
/-- list(x) -/
def dListOf : List S → Mu → (List D → Mu → Prop) → Prop := fun ss μ Q => ∃ x ds, ss = [x] ∧ seqS x μ = some ds ∧ Q ds μ
instance rListOf_n : CallN K (rListOf K) dListOf where
  go := by
    intro N M H μ vs ss Qd Qv st r ⟨x, ds, e, h, q⟩ c
    subst e
    (obtain ⟨v, rfl, r0⟩ := isSA1 r; clear r; have r := r0; clear r0)
    obtain ⟨a, vs, rfl, hs, ra⟩ := seqS_inv st r h
    exact ⟨a, vs, rfl, hs, fun l hl => c.put st ra hl q⟩
instance : CallD K (rListOf K) (fun ss μ Q => dListOf ss μ fun ds μ' => Q (.d (.lst ds)) μ') := calld_of rListOf_n
/-- tuple(x) -/
def dTupOf : RDl := fun ss μ Q => ∃ x ds, ss = [x] ∧ (lstS x μ = some ds ∨ x = .d (.tup ds)) ∧ Q (.d (.tup ds)) μ
instance : CallD K (rTupOf K) dTupOf where
  go := by
    intro N M H μ vs ss Qd Qv st r ⟨x, ds, e, h, q⟩ c
    subst e
    (obtain ⟨v, rfl, r0⟩ := isSA1 r; clear r; have r := r0; clear r0)
    rcases h with h | h
    · obtain ⟨a, vs, rfl, hs, ra⟩ := lstS_inv st r h
      exact ⟨a, vs, rfl, .inl ⟨hs, fun l hl => c.tup st ra hl q⟩⟩
    · subst h
      obtain ⟨a, vs, rfl, n, hs, ra⟩ := r.d_inv.tup_inv
      exact ⟨a, vs, rfl, .inr ⟨SqT.of hs, c.same st r q⟩⟩
/-- sorted ints -/
def leI (a b : Int) : Bool := decide (a ≤ b)
def sortI (ns : List Int) : List Int := ns.mergeSort leI
theorem sortI_perm (ns : List Int) : (sortI ns).Perm ns := List.mergeSort_perm ns leI
theorem sortI_le (ns : List Int) : (sortI ns).Pairwise (· ≤ ·) := by
  have h := List.pairwise_mergeSort (le := leI) (fun a b c h1 h2 => by simp only [leI, decide_eq_true_eq] at *; omega) (fun a b => by simp only [leI, Bool.or_eq_true, decide_eq_true_eq]; omega) ns
  refine h.imp ?_
  intro a b h
  simpa only [leI, decide_eq_true_eq] using h
theorem sortI_uniq {ns ms : List Int} (h : ms.Perm ns) (p : ms.Pairwise (· ≤ ·)) : ms = sortI ns :=
  List.Perm.eq_of_pairwise (fun a b _ _ h1 h2 => Int.le_antisymm h1 h2) p (sortI_le ns) (h.trans (sortI_perm ns).symm)
def dSorted : List S → Mu → (List D → Mu → Prop) → Prop := fun ss μ Q => ∃ (x : S) (ns : List Int), ss = [x] ∧ lstS x μ = some (ns.map .int) ∧ ns.length < 64 ∧ Q ((sortI ns).map .int) μ
instance rSorted_n : CallN K (rSorted K) dSorted where
  go := by
    intro N M H μ vs ss Qd Qv st r ⟨x, ns, e, h, l, q⟩ c
    subst e
    (obtain ⟨v, rfl, r0⟩ := isSA1 r; clear r; have r := r0; clear r0)
    obtain ⟨a, vs, rfl, hs, ra⟩ := lstS_inv st r h
    have e := ra.ints_inv
    subst e
    refine ⟨a, ns, rfl, hs, l, fun ns' p hp1 hp2 hn => ?_⟩
    have e := sortI_uniq hp1 hp2
    subst e
    exact c.put st (IsAll.ints _) hn q
instance : CallD K (rSorted K) (fun ss μ Q => dSorted ss μ fun ds μ' => Q (.d (.lst ds)) μ') := calld_of rSorted_n
/-- repr -/
def rReprA : List V → Hp → VK → Prop := fun xs H Q => ∃ (x : V) (d : PyData), xs = [x] ∧ (∀ p, H p = none → Dt H p x d) ∧ Fit 60 60000 d ∧ Q (.str d.shown) H
theorem call_reprA {X : Cx} (hg : X.A.guards = some []) (hu : X.A.units + 64 < cLine) : CallR X (.builtin "repr") rReprA := by
  intro pins s σ H xs us Q I r h
  obtain ⟨x, d, rfl, hd, f, q⟩ := h
  exact call_repr hg hu s.heap.objs.size pins s σ H [x] us Q I r ⟨x, d, rfl, hd _ (I.hok.fresh (Nat.le_refl _)), f, q⟩
/-- what an argument shows, a list that changes too -/
def seenS (s : S) (μ : Mu) : Option D := match s with
  | .d d => some d
  | .cel k => match μ[k]? with
    | some (some (.lst ds)) => some (.lst ds)
    | some (some (.obj C ns ds)) => some (.ins C ns ds)
    | _ => none
theorem seen_is {N : Addr → Prop} {M : Ms} {H : Hp} {μ : Mu} {v : V} {s : S} {d : D} (st : StR K N M H μ) (r : IsS K N M H v s) (e : seenS s μ = some d) : ∃ N', Is K N' H v d := by
  cases r with
  | d r =>
    simp only [seenS, Option.some.injEq] at e
    subst e
    exact ⟨N, r⟩
  | @cel a k hm =>
    obtain ⟨cc, h1, h2⟩ := st.cell _ _ hm
    simp only [seenS, h1] at e
    refine ⟨fun b => N b ∧ b ≠ a, ?_⟩
    have na : ¬ (N a ∧ a ≠ a) := fun z => z.2 rfl
    cases cc with
    | lst ds =>
      simp only [Option.some.injEq] at e
      subst e
      obtain ⟨us, hu, ru⟩ := h2
      exact .lst na hu (ru.go (Go.less fun b z => z.1))
    | obj C ns ds =>
      simp only [Option.some.injEq] at e
      subst e
      obtain ⟨dx, us, hu, l, ru⟩ := h2
      exact .ins na hu l (ru.go (Go.less fun b z => z.1))
def dRepr : RDl := fun ss μ Q => ∃ s d, ss = [s] ∧ seenS s μ = some d ∧ plain d = true ∧ Fit 60 60000 (py d) ∧ Q (.d (.str (py d).shown)) μ
instance : CallD K rReprA dRepr where
  go := by
    intro N M H μ vs ss Qd Qv st r ⟨s, d, e, e2, p, f, q⟩ c
    subst e
    obtain ⟨v, rfl, r0⟩ := isSA1 r
    obtain ⟨N', r1⟩ := seen_is st r0 e2
    exact ⟨v, py d, rfl, fun a ha => r1.dt ha p, f, c.scal st (.str _) q⟩
/-! isinstance -/
def isK (T : String) (d : D) : Bool := isD T (py d)
/-- of a kind of data, whatever it holds -/
def kdB : D → Bool
  | .non => true
  | .bl _ => true
  | .int _ => true
  | .str _ => true
  | .lst _ => true
  | .tup _ => true
  | .dct _ => true
  | _ => false
theorem Is.kind {N : Addr → Prop} {H : Hp} {v : V} {d : D} (h : Is K N H v d) (p : kdB d = true) : TyX K H v (.type (kindD (py d))) := by
  cases h with
  | non => exact .base .non
  | bl b => exact .base (.bl b)
  | int i => exact .base (.int i)
  | str x => exact .base (.str x)
  | lst _ e _ => simp only [py, kindD]; exact .base (.lst e)
  | tup _ e _ => simp only [py, kindD]; exact .base (.tup e)
  | dct _ e => simp only [py, kindD]; exact .base (.dK e)
  | _ => simp [kdB] at p
def dIsi0 (K : PySem.W.Frag) : RDl := fun ss μ Q => ∃ d, (∃ T, ss = [.d d, .d (.ty T)] ∧ kdB d = true ∧ (T = "int" ∨ T = "bool" ∨ T = "str" ∨ T = "tuple" ∨ T = "list" ∨ T = "dict") ∧ Q (.d (.bl (isK T d))) μ) ∨
  (∃ C, ss = [.d d, .d (.ref C)] ∧ IsiC K C ∧ ((kdB d = true ∧ Q (.d (.bl false)) μ) ∨ ∃ ns ds, d = .ins C ns ds ∧ Q (.d (.bl true)) μ))
/-- .. or of a list that changes -/
def dIsi (K : PySem.W.Frag) : RDl := fun ss μ Q => dIsi0 K ss μ Q ∨ ∃ k ds T, ss = [.cel k, .d (.ty T)] ∧ μ[k]? = some (some (.lst ds)) ∧ (T = "int" ∨ T = "bool" ∨ T = "str" ∨ T = "tuple" ∨ T = "list" ∨ T = "dict") ∧ Q (.d (.bl (isD T (.list [])))) μ
instance : CallD K (rIsi K) (dIsi K) where
  go := by
    intro N M H μ vs ss Qd Qv st r h c
    rcases h with ⟨d, h⟩ | ⟨k, ds, T, e, hk, hT, q⟩
    · rcases h with ⟨T, e, p, hT, q⟩ | ⟨C, e, hC, h⟩ <;> subst e <;> obtain ⟨v, w, rfl, r1, r2⟩ := isSA2 r
      · have e2 := r2.d_inv.ty_inv
        subst e2
        exact ⟨v, .ty T, _, .type T, _, rfl, .ty T, r1.d_inv.kind p, kit_isD (py d) hT, c.scal st (.bl _) q⟩
      · have e2 := r2.d_inv.ref_inv
        subst e2
        rcases h with ⟨p, q⟩ | ⟨ns, ds, e, q⟩
        · exact ⟨_, _, _, _, _, rfl, .own C, r1.d_inv.kind p, hC.kn _ (kind_in (py d)), c.scal st (.bl _) q⟩
        · subst e
          obtain ⟨a, dx, vs, rfl, na, ha, l, ra⟩ := r1.d_inv.ins_inv
          exact r_isiO hC ha (c.scal st (.bl _) q)
    · subst e
      obtain ⟨v, w, rfl, r1, r2⟩ := isSA2 r
      have e2 := r2.d_inv.ty_inv
      subst e2
      cases r1 with
      | cel hm =>
        obtain ⟨cc, h1, h2⟩ := st.cell _ _ hm
        rw [hk] at h1
        cases h1
        obtain ⟨us, hu, ru⟩ := h2
        exact ⟨_, .ty T, _, .type T, _, rfl, .ty T, .base (.lst hu), kit_isD (.list []) hT, c.scal st (.bl _) q⟩
/-! ### methods -/
class MtD (K : PySem.W.Frag) (T : String) (r : V → List V → Hp → VK → Prop) (rd : outParam (S → List S → Mu → QD → Prop)) : Prop where
  go : ∀ N M H μ v x vs ss (Qd : QD) (Qv : VK), StR K N M H μ → IsS K N M H v x → IsSA K N M H vs ss → rd x ss μ Qd → Ct K N M H Qd Qv → r v vs H Qv
/-- of the type T -/
def tyS (T : String) (x : S) (μ : Mu) : Prop := (T = "list" ∧ ∃ ds, lstS x μ = some ds) ∨ (T = "str" ∧ ∃ z, x = .d (.str z))
theorem tyS_ok {N : Addr → Prop} {M : Ms} {H : Hp} {μ : Mu} {v : V} {x : S} {T : String} (st : StR K N M H μ) (r : IsS K N M H v x) (h : tyS T x μ) : tyV K T v H := by
  rcases h with ⟨rfl, ds, e⟩ | ⟨rfl, z, rfl⟩
  · obtain ⟨a, vs, rfl, h, _⟩ := lstS_inv st r e
    exact Or.inl ⟨rfl, _, h⟩
  · have e := r.str_inv
    subst e
    exact rfl
def dBM (T : String) (rd : S → List S → Mu → QD → Prop) (A : TD) (B : TAd) : TD := fun ρ μ Q => A ρ μ fun x μ1 => tyS T x μ1 ∧ B ρ μ1 fun xs μ2 => rd x xs μ2 Q
instance {T : String} {r : V → List V → Hp → VK → Prop} {rd : S → List S → Mu → QD → Prop} {to : TE} {t : TA} {A : TD} {B : TAd} [o : MtD K T r rd] [a : SdE K to A] [b : SdA K t B] : SdE K (tBM K T r to t) (dBM T rd A B) where
  go := by
    intro N M σ H ρ μ Qd Qv er h c
    refine a.go N M σ H ρ μ _ _ er h fun v H1 x μ1 k1 s1 r1 ⟨hty, h1⟩ => ⟨tyS_ok s1 r1 hty, ?_⟩
    refine b.go N M σ H1 ρ μ1 _ _ (er.go k1 s1) h1 fun vs H2 xs μ2 k2 s2 r2 h2 => ?_
    exact o.go N M H2 μ2 v x vs xs _ _ s2 (r1.go (s1.go k2)) r2 h2 (c.step (k1.trans k2))
def dBM0 (T : String) (rd : S → List S → Mu → QD → Prop) (A : TD) : TD := fun ρ μ Q => A ρ μ fun x μ1 => tyS T x μ1 ∧ rd x [] μ1 Q
instance {T : String} {r : V → List V → Hp → VK → Prop} {rd : S → List S → Mu → QD → Prop} {to : TE} {A : TD} [o : MtD K T r rd] [a : SdE K to A] : SdE K (tBM0 K T r to) (dBM0 T rd A) where
  go := by
    intro N M σ H ρ μ Qd Qv er h c
    refine a.go N M σ H ρ μ _ _ er h fun v H1 x μ1 k1 s1 r1 ⟨hty, h1⟩ => ⟨tyS_ok s1 r1 hty, ?_⟩
    exact o.go N M H1 μ1 v x [] [] _ _ s1 r1 .nil h1 (c.step k1)
def dAppend : S → List S → Mu → QD → Prop := fun x ss μ Q => ∃ k ds d, x = .cel k ∧ ss = [.d d] ∧ μ[k]? = some (some (.lst ds)) ∧ ds.length < 1000 ∧ Q (.d .non) (μ.set k (some (.lst (ds ++ [d]))))
theorem wr_lst {N : Addr → Prop} {M : Ms} {H : Hp} {μ : Mu} {a : Addr} {k : Nat} {vs : List V} {ds : List D} (st : StR K N M H μ) (ha : M[k]? = some (some a)) (r : IsAll K N H vs ds) :
    StR K N M (upd H a (.lst vs)) (μ.set k (some (.lst ds))) ∧ Kp M H (upd H a (.lst vs)) := by
  have hN : N a := st.sub a (inM.of ha)
  exact st.write ha ⟨vs, upd_same, r.go fun b u n h => ⟨n, by rw [upd_ne (fun e => n (by rw [e]; exact hN))]; exact h⟩⟩
instance : MtD K "list" rAppend dAppend where
  go := by
    intro N M H μ v x vs ss Qd Qv st r rs ⟨k, ds, d, e1, e2, h, l, q⟩ c
    subst e1 e2
    obtain ⟨a, rfl, ha⟩ := r.cel_inv
    obtain ⟨w, rfl, rw_⟩ := isSA1 rs
    obtain ⟨cl, h1, h2⟩ := st.cell k a ha
    rw [h] at h1
    cases h1
    obtain ⟨us, hu, ru⟩ := h2
    obtain ⟨s2, k2⟩ := wr_lst st ha (ru.append (.cons rw_.d_inv .nil))
    exact ⟨a, us, w, rfl, rfl, hu, by rw [ru.length]; exact Nat.lt_trans l (by decide), c _ _ _ _ k2 s2 (.d .non) q⟩
def dInsert : S → List S → Mu → QD → Prop := fun x ss μ Q => ∃ k ds i d, x = .cel k ∧ ss = [.d (.int i), .d d] ∧ μ[k]? = some (some (.lst ds)) ∧ ds.length < 1000 ∧ 0 ≤ i ∧ i < 2 ^ 63 ∧ Q (.d .non) (μ.set k (some (.lst (ds.take i.toNat ++ [d] ++ ds.drop i.toNat))))
instance : MtD K "list" rInsert dInsert where
  go := by
    intro N M H μ v x vs ss Qd Qv st r rs ⟨k, ds, i, d, e1, e2, h, l, h0, h1', q⟩ c
    subst e1 e2
    obtain ⟨a, rfl, ha⟩ := r.cel_inv
    obtain ⟨w, u, rfl, r1, r2⟩ := isSA2 rs
    have e := r1.int_inv
    subst e
    obtain ⟨cl, h1, h2⟩ := st.cell k a ha
    rw [h] at h1
    cases h1
    obtain ⟨us, hu, ru⟩ := h2
    obtain ⟨s2, k2⟩ := wr_lst st ha (((ru.take i.toNat).append (.cons r2.d_inv .nil)).append (ru.drop i.toNat))
    exact r_ins hu (by rw [ru.length]; omega) h0 h1' (c _ _ _ _ k2 s2 (.d .non) q)
def dPopAt : S → List S → Mu → QD → Prop := fun x ss μ Q => ∃ k ds i d, x = .cel k ∧ ss = [.d (.int i)] ∧ μ[k]? = some (some (.lst ds)) ∧ 0 ≤ i ∧ i < 2 ^ 63 ∧ ds[i.toNat]? = some d ∧ Q (.d d) (μ.set k (some (.lst (ds.eraseIdx i.toNat))))
instance : MtD K "list" rPopAt dPopAt where
  go := by
    intro N M H μ v x vs ss Qd Qv st r rs ⟨k, ds, i, d, e1, e2, h, h0, h1', hd, q⟩ c
    subst e1 e2
    obtain ⟨a, rfl, ha⟩ := r.cel_inv
    (obtain ⟨w, rfl, r1⟩ := isSA1 rs; clear rs)
    have e := r1.int_inv
    subst e
    obtain ⟨cl, h1, h2⟩ := st.cell k a ha
    rw [h] at h1
    cases h1
    obtain ⟨us, hu, ru⟩ := h2
    obtain ⟨w, hw, rw_⟩ := ru.getD hd
    have hi : i < us.length := by
      have := (List.getElem?_eq_some_iff.mp hw).1
      omega
    refine r_popAt hu h0 hi h1' fun y hy => ?_
    rw [hw] at hy
    cases hy
    obtain ⟨s2, k2⟩ := wr_lst st ha (ru.eraseIdx i.toNat)
    exact c _ _ _ _ k2 s2 (.d (rw_.go (st.go k2))) q
def dJoin : S → List S → Mu → QD → Prop := fun x ss μ Q => ∃ (z : Str) (y : S) (ys : List Str), x = .d (.str z) ∧ ss = [y] ∧ seqS y μ = some (ys.map .str) ∧ (ys.map (·.length)).sum + ys.length * z.length ≤ 16777216 ∧ Q (.d (.str (Txt.join z ys))) μ
instance : MtD K "str" (rJoin K) dJoin where
  go := by
    intro N M H μ v x vs ss Qd Qv st r rs ⟨z, y, ys, e1, e2, h, l, q⟩ c
    subst e1 e2
    (obtain ⟨w, rfl, r1⟩ := isSA1 rs; clear rs)
    have e := r.str_inv
    subst e
    obtain ⟨a, us, rfl, hs, ru⟩ := seqS_inv st r1 h
    have e := ru.strs_inv
    subst e
    exact ⟨z, a, ys, rfl, rfl, hs, l, c.scal st (.str _) q⟩
def dUpper : S → List S → Mu → QD → Prop := fun x ss μ Q => ∃ z, x = .d (.str z) ∧ ss = [] ∧ z.length ≤ 5592405 ∧ Q (.d (.str (Txt.upper z))) μ
instance : MtD K "str" rUpper dUpper where
  go := by
    intro N M H μ v x vs ss Qd Qv st r rs ⟨z, e1, e2, l, q⟩ c
    subst e1 e2
    have e := r.str_inv
    subst e
    cases rs
    exact ⟨z, rfl, rfl, l, c.scal st (.str _) q⟩
/-! ### slices -/
class SdO (K : PySem.W.Frag) (t : TO) (T : outParam (Rho → Mu → (Option Int → Mu → Prop) → Prop)) : Prop where
  go : ∀ N M σ H ρ μ (Qd : Option Int → Mu → Prop) (Qv : Option Int → Hp → Prop), ER K N M σ H ρ μ → T ρ μ Qd →
    (∀ b H' μ', Kp M H H' → StR K N M H' μ' → Qd b μ' → Qv b H') → t σ H Qv
def dNoPart : Rho → Mu → (Option Int → Mu → Prop) → Prop := fun _ μ Q => Q none μ
instance : SdO K tNoPart dNoPart where
  go := fun N M σ H ρ μ Qd Qv er h c => c none H μ Kp.refl er.st h
def dPart (A : TD) : Rho → Mu → (Option Int → Mu → Prop) → Prop := fun ρ μ Q => A ρ μ fun x μ1 => ∃ i, x = .d (.int i) ∧ Q (some i) μ1
instance {t : TE} {A : TD} [a : SdE K t A] : SdO K (tPart t) (dPart A) where
  go := by
    intro N M σ H ρ μ Qd Qv er h c
    refine a.go N M σ H ρ μ _ _ er h fun v H1 x μ1 k1 s1 r1 ⟨i, e, h1⟩ => ?_
    subst e
    exact ⟨i, r1.int_inv, c _ _ _ k1 s1 h1⟩
class SlD (K : PySem.W.Frag) (r : V → Option Int → Option Int → Hp → VK → Prop) (rd : outParam (S → Option Int → Option Int → Mu → QD → Prop)) : Prop where
  go : ∀ N M H μ v x lo hi (Qd : QD) (Qv : VK), StR K N M H μ → IsS K N M H v x → rd x lo hi μ Qd → Ct K N M H Qd Qv → r v lo hi H Qv
def dSl (rd : S → Option Int → Option Int → Mu → QD → Prop) (A : TD) (L U : Rho → Mu → (Option Int → Mu → Prop) → Prop) : TD := fun ρ μ Q => A ρ μ fun x μ1 => L ρ μ1 fun l μ2 => U ρ μ2 fun u μ3 => rd x l u μ3 Q
instance {r : V → Option Int → Option Int → Hp → VK → Prop} {rd : S → Option Int → Option Int → Mu → QD → Prop} {te : TE} {tl th : TO} {A : TD} {L U : Rho → Mu → (Option Int → Mu → Prop) → Prop} [o : SlD K r rd] [a : SdE K te A] [l : SdO K tl L] [u : SdO K th U] : SdE K (L2.tSl r te tl th) (dSl rd A L U) where
  go := by
    intro N M σ H ρ μ Qd Qv er h c
    refine a.go N M σ H ρ μ _ _ er h fun v H1 x μ1 k1 s1 r1 h1 => ?_
    refine l.go N M σ H1 ρ μ1 _ _ (er.go k1 s1) h1 fun lo H2 μ2 k2 s2 h2 => ?_
    refine u.go N M σ H2 ρ μ2 _ _ (er.go (k1.trans k2) s2) h2 fun hi H3 μ3 k3 s3 h3 => ?_
    exact o.go N M H3 μ3 v x lo hi _ _ s3 ((r1.go (s1.go k2)).go (s2.go k3)) h3 (c.step ((k1.trans k2).trans k3))
def cutD (xs : List D) (lo hi : Option Int) : List D := (xs.drop (HT.sIx xs.length 0 lo)).take (HT.sIx xs.length xs.length hi - HT.sIx xs.length 0 lo)
theorem IsAll.cut {N : Addr → Prop} {H : Hp} {vs : List V} {ds : List D} (h : IsAll K N H vs ds) (lo hi : Option Int) : IsAll K N H (cutV vs lo hi) (cutD ds lo hi) := by
  unfold cutV cutD
  rw [h.length]
  exact (h.drop _).take _
theorem cutD_whole {ds : List D} {lo hi : Option Int} (e1 : HT.sIx ds.length 0 lo = 0) (e2 : HT.sIx ds.length ds.length hi = ds.length) : cutD ds lo hi = ds := by
  unfold cutD
  rw [e1, e2, List.drop_zero, Nat.sub_zero, List.take_length]
def dCut : S → Option Int → Option Int → Mu → QD → Prop := fun x lo hi μ Q => (∃ ds, x = .d (.tup ds) ∧ Q (.d (.tup (cutD ds lo hi))) μ) ∨ (∃ ds, lstS x μ = some ds ∧ Q (.d (.lst (cutD ds lo hi))) μ) ∨
  ∃ z, x = .d (.str z) ∧ z.length ≤ sizeLine ∧ Q (.d (.str (cutS z lo hi))) μ
instance : SlD K (rCut K) dCut where
  go := by
    intro N M H μ v x lo hi Qd Qv st r h c
    rcases h with ⟨ds, rfl, q⟩ | ⟨ds, e, q⟩ | ⟨z, rfl, hz, q⟩
    · obtain ⟨a, vs, rfl, na, ha, ra⟩ := r.d_inv.tup_inv
      refine r_cutT ha ?_ ?_
      · rintro ⟨e1, e2⟩
        rw [ra.length] at e1 e2
        rw [cutD_whole e1 e2] at q
        exact c.same st r q
      · intro _ p hp
        exact c.tup st (ra.cut lo hi) hp q
    · obtain ⟨a, vs, rfl, ha, ra⟩ := lstS_inv st r e
      exact .inl ⟨a, vs, rfl, ha, fun p hp => (CtN.of st c).put st (ra.cut lo hi) hp q⟩
    · have e := r.str_inv
      subst e
      exact r_cutS hz (c.scal st (.str _) q)
/-! ### fields -/
def lookD : List Str → List D → Str → Option D
  | n :: ns, d :: ds, f => if f = n then some d else lookD ns ds f
  | _, _, _ => none
theorem lookD_ok {N : Addr → Prop} {H : Hp} : ∀ {ns : List Str} {vs : List V} {ds : List D} {f : Str} {d : D}, IsAll K N H vs ds → lookD ns ds f = some d → ∃ v, (ns.zip vs).lookup f = some v ∧ Is K N H v d
  | [], _, _, _, _, _, e => by simp [lookD] at e
  | _ :: _, _, _, _, _, .nil, e => by simp [lookD] at e
  | n :: ns, _, _, f, d, .cons a r, e => by
    rw [List.zip_cons_cons, List.lookup_cons]
    unfold lookD at e
    by_cases h : f = n
    · rw [if_pos h] at e
      cases e
      subst h
      exact ⟨_, by simp, a⟩
    · rw [if_neg h] at e
      obtain ⟨v, h1, h2⟩ := lookD_ok r e
      exact ⟨v, by rw [show (f == n) = false from beq_eq_false_iff_ne.mpr h]; exact h1, h2⟩
def dFld (K : PySem.W.Frag) (A : TD) (f : Str) : TD := fun ρ μ Q => A ρ μ fun x μ1 => ∃ C ns ds d, (x = .d (.ins C ns ds) ∨ ∃ k, x = .cel k ∧ μ1[k]? = some (some (.obj C ns ds))) ∧ Cls K C ∧ NoAttr K C f ∧ lookD ns ds f = some d ∧ Q (.d d) μ1
instance {t : TE} {A : TD} {f : Str} [a : SdE K t A] : SdE K (tFld K t f) (dFld K A f) where
  go := by
    intro N M σ H ρ μ Qd Qv er h c
    refine a.go N M σ H ρ μ _ _ er h fun v H1 x μ1 k1 s1 r1 ⟨C, ns, ds, d, hx, c1, c2, hl, q⟩ => ?_
    rcases hx with rfl | ⟨k, rfl, hk⟩
    · obtain ⟨p, dx, vs, rfl, na, ha, l, ra⟩ := r1.d_inv.ins_inv
      obtain ⟨u, hu, ru⟩ := lookD_ok ra hl
      exact ⟨p, C, dx, _, u, rfl, ha, c1, c2, hu, (c.step k1).scal s1 ru q⟩
    · obtain ⟨p, rfl, hp⟩ := r1.cel_inv
      obtain ⟨cl, h1, h2⟩ := s1.cell k p hp
      rw [hk] at h1
      cases h1
      obtain ⟨dx, vs, ha, l, ra⟩ := h2
      obtain ⟨u, hu, ru⟩ := lookD_ok ra hl
      exact ⟨p, C, dx, _, u, rfl, ha, c1, c2, hu, (c.step k1).scal s1 ru q⟩
end
end Dl
set_option Elab.async false
set_option linter.all false
set_option maxRecDepth 100000
set_option maxHeartbeats 4000000
/-! ## D4. Statements -/
namespace Dl
open PySem PySem.Spec PyProof.Rows L2 Cm
variable [Tb : Tbls]
abbrev NxD := Rho → Mu → Prop
structure EndsD where
  nx : NxD
  rt : S → Mu → Prop
  rtN : List D → Mu → Prop
  bs : Nat := 0
  bk : NxD := fun _ _ => False
  ct : NxD := fun _ _ => False
abbrev TSd := EndsD → Rho → Mu → Prop
/-- where one started: N, M, the heap -/
structure En where
  N : Addr → Prop
  M : Ms
  H : Hp
structure SR (K : PySem.W.Frag) (E : En) (N : Addr → Prop) (M : Ms) (σ : L2.St) (H : Hp) (ρ : Rho) (μ : Mu) : Prop where
  er : ER K N M σ H ρ μ
  sub0 : ∀ a, inM E.M a → E.N a
  trk0 : ∀ b, E.N b → ∃ o, E.H b = some o
  kp : Kp E.M E.H H
  ext : ∃ X : Ms, M = E.M ++ X ∧ ∀ a, some a ∈ X → E.H a = none
  nn : ∀ b, N b → E.N b ∨ E.H b = none
  n0 : ∀ b, E.N b → N b
structure EndsR (K : PySem.W.Frag) (E : En) (De : Ends) (Dd : EndsD) : Prop where
  bs : Dd.bs = E.M.length
  nx : ∀ N M σ H ρ μ, SR K E N M σ H ρ μ → Dd.nx ρ μ → De.nx σ H
  bk : ∀ N M σ H ρ μ, SR K E N M σ H ρ μ → Dd.bk ρ μ → De.bk σ H
  ct : ∀ N M σ H ρ μ, SR K E N M σ H ρ μ → Dd.ct ρ μ → De.ct σ H
  rt : ∀ N M σ H ρ μ v s, SR K E N M σ H ρ μ → IsS K N M H v s → Dd.rt s μ → De.rt v H
  rtN : ∀ N M σ H ρ μ l vs ds, SR K E (Nl N l) M σ H ρ μ → ¬ N l → E.H l = none → ¬ inM M l → H l = some (.lst vs) → IsAll K (Nl N l) H vs ds → Dd.rtN ds μ → De.rt (.ref l) H
class SdS (K : PySem.W.Frag) (t : TS) (T : outParam TSd) : Prop where
  go : ∀ E N M σ H ρ μ (De : Ends) (Dd : EndsD), SR K E N M σ H ρ μ → T Dd ρ μ → EndsR K E De Dd → t De σ H
section
variable {K : PySem.W.Frag} {E : En} {N N' : Addr → Prop} {M M' : Ms} {σ σ' : L2.St} {H H' : Hp} {ρ ρ' : Rho} {μ μ' : Mu} {De : Ends} {Dd : EndsD}
theorem SR.kpE (s : SR K E N M σ H ρ μ) (k : Kp M H H') : Kp E.M E.H H' := fun b o n h => by
  refine k b o ?_ (s.kp b o n h)
  intro z
  obtain ⟨X, e, hX⟩ := s.ext
  rw [e] at z
  rcases inM_app z with z | z
  · exact n z
  · rw [hX b z] at h; cases h
/-- the heap moves, the cells stay -/
theorem SR.go (s : SR K E N M σ H ρ μ) (k : Kp M H H') (er : ER K N M σ' H' ρ' μ') : SR K E N M σ' H' ρ' μ' := ⟨er, s.sub0, s.trk0, s.kpE k, s.ext, s.nn, s.n0⟩
theorem SR.exp (s : SR K E N M σ H ρ μ) (k : Kp M H H') (st : StR K N M H' μ') : SR K E N M σ H' ρ μ' := s.go k (s.er.go k st)
def SR.here (_ : SR K E N M σ H ρ μ) : En := ⟨N, M, H⟩
theorem SR.start (s : SR K E N M σ H ρ μ) : SR K ⟨N, M, H⟩ N M σ H ρ μ := ⟨s.er, s.er.st.sub, s.er.st.trk, Kp.refl, ⟨[], by simp, fun _ z => nomatch z⟩, fun b z => .inl z, fun b z => z⟩
theorem SR.trans (s : SR K E N M σ H ρ μ) (t : SR K ⟨N, M, H⟩ N' M' σ' H' ρ' μ') : SR K E N' M' σ' H' ρ' μ' := by
  have none_ : ∀ a, H a = none → E.H a = none := fun a h => by
    cases e : E.H a with
    | none => rfl
    | some o =>
      by_cases z : inM E.M a
      · obtain ⟨o', e'⟩ := s.er.st.trk a (s.n0 a (s.sub0 a z))
        rw [e'] at h; cases h
      · rw [s.kp a o z e] at h; cases h
  refine ⟨t.er, s.sub0, s.trk0, s.kpE t.kp, ?_, fun b z => ?_, fun b z => t.n0 b (s.n0 b z)⟩
  · obtain ⟨X, e, hX⟩ := s.ext
    obtain ⟨Y, e2, hY⟩ := t.ext
    simp only at e2
    refine ⟨X ++ Y, by rw [e2, e, List.append_assoc], fun a z => ?_⟩
    rcases List.mem_append.mp z with z | z
    · exact hX a z
    · exact none_ a (hY a z)
  · rcases t.nn b z with z | z
    · exact s.nn b z
    · exact .inr (none_ b z)
theorem SR.go0 (s : SR K E N M σ H ρ μ) : Go E.N E.H N H := fun b o n h => by
  refine ⟨fun z => ?_, s.kp b o (fun z => n (s.sub0 b z)) h⟩
  rcases s.nn b z with z | z
  · exact n z
  · rw [z] at h; cases h
theorem EndsR.here (e : EndsR K E De Dd) (s : SR K E N M σ H ρ μ) : EndsR K ⟨N, M, H⟩ De { Dd with bs := μ.length } := by
  refine ⟨s.er.st.len.symm, fun N' M' σ' H' ρ' μ' t q => e.nx _ _ _ _ _ _ (s.trans t) q, fun N' M' σ' H' ρ' μ' t q => e.bk _ _ _ _ _ _ (s.trans t) q, fun N' M' σ' H' ρ' μ' t q => e.ct _ _ _ _ _ _ (s.trans t) q,
    fun N' M' σ' H' ρ' μ' v x t r q => e.rt _ _ _ _ _ _ _ _ (s.trans t) r q, fun N' M' σ' H' ρ' μ' l vs ds t n h0 hM h r q => e.rtN _ _ _ _ _ _ _ _ _ (s.trans t) n ?_ hM h r q⟩
  cases z : E.H l with
  | none => rfl
  | some o =>
    have h0' : H l = none := h0
    by_cases zz : inM E.M l
    · obtain ⟨o', e'⟩ := s.er.st.trk l (s.n0 l (s.sub0 l zz))
      rw [e'] at h0'; cases h0'
    · rw [s.kp l o zz z] at h0'; cases h0'
/-! ### simple statements -/
def dNext : TSd := fun D ρ μ => D.nx ρ μ
instance : SdS K tNext dNext where
  go := fun E N M σ H ρ μ De Dd s h e => e.nx _ _ _ _ _ _ s h
def dSeq (A B : TSd) : TSd := fun D ρ μ => A { nx := B D, rt := D.rt, rtN := D.rtN, bs := D.bs, bk := D.bk, ct := D.ct } ρ μ
instance {t u : TS} {A B : TSd} [a : SdS K t A] [b : SdS K u B] : SdS K (tSeq t u) (dSeq A B) where
  go := fun E N M σ H ρ μ De Dd s h e => a.go E N M σ H ρ μ _ _ s h ⟨e.bs, fun N M σ H ρ μ s q => b.go E N M σ H ρ μ _ _ s q e, e.bk, e.ct, e.rt, e.rtN⟩
def dNever : TSd := fun _ _ _ => False
instance : SdS K tNever dNever where
  go := fun E N M σ H ρ μ De Dd s h e => h.elim
def dBreak : TSd := fun D ρ μ => D.bk ρ μ
instance : SdS K tBreak dBreak where
  go := fun E N M σ H ρ μ De Dd s h e => e.bk _ _ _ _ _ _ s h
def dCont : TSd := fun D ρ μ => D.ct ρ μ
instance : SdS K tCont dCont where
  go := fun E N M σ H ρ μ De Dd s h e => e.ct _ _ _ _ _ _ s h
def dRet (A : TD) : TSd := fun D ρ μ => A ρ μ D.rt
instance {t : TE} {A : TD} [a : SdE K t A] : SdS K (tRet t) (dRet A) where
  go := fun E N M σ H ρ μ De Dd s h e => a.go N M σ H ρ μ _ _ s.er h fun v H' x μ' k st r q => e.rt _ _ _ _ _ _ _ _ (s.exp k st) r q
def dRetN : TSd := fun D _ μ => D.rt (.d .non) μ
instance : SdS K tRetN dRetN where
  go := fun E N M σ H ρ μ De Dd s h e => e.rt _ _ _ _ _ _ _ _ s (.d .non) h
/-- return of a new list as such -/
def tRetF (te : TE) : TS := tRet te
theorem ps_retF {X : Cx} {e : Expr} {te : TE} {pos : Pos} (he : PE X e te) : PS X (.Return (some e) pos) (tRetF te) := ps_ret he
def dRetF (A : TNd) : TSd := fun D ρ μ => A ρ μ D.rtN
theorem SR.newl {l : Addr} {vs : List V} (s : SR K E N M σ H ρ μ) (k : Kp M H H') (hl : H l = none) (st : StR K (Nl N l) M H' μ') (h : H' l = some (.lst vs)) : SR K E (Nl N l) M σ H' ρ μ' ∧ ¬ N l ∧ E.H l = none ∧ ¬ inM M l := by
  have nl : ¬ N l := s.er.st.notN hl
  have hE : E.H l = none := by
    cases z : E.H l with
    | none => rfl
    | some o =>
      by_cases zz : inM E.M l
      · exact absurd (s.n0 l (s.sub0 l zz)) nl
      · rw [s.kp l o zz z] at hl; cases hl
  have g : Go N H (Nl N l) H' := fun b o n q => by
    refine ⟨fun z => z.elim n fun e => ?_, k b o (fun z => n (s.er.st.sub b z)) q⟩
    rw [e, hl] at q; cases q
  refine ⟨⟨⟨s.er.env.go g, st⟩, s.sub0, s.trk0, s.kpE k, s.ext, fun b z => ?_, fun b z => .inl (s.n0 b z)⟩, nl, hE, fun z => nl (s.er.st.sub l z)⟩
  rcases z with z | z
  · exact s.nn b z
  · rw [z]; exact .inr hE
instance {t : TE} {A : TNd} [a : SdN K t A] : SdS K (tRetF t) (dRetF A) where
  go := by
    intro E N M σ H ρ μ De Dd s h e
    refine a.go N M σ H ρ μ _ _ s.er h fun l H' vs ds μ' k hl h' st r q => ?_
    obtain ⟨s', n, hE, hM⟩ := s.newl k hl st h'
    exact e.rtN _ _ _ _ _ _ _ _ _ s' n hE hM h' r q
def dDrop (A : TD) : TSd := fun D ρ μ => A ρ μ fun _ μ' => D.nx ρ μ'
instance {t : TE} {A : TD} [a : SdE K t A] : SdS K (tDrop t) (dDrop A) where
  go := fun E N M σ H ρ μ De Dd s h e => a.go N M σ H ρ μ _ _ s.er h fun v H' x μ' k st r q => e.nx _ _ _ _ _ _ (s.exp k st) q
def dIfS (C : TTd) (A B : TSd) : TSd := fun D ρ μ => C ρ μ fun b μ' => if b = true then A D ρ μ' else B D ρ μ'
instance {c : TT} {t u : TS} {C : TTd} {A B : TSd} [x : SdT K c C] [a : SdS K t A] [b : SdS K u B] : SdS K (tIfS c t u) (dIfS C A B) where
  go := by
    intro E N M σ H ρ μ De Dd s h e
    refine x.go N M σ H ρ μ _ _ s.er h fun k H' μ' kp st q => ?_
    cases k with
    | true => exact a.go E N M σ H' ρ μ' _ _ (s.exp kp st) q e
    | false => exact b.go E N M σ H' ρ μ' _ _ (s.exp kp st) q e
/-! ### targets -/
abbrev TGd := S → Rho → Mu → NxD → Prop
abbrev TGsd := List D → Rho → Mu → NxD → Prop
/-- only these slots change -/
def Only_ (is : List Nat) (σ σ' : L2.St) : Prop := σ'.length = σ.length ∧ ∀ i, i ∉ is → σ'[i]? = σ[i]?
class SdG (K : PySem.W.Frag) (g : TG) (is : outParam (List Nat)) (T : outParam TGd) : Prop where
  go : ∀ N M σ H ρ μ v s (Qd : NxD) (Qv : L2.St → Hp → Prop), ER K N M σ H ρ μ → IsS K N M H v s → T s ρ μ Qd →
    (∀ σ' H' ρ' μ', Kp M H H' → ER K N M σ' H' ρ' μ' → Only_ is σ σ' → Qd ρ' μ' → Qv σ' H') → g v σ H Qv
class SdGs (K : PySem.W.Frag) (g : TGs) (is : outParam (List Nat)) (T : outParam TGsd) : Prop where
  go : ∀ N M σ H ρ μ vs ds (Qd : NxD) (Qv : L2.St → Hp → Prop), ER K N M σ H ρ μ → IsAll K N H vs ds → T ds ρ μ Qd →
    (∀ σ' H' ρ' μ', Kp M H H' → ER K N M σ' H' ρ' μ' → Only_ is σ σ' → Qd ρ' μ' → Qv σ' H') → g vs σ H Qv
theorem EnvR.set {i : Nat} {v : V} {x : S} (e : EnvR K N M σ H ρ) (r : IsS K N M H v x) : EnvR K N M (σ.set i (some v)) H (ρ.set i (some x)) := by
  refine ⟨by rw [List.length_set, List.length_set]; exact e.len, fun j s h => ?_⟩
  by_cases hj : i = j
  · subst hj
    have hi : i < ρ.length := by
      have := (List.getElem?_eq_some_iff.mp h).1
      rwa [List.length_set] at this
    rw [List.getElem?_set_self hi] at h
    have h' : x = s := Option.some.inj (Option.some.inj h)
    subst h'
    exact ⟨v, by rw [List.getElem?_set_self (by rw [e.len]; exact hi)], r⟩
  · rw [List.getElem?_set_ne hj] at h
    obtain ⟨u, h1, h2⟩ := e.at_ j s h
    exact ⟨u, by rw [List.getElem?_set_ne hj]; exact h1, h2⟩
theorem only_set {i : Nat} {v : V} : Only_ [i] σ (σ.set i (some v)) := ⟨by rw [List.length_set], fun j hj => List.getElem?_set_ne (fun e => hj (by rw [e]; exact List.mem_singleton_self _))⟩
def dName (i : Nat) : TGd := fun s ρ μ Q => Q (ρ.set i (some s)) μ
instance {i : Nat} : SdG K (gName i) [i] (dName i) where
  go := fun N M σ H ρ μ v s Qd Qv er r h c => c _ _ _ _ Kp.refl ⟨er.env.set r, er.st⟩ only_set h
def dGnil : TGsd := fun ds ρ μ Q => ds = [] ∧ Q ρ μ
instance : SdGs K gNil [] dGnil where
  go := by
    intro N M σ H ρ μ vs ds Qd Qv er r ⟨e, h⟩ c
    subst e
    cases r
    exact ⟨rfl, c _ _ _ _ Kp.refl er ⟨rfl, fun _ _ => rfl⟩ h⟩
def dGcons (A : TGd) (B : TGsd) : TGsd := fun ds ρ μ Q => ∃ x r, ds = x :: r ∧ A (.d x) ρ μ fun ρ' μ' => B r ρ' μ' Q
instance {g : TG} {gs : TGs} {is js : List Nat} {A : TGd} {B : TGsd} [a : SdG K g is A] [b : SdGs K gs js B] : SdGs K (gCons g gs) (is ++ js) (dGcons A B) where
  go := by
    intro N M σ H ρ μ vs ds Qd Qv er r ⟨x, xs, e, h⟩ c
    subst e
    cases r with
    | cons r1 r2 =>
      refine ⟨_, _, rfl, a.go N M σ H ρ μ _ _ _ _ er (.d r1) h fun σ' H' ρ' μ' k er' o q => ?_⟩
      refine b.go N M σ' H' ρ' μ' _ _ _ _ er' (r2.go (er.st.go k)) q fun σ2 H2 ρ2 μ2 k2 er2 o2 q2 => ?_
      refine c _ _ _ _ (k.trans k2) er2 ⟨o2.1.trans o.1, fun i hi => ?_⟩ q2
      rw [List.mem_append] at hi
      rw [o2.2 i fun z => hi (.inr z), o.2 i fun z => hi (.inl z)]
def dGtup (n : Nat) (B : TGsd) : TGd := fun s ρ μ Q => ∃ ds, s = .d (.tup ds) ∧ ds.length = n ∧ B ds ρ μ Q
instance {n : Nat} {gs : TGs} {is : List Nat} {B : TGsd} [b : SdGs K gs is B] : SdG K (gTup K n gs) is (dGtup n B) where
  go := by
    intro N M σ H ρ μ v s Qd Qv er r ⟨ds, e, l, h⟩ c
    subst e
    obtain ⟨a, vs, rfl, na, ha, ra⟩ := r.d_inv.tup_inv
    exact ⟨a, vs, rfl, SqT.of ha, by rw [ra.length]; exact l, b.go N M σ H ρ μ _ _ _ _ er ra h c⟩
def dGsub (A B : TD) : TGd := fun s ρ μ Q => A ρ μ fun o μ1 => B ρ μ1 fun i μ2 => ∃ k z ds j d, o = .cel k ∧ i = .d (.int z) ∧ s = .d d ∧ μ2[k]? = some (some (.lst ds)) ∧ ixN ds.length z = some j ∧ Q ρ (μ2.set k (some (.lst (ds.set j d))))
instance {to ti : TE} {A B : TD} [a : SdE K to A] [b : SdE K ti B] : SdG K (gSub to ti rSetL) [] (dGsub A B) where
  go := by
    intro N M σ H ρ μ v s Qd Qv er r h c
    refine a.go N M σ H ρ μ _ _ er h fun o H1 so μ1 k1 s1 r1 h1 => ?_
    refine b.go N M σ H1 ρ μ1 _ _ (er.go k1 s1) h1 fun i H2 si μ2 k2 s2 r2 h2 => ?_
    obtain ⟨k, z, ds, j, d, e1, e2, e3, hk, hj, q⟩ := h2
    subst e1 e2 e3
    obtain ⟨p, rfl, hp⟩ := (r1.go (s1.go k2)).cel_inv
    have e := r2.int_inv
    subst e
    obtain ⟨cl, h1, h2⟩ := s2.cell k p hp
    rw [hk] at h1
    cases h1
    obtain ⟨us, hu, ru⟩ := h2
    have rd := ((r.go (er.st.go k1)).go (s1.go k2)).d_inv
    obtain ⟨s3, k3⟩ := wr_lst s2 hp (ru.set rd j)
    have kk := (k1.trans k2).trans k3
    refine ⟨p, us, z, j, rfl, rfl, hu, by rw [ru.length]; exact hj, ?_⟩
    exact c _ _ _ _ kk (er.go kk s3) ⟨rfl, fun _ _ => rfl⟩ q
def dAsg (A : TD) (G : TGd) : TSd := fun D ρ μ => A ρ μ fun s μ1 => G s ρ μ1 D.nx
instance {t : TE} {g : TG} {is : List Nat} {A : TD} {G : TGd} [a : SdE K t A] [b : SdG K g is G] : SdS K (tAsg t g) (dAsg A G) where
  go := by
    intro E N M σ H ρ μ De Dd s h e
    refine a.go N M σ H ρ μ _ _ s.er h fun v H' x μ' k st r q => ?_
    refine b.go N M σ H' ρ μ' v x _ _ (s.er.go k st) r q fun σ2 H2 ρ2 μ2 k2 er2 _ q2 => ?_
    exact e.nx _ _ _ _ _ _ (s.go (k.trans k2) er2) q2
/-! ### a name that holds a list which changes -/
def tAsgM (te : TE) (g : TG) : TS := tAsg te g
theorem ps_setM {X : Cx} {i : Nat} {x : Str} {e : Expr} {te : TE} {pos pos' : Pos} (hN : X.N.Nodup) (hi : X.N[i]? = some x) (hx : Loc X.env.scope x) (he : PE X e te) (hs : swapsWith e (some (.Name x pos')) pos.line X.env = pure false := by rfl) (hf : X.fn x = true ∨ X.env.scope.names.lookup x = some .local := by first | exact .inl rfl | exact .inr rfl | assumption) :
    PS X (.Assign [.Name x pos'] e pos) (tAsgM te (gName i)) := ps_set hN hi hx he hs hf
theorem SR.cellNew {l : Addr} {vs : List V} {ds : List D} (s : SR K E (Nl N l) M σ H ρ μ) (n : ¬ N l) (hE : E.H l = none) (hM : ¬ inM M l) (h : H l = some (.lst vs)) (r : IsAll K (Nl N l) H vs ds) :
    SR K E (Nl N l) (M ++ [some l]) σ H ρ (μ ++ [some (.lst ds)]) ∧ (M ++ [some l])[μ.length]? = some (some l) := by
  have hl := s.er.st.len
  have up : ∀ {k : Nat} {a : Addr}, M[k]? = some (some a) → (M ++ [some l])[k]? = some (some a) := fun {k a} e => by
    rw [List.getElem?_append_left (List.getElem?_eq_some_iff.mp e).1]; exact e
  have env : EnvR K (Nl N l) (M ++ [some l]) σ H ρ := ⟨s.er.env.len, fun i x q => by
    obtain ⟨v, h1, h2⟩ := s.er.env.at_ i x q
    refine ⟨v, h1, ?_⟩
    cases h2 with
    | d z => exact .d z
    | cel z => exact .cel (up z)⟩
  have at_ : (M ++ [some l])[μ.length]? = some (some l) := by rw [← hl]; simp
  have split : ∀ {k : Nat} {a : Addr}, (M ++ [some l])[k]? = some (some a) → M[k]? = some (some a) ∨ (k = M.length ∧ a = l) := fun {k a} e => by
    by_cases hk : k < M.length
    · rw [List.getElem?_append_left hk] at e; exact .inl e
    · have : k < (M ++ [some l]).length := (List.getElem?_eq_some_iff.mp e).1
      rw [List.length_append, List.length_singleton] at this
      have hk' : k = M.length := by omega
      subst hk'
      simp at e
      exact .inr ⟨rfl, e.symm⟩
  refine ⟨⟨⟨env, ⟨by simp [hl], fun a z => ?_, s.er.st.trk, fun k a e => ?_, fun j k a e1 e2 => ?_, s.er.st.tab⟩⟩, s.sub0, s.trk0, s.kp, ?_, s.nn, s.n0⟩, at_⟩
  · rcases inM_app z with z | z
    · exact s.er.st.sub a z
    · have e : a = l := by simpa using z
      rw [e]; exact .inr rfl
  · rcases split e with e | ⟨e1, e2⟩
    · obtain ⟨c, h1, h2⟩ := s.er.st.cell k a e
      exact ⟨c, by rw [List.getElem?_append_left (List.getElem?_eq_some_iff.mp h1).1]; exact h1, h2⟩
    · subst e1 e2
      exact ⟨.lst ds, by rw [hl]; simp, ⟨vs, h, r⟩⟩
  · rcases split e1 with f1 | ⟨f1, g1⟩ <;> rcases split e2 with f2 | ⟨f2, g2⟩
    · exact s.er.st.inj j k a f1 f2
    · subst g2; exact absurd (inM.of f1) hM
    · subst g1; exact absurd (inM.of f2) hM
    · rw [f1, f2]
  · obtain ⟨X, e, hX⟩ := s.ext
    refine ⟨X ++ [some l], by rw [e, List.append_assoc], fun a z => ?_⟩
    rcases List.mem_append.mp z with z | z
    · exact hX a z
    · have e : a = l := by simpa using z
      rw [e]; exact hE
def dAsgM (A : TNd) (i : Nat) : TSd := fun D ρ μ => A ρ μ fun ds μ1 => D.nx (ρ.set i (some (.cel μ1.length))) (μ1 ++ [some (.lst ds)])
instance {t : TE} {i : Nat} {A : TNd} [a : SdN K t A] : SdS K (tAsgM t (gName i)) (dAsgM A i) where
  go := by
    intro E N M σ H ρ μ De Dd s h e
    refine a.go N M σ H ρ μ _ _ s.er h fun l H' vs ds μ' k hl h' st r q => ?_
    obtain ⟨s', n, hE, hM⟩ := s.newl k hl st h'
    obtain ⟨s2, at_⟩ := s'.cellNew n hE hM h' r
    exact e.nx _ _ _ _ _ _ (s2.go Kp.refl ⟨s2.er.env.set (.cel at_), s2.er.st⟩) q
/-! ### cells that change no more -/
/-- what a slot holds when the cells from b on are settled -/
def stl (b : Nat) (μ : Mu) : Option S → Option S
  | some (.cel j) => if j < b then some (.cel j) else match μ[j]? with
    | some (some (.lst ds)) => some (.d (.lst ds))
    | some (some (.obj C ns ds)) => some (.d (.ins C ns ds))
    | _ => none
  | x => x
def Nd (N : Addr → Prop) (X : Ms) : Addr → Prop := fun b => N b ∧ ¬ some b ∈ X
theorem CellAt.data {a : Addr} {c : Cell} (n : ¬ N a) (h : CellAt K N H a c) : Is K N H (.ref a) (match c with | .lst ds => .lst ds | .obj C ns ds => .ins C ns ds) := by
  cases c with
  | lst ds => obtain ⟨vs, h, r⟩ := h; exact .lst n h r
  | obj C ns ds => obtain ⟨dx, vs, h, l, r⟩ := h; exact .ins n h l r
theorem StR.settle (s : StR K N M H μ) (b : Nat) : StR K (Nd N (M.drop b)) (M.take b) H (μ.take b) := by
  have g : Go N H (Nd N (M.drop b)) H := Go.less fun a z => z.1
  have tk : ∀ {k : Nat} {a : Addr}, (M.take b)[k]? = some (some a) → M[k]? = some (some a) ∧ k < b := fun {k a} e => by
    have hk := (List.getElem?_eq_some_iff.mp e).1
    rw [List.length_take] at hk
    have : k < b := by omega
    rw [List.getElem?_take_of_lt this] at e
    exact ⟨e, this⟩
  refine ⟨by rw [List.length_take, List.length_take, s.len], fun a z => ?_, fun a z => s.trk a z.1, fun k a e => ?_, fun j k a e1 e2 => s.inj j k a (tk e1).1 (tk e2).1, s.tab⟩
  · rcases z with z | z
    case inr =>
      refine ⟨s.sub a (.inr z), fun z2 => ?_⟩
      obtain ⟨j, hj⟩ := List.mem_iff_getElem?.mp z2
      rw [List.getElem?_drop] at hj
      exact s.notT hj z
    obtain ⟨k, hk⟩ := List.mem_iff_getElem?.mp z
    obtain ⟨e, hb⟩ := tk hk
    refine ⟨s.sub a (inM.of e), fun z2 => ?_⟩
    obtain ⟨j, hj⟩ := List.mem_iff_getElem?.mp z2
    rw [List.getElem?_drop] at hj
    have := s.inj _ _ _ e hj
    omega
  · obtain ⟨e, hb⟩ := tk e
    obtain ⟨c, h1, h2⟩ := s.cell k a e
    exact ⟨c, by rw [List.getElem?_take_of_lt hb]; exact h1, h2.go g rfl⟩
theorem IsS.settle {v : V} {x y : S} (s : StR K N M H μ) (b : Nat) (r : IsS K N M H v x) (e : stl b μ (some x) = some y) : IsS K (Nd N (M.drop b)) (M.take b) H v y := by
  have g : Go N H (Nd N (M.drop b)) H := Go.less fun a z => z.1
  cases r with
  | d r =>
    simp only [stl, Option.some.injEq] at e
    subst e
    exact .d (r.go g)
  | @cel a k r =>
    simp only [stl] at e
    by_cases hk : k < b
    · rw [if_pos hk] at e
      cases e
      exact .cel (by rw [List.getElem?_take_of_lt hk]; exact r)
    · rw [if_neg hk] at e
      obtain ⟨c, h1, h2⟩ := s.cell k a r
      rw [h1] at e
      have nd : ¬ Nd N (M.drop b) a := fun z => z.2 (by
        refine List.mem_iff_getElem?.mpr ⟨k - b, ?_⟩
        rw [List.getElem?_drop]
        rw [show b + (k - b) = k by omega]
        exact r)
      have q := (h2.go g rfl).data nd
      cases c with
      | lst ds => cases e; exact .d q
      | obj C ns ds => cases e; exact .d q
theorem ER.settle (e : ER K N M σ H ρ μ) (b : Nat) : ER K (Nd N (M.drop b)) (M.take b) σ H (ρ.map (stl b μ)) (μ.take b) := by
  refine ⟨⟨by rw [List.length_map]; exact e.env.len, fun i s h => ?_⟩, e.st.settle b⟩
  rw [List.getElem?_map] at h
  cases hx : ρ[i]? with
  | none => rw [hx] at h; cases h
  | some x =>
    rw [hx] at h
    have h' : stl b μ x = some s := Option.some.inj h
    cases x with
    | none => cases h'
    | some x =>
      obtain ⟨v, h1, h2⟩ := e.env.at_ i x hx
      exact ⟨v, h1, h2.settle e.st b h'⟩
theorem SR.settle (s : SR K E N M σ H ρ μ) {b : Nat} (hb : E.M.length ≤ b) : SR K E (Nd N (M.drop b)) (M.take b) σ H (ρ.map (stl b μ)) (μ.take b) := by
  refine ⟨s.er.settle b, s.sub0, s.trk0, s.kp, ?_, fun a z => s.nn a z.1, fun a z => ⟨s.n0 a z, fun z2 => ?_⟩⟩
  · obtain ⟨X, e, hX⟩ := s.ext
    refine ⟨X.take (b - E.M.length), ?_, fun a z => hX a (List.mem_of_mem_take z)⟩
    rw [e, List.take_append, List.take_of_length_le hb]
  · obtain ⟨X, e, hX⟩ := s.ext
    rw [e] at z2
    have z3 : some a ∈ X := by
      obtain ⟨j, hj⟩ := List.mem_iff_getElem?.mp z2
      rw [List.getElem?_drop, List.getElem?_append_right (by omega)] at hj
      exact List.mem_of_getElem? hj
    obtain ⟨o, ho⟩ := s.trk0 a z
    rw [hX a z3] at ho; cases ho
/-- back at the start's cells -/
theorem SR.back (s : SR K E N M σ H ρ μ) : SR K E E.N E.M σ H (ρ.map (stl E.M.length μ)) (μ.take E.M.length) := by
  obtain ⟨X, e, hX⟩ := s.ext
  have t := s.settle (Nat.le_refl E.M.length)
  have eM : M.take E.M.length = E.M := by rw [e]; simp
  rw [eM] at t
  have g : Go (Nd N (M.drop E.M.length)) H E.N H := Go.less t.n0
  refine ⟨⟨t.er.env.go g, ⟨t.er.st.len, s.sub0, fun a z => t.er.st.trk a (t.n0 a z), fun k a h => ?_, t.er.st.inj, t.er.st.tab⟩⟩, s.sub0, s.trk0, s.kp, ⟨[], by simp, fun _ z => nomatch z⟩, fun b z => .inl z, fun b z => z⟩
  obtain ⟨c, h1, h2⟩ := t.er.st.cell k a h
  exact ⟨c, h1, h2.go g rfl⟩
/-- go on with the cells from b on settled -/
def setl (b : Nat) (k : NxD) : NxD := fun ρ μ => k (ρ.map (stl b μ)) (μ.take b)
/-- a def ends -/
def exitN (b : Nat) (Q : QD) : NxD := fun _ μ => Q (.d .non) (μ.take b)
def exitD (b : Nat) (Q : QD) : S → Mu → Prop := fun s μ => ∃ s', stl b μ (some s) = some s' ∧ Q s' (μ.take b)
def exitF (b : Nat) (Q : List D → Mu → Prop) : List D → Mu → Prop := fun ds μ => Q ds (μ.take b)
/-- the list that name i holds, and what came behind it, changes no more -/
def tFrz (_ : Nat) (t : TS) : TS := t
theorem pss_frz {X : Cx} {i : Nat} {sts : List Stmt} {t : TS} (h : PSs X sts t) : PSs X sts (tFrz i t) := h
def dFrz (i : Nat) (T : TSd) : TSd := fun D ρ μ => ∃ k, ρ[i]? = some (some (.cel k)) ∧ D.bs ≤ k ∧ setl k (T D) ρ μ
instance {t : TS} {i : Nat} {T : TSd} [a : SdS K t T] : SdS K (tFrz i t) (dFrz i T) where
  go := by
    intro E N M σ H ρ μ De Dd s h e
    obtain ⟨k, h1, h2, q⟩ := h
    exact a.go _ _ _ _ _ _ _ _ _ (s.settle (by rw [← e.bs]; exact h2)) q e
end
end Dl
set_option Elab.async false
set_option linter.all false
set_option maxRecDepth 100000
set_option maxHeartbeats 4000000
/-! ## D5. Loops, comprehensions, several names at once -/
namespace Dl
open PySem PySem.Spec PyProof.Rows L2 Cm
variable [Tb : Tbls]
/-! ### what is walked -/
abbrev TId := Rho → Mu → (List D → Mu → Prop) → Prop
/-- the iterator gives these items, while the cells of M alone change -/
def ItOk (K : PySem.W.Frag) (N : Addr → Prop) (M : Ms) (H1 : Hp) (J : It) (ds : List D) : Prop := ∀ N' H μ, Go N H1 N' H → StR K N' M H μ →
  (∀ i, ds.length ≤ i → J.stop i H) ∧ ∀ i d, ds[i]? = some d → J.go i H ∧ ∀ x H', J.yld i H x H' → Kp M H H' ∧ StR K N' M H' μ ∧ Is K N' H' x d
class SdI (K : PySem.W.Frag) (wi : TI) (T : outParam TId) : Prop where
  go : ∀ N M σ H ρ μ (Qd : List D → Mu → Prop) (Qv : It → Hp → Prop), ER K N M σ H ρ μ → T ρ μ Qd →
    (∀ J H' ds μ', Kp M H H' → StR K N M H' μ' → ItOk K N M H' J ds → Qd ds μ' → Qv J H') → wi σ H Qv
/-- a list or a tuple -/
def iSeq (K : PySem.W.Frag) (tl : TE) : TI := fun σ H R => tl σ H fun x H1 => ∃ a, x = .ref a ∧ (((∃ xs, SqL K H1 a xs) ∧ R (Itl K a) H1) ∨ ((∃ xs, SqT K H1 a xs) ∧ R (Itt K a) H1))
theorem pi_seq {X : Cx} {tg l : Expr} {tl : TE} (hl : PE X l tl) : PI X tg l (iSeq X.K tl) := by
  refine ⟨fun pins s σ H R I h => ?_⟩
  refine thn (hl.run pins s σ H _ I h) fun v s1 ⟨x, H1, I1, r1, q1⟩ => ?_
  obtain ⟨a, e, q1⟩ := q1
  subst e
  cases r1
  rcases q1 with ⟨⟨xs, hq⟩, q⟩ | ⟨⟨xs, hq⟩, q⟩
  · obtain ⟨its, rv, p, hz⟩ := I1.list hq
    refine wpAny_pyIter_list p.isList ?_
    refine ⟨s1.heap.objs.size, [s1.heap.objs.size], _, _, H1, rfl, I1.kept (t' := s1.toks) fun b o e => Heap.get?_push_of_some _ e, turn_list a _, ⟨_, Heap.get?_push_size _ rfl, rfl, rfl⟩, fun b hb => ?_, q⟩
    have e : b = s1.heap.objs.size := by simpa using hb
    subst e
    exact I1.fpOk (Nat.le_refl _) (I1.hok.fresh (Nat.le_refl _))
  · obtain ⟨its, rv, p, hz⟩ := I1.tuple hq
    refine wpAny_pyIter_tuple (show s1.heap.IsTuple a its.toArray from p) ?_
    refine ⟨s1.heap.objs.size, [s1.heap.objs.size], _, _, H1, rfl, I1.kept (t' := s1.toks) fun b o e => Heap.get?_push_of_some _ e, turn_tuple a _, ⟨_, Heap.get?_push_size _ rfl, rfl, rfl⟩, fun b hb => ?_, q⟩
    have e : b = s1.heap.objs.size := by simpa using hb
    subst e
    exact I1.fpOk (Nat.le_refl _) (I1.hok.fresh (Nat.le_refl _))
/-- data that is walked -/
def walkD : D → Option (List D)
  | .tup ds | .con ds | .lst ds => some ds
  | .scr ns => some (ns.map .int)
  | _ => none
section
variable {K : PySem.W.Frag}
def dItS (A : TD) : TId := fun ρ μ Q => A ρ μ fun x μ1 => ∃ d ds, x = .d d ∧ walkD d = some ds ∧ Q ds μ1
theorem Is.walk_inv {N : Addr → Prop} {H : Hp} {v : V} {d : D} {ds : List D} (h : Is K N H v d) (e : walkD d = some ds) : ∃ a vs, v = .ref a ∧ IsAll K N H vs ds ∧
    ((∀ {N' : Addr → Prop} {H' : Hp}, Go N H N' H' → SqL K H' a vs) ∨ ∀ {N' : Addr → Prop} {H' : Hp}, Go N H N' H' → SqT K H' a vs) := by
  cases d with
  | tup es =>
    have e' : es = ds := Option.some.inj e
    subst e'
    obtain ⟨a, vs, e, n, h, r⟩ := h.tup_inv
    exact ⟨a, vs, e, r, .inr fun g => SqT.of (g a _ n h).2⟩
  | con es =>
    have e' : es = ds := Option.some.inj e
    subst e'
    cases h with
    | con h r => exact ⟨_, _, rfl, r, .inr fun g => h.sq⟩
  | lst es =>
    have e' : es = ds := Option.some.inj e
    subst e'
    obtain ⟨a, vs, e, n, h, r⟩ := h.lst_inv
    exact ⟨a, vs, e, r, .inl fun g => SqL.of (g a _ n h).2⟩
  | scr ns =>
    have e' : ns.map .int = ds := Option.some.inj e
    subst e'
    cases h with
    | scr n h =>
      refine ⟨_, _, rfl, IsAll.ints ns, .inl fun g => .inl ?_⟩
      rcases h with h | ⟨o, h⟩
      · exact .inl (g _ _ n h).2
      · exact .inr ⟨o, (g _ _ n h).2⟩
    | scrK h => exact ⟨_, _, rfl, IsAll.ints ns, .inl fun g => h _⟩
  | _ => exact absurd e (by intro z; cases z)
theorem itok_l {N : Addr → Prop} {M : Ms} {H1 : Hp} {μ : Mu} {a : Addr} {vs : List V} {ds : List D} (st : StR K N M H1 μ) (r : IsAll K N H1 vs ds) (q : ∀ {N' : Addr → Prop} {H' : Hp}, Go N H1 N' H' → SqL K H' a vs) : ItOk K N M H1 (Itl K a) ds := by
  intro N' H μ' g st'
  have h := q g
  refine ⟨fun i hi => ⟨vs, h, by rw [r.length]; exact hi⟩, fun i d e => ?_⟩
  obtain ⟨v, hv, rv⟩ := r.getD e
  refine ⟨⟨vs, v, h, hv⟩, fun x H' y => ?_⟩
  obtain ⟨e, y⟩ := y
  subst e
  have := y vs h
  rw [hv] at this
  cases this
  exact ⟨Kp.refl, st', rv.go g⟩
theorem itok_t {N : Addr → Prop} {M : Ms} {H1 : Hp} {μ : Mu} {a : Addr} {vs : List V} {ds : List D} (st : StR K N M H1 μ) (r : IsAll K N H1 vs ds) (q : ∀ {N' : Addr → Prop} {H' : Hp}, Go N H1 N' H' → SqT K H' a vs) : ItOk K N M H1 (Itt K a) ds := by
  intro N' H μ' g st'
  have h := q g
  refine ⟨fun i hi => ⟨vs, h, by rw [r.length]; exact hi⟩, fun i d e => ?_⟩
  obtain ⟨v, hv, rv⟩ := r.getD e
  refine ⟨⟨vs, v, h, hv⟩, fun x H' y => ?_⟩
  obtain ⟨e, y⟩ := y
  subst e
  have := y vs h
  rw [hv] at this
  cases this
  exact ⟨Kp.refl, st', rv.go g⟩
instance {tl : TE} {A : TD} [a : SdE K tl A] : SdI K (iSeq K tl) (dItS A) where
  go := by
    intro N M σ H ρ μ Qd Qv er h c
    refine a.go N M σ H ρ μ _ _ er h fun v H1 x μ1 k1 s1 r1 ⟨d, ds, e, w, q⟩ => ?_
    subst e
    obtain ⟨p, vs, rfl, ra, hs⟩ := r1.d_inv.walk_inv w
    rcases hs with hs | hs
    · exact ⟨p, rfl, .inl ⟨⟨vs, hs Go.refl⟩, c _ _ _ _ k1 s1 (itok_l s1 ra hs) q⟩⟩
    · exact ⟨p, rfl, .inr ⟨⟨vs, hs Go.refl⟩, c _ _ _ _ k1 s1 (itok_t s1 ra hs) q⟩⟩
/-- lo, lo + 1, .. -/
def rngD (lo : Int) (n : Nat) : List D := (List.range n).map fun i => D.int (lo + (i : Nat))
theorem rngD_length (lo : Int) (n : Nat) : (rngD lo n).length = n := by simp [rngD]
theorem rngD_get {lo : Int} {n i : Nat} {d : D} (h : (rngD lo n)[i]? = some d) : i < n ∧ d = .int (lo + (i : Nat)) := by
  have hi : i < n := by
    have := (List.getElem?_eq_some_iff.mp h).1
    rwa [rngD_length] at this
  refine ⟨hi, ?_⟩
  unfold rngD at h
  rw [List.getElem?_map, List.getElem?_range hi] at h
  exact (Option.some.inj h).symm
theorem itok_r {N : Addr → Prop} {M : Ms} {H1 : Hp} {lo : Int} {n : Nat} : ItOk K N M H1 (Itr lo n) (rngD lo n) := by
  intro N' H μ' g st'
  refine ⟨fun i hi => by rw [rngD_length] at hi; exact hi, fun i d e => ?_⟩
  obtain ⟨hi, e⟩ := rngD_get e
  subst e
  refine ⟨hi, fun x H' y => ?_⟩
  obtain ⟨e1, e2⟩ := y
  subst e1 e2
  exact ⟨Kp.refl, st', .int _⟩
def dItR1 (T : TAd) : TId := fun ρ μ Q => T ρ μ fun ss μ1 => ∃ j, ss = [.d (.int j)] ∧ -(2 ^ 62) ≤ j ∧ j < 2 ^ 62 ∧ Q (rngD 0 j.toNat) μ1
instance {t : TA} {T : TAd} [a : SdA K t T] : SdI K (iRng1 t) (dItR1 T) where
  go := by
    intro N M σ H ρ μ Qd Qv er h c
    refine a.go N M σ H ρ μ _ _ er h fun vs H1 ss μ1 k1 s1 r1 ⟨j, e, h1, h2, q⟩ => ?_
    subst e
    obtain ⟨v, rfl, r⟩ := isSA1 r1
    exact ⟨j, by rw [r.int_inv], h1, h2, c _ _ _ _ k1 s1 itok_r q⟩
def dItR2 (T : TAd) : TId := fun ρ μ Q => T ρ μ fun ss μ1 => ∃ i j, ss = [.d (.int i), .d (.int j)] ∧ (-(2 ^ 62) ≤ i ∧ i < 2 ^ 62 ∧ -(2 ^ 62) ≤ j ∧ j < 2 ^ 62) ∧ Q (rngD i (j - i).toNat) μ1
instance {t : TA} {T : TAd} [a : SdA K t T] : SdI K (iRng2 t) (dItR2 T) where
  go := by
    intro N M σ H ρ μ Qd Qv er h c
    refine a.go N M σ H ρ μ _ _ er h fun vs H1 ss μ1 k1 s1 r1 ⟨i, j, e, h1, q⟩ => ?_
    subst e
    obtain ⟨v, w, rfl, r, r'⟩ := isSA2 r1
    exact ⟨i, j, by rw [r.int_inv, r'.int_inv], h1, c _ _ _ _ k1 s1 itok_r q⟩
/-! ### for -/
def dLoop (G : TGd) (B : TSd) (Dd : EndsD) (b : Nat) : List D → NxD
  | [], ρ, μ => Dd.nx ρ μ
  | x :: xs, ρ, μ => G (.d x) ρ μ fun ρ1 μ1 => B { nx := setl b (dLoop G B Dd b xs), rt := Dd.rt, rtN := Dd.rtN, bs := b, bk := setl b Dd.nx, ct := setl b (dLoop G B Dd b xs) } ρ1 μ1
def dFor (I : TId) (G : TGd) (B : TSd) : TSd := fun D ρ μ => I ρ μ fun ds μ1 => dLoop G B D μ1.length ds ρ μ1
instance {wi : TI} {g : TG} {tb : TS} {is : List Nat} {I : TId} {G : TGd} {B : TSd} [i : SdI K wi I] [a : SdG K g is G] [b : SdS K tb B] : SdS K (tFor wi g tb) (dFor I G B) where
  go := by
    intro E N M σ H ρ μ De Dd s h e
    refine i.go N M σ H ρ μ _ _ s.er h fun J H1 ds μ1 k1 st1 it q => ?_
    have s1 : SR K E N M σ H1 ρ μ1 := s.exp k1 st1
    have len : μ1.length = M.length := st1.len.symm
    let Pv : Nat → L2.St → Hp → Prop := fun i σ H => ∃ ρ μ, SR K ⟨N, M, H1⟩ N M σ H ρ μ ∧ dLoop G B Dd μ1.length (ds.drop i) ρ μ
    refine ⟨fun i m σ H => m = ds.length - i ∧ i ≤ ds.length ∧ Pv i σ H, ⟨ds.length, by simp, Nat.zero_le _, ρ, μ1, s1.start, by rw [List.drop_zero]; exact q⟩, ?_⟩
    rintro i m σ' H' ⟨rfl, hi, ρ', μ', sr, lp⟩
    obtain ⟨stop, go⟩ := it N H' μ' sr.go0 sr.er.st
    by_cases hlt : i < ds.length
    · rw [List.drop_eq_getElem_cons hlt] at lp
      obtain ⟨g1, y1⟩ := go i ds[i] (List.getElem?_eq_getElem hlt)
      refine .inr ⟨g1, Pv (i + 1), fun σ2 H2 p => ⟨ds.length - (i + 1), by omega, rfl, hlt, p⟩, fun x H2 y => ?_⟩
      obtain ⟨k2, st2, r2⟩ := y1 x H2 y
      have sr2 := sr.exp k2 st2
      refine a.go N M σ' H2 ρ' μ' x _ _ _ sr2.er (.d r2) lp fun σ3 H3 ρ3 μ3 k3 er3 _ q3 => ?_
      have sr3 : SR K ⟨N, M, H1⟩ N M σ3 H3 ρ3 μ3 := sr2.go k3 er3
      have back : ∀ {N' : Addr → Prop} {M' : Ms} {σ4 : L2.St} {H4 : Hp} {ρ4 : Rho} {μ4 : Mu}, SR K ⟨N, M, H1⟩ N' M' σ4 H4 ρ4 μ4 → SR K ⟨N, M, H1⟩ N M σ4 H4 (ρ4.map (stl μ1.length μ4)) (μ4.take μ1.length) := fun t => by
        have t' := t.back
        rw [len]
        exact t'
      refine b.go ⟨N, M, H1⟩ N M σ3 H3 ρ3 μ3 _ _ sr3 q3 ⟨len, fun N' M' σ4 H4 ρ4 μ4 t q4 => ⟨_, _, back t, q4⟩, fun N' M' σ4 H4 ρ4 μ4 t q4 => e.nx _ _ _ _ _ _ (s1.trans (back t)) q4,
        fun N' M' σ4 H4 ρ4 μ4 t q4 => ⟨_, _, back t, q4⟩, (e.here s1).rt, (e.here s1).rtN⟩
    · have e' : i = ds.length := by omega
      subst e'
      rw [List.drop_length] at lp
      exact .inl ⟨stop _ (Nat.le_refl _), e.nx _ _ _ _ _ _ (s1.trans sr) lp⟩
/-! ### comprehensions -/
def wipeD (ρ : Rho) : List Nat → Rho
  | [] => ρ
  | v :: vs => (wipeD ρ vs).set v none
theorem EnvR.wipe {N : Addr → Prop} {M : Ms} {σ : L2.St} {H : Hp} {ρ : Rho} (e : EnvR K N M σ H ρ) : ∀ vs : List Nat, EnvR K N M (L2.wipe σ vs) H (wipeD ρ vs)
  | [] => e
  | v :: vs => by
    have e' := EnvR.wipe e vs
    unfold L2.wipe wipeD
    refine ⟨by rw [List.length_set, List.length_set]; exact e'.len, fun j s h => ?_⟩
    by_cases hj : v = j
    · subst hj
      have hv : v < (wipeD ρ vs).length := by
        have := (List.getElem?_eq_some_iff.mp h).1
        rwa [List.length_set] at this
      rw [List.getElem?_set_self hv] at h
      cases Option.some.inj h
    · rw [List.getElem?_set_ne hj] at h
      obtain ⟨u, h1, h2⟩ := e'.at_ j s h
      exact ⟨u, by rw [List.getElem?_set_ne hj]; exact h1, h2⟩
def subL (is vs : List Nat) : Bool := is.all fun i => vs.contains i
theorem wipe_get (σ : L2.St) (i : Nat) : ∀ vs : List Nat, (wipe σ vs)[i]? = if i ∈ vs ∧ i < σ.length then some none else σ[i]?
  | [] => by simp [wipe]
  | v :: vs => by
    unfold wipe
    by_cases hv : v = i
    · subst hv
      by_cases hl : v < σ.length
      · rw [List.getElem?_set_self (by rw [wipe_length]; exact hl), if_pos ⟨List.mem_cons_self, hl⟩]
      · rw [List.getElem?_eq_none (by rw [List.length_set, wipe_length]; omega), if_neg (fun z => hl z.2), List.getElem?_eq_none (by omega)]
    · rw [List.getElem?_set_ne hv, wipe_get σ i vs]
      have : (i ∈ v :: vs) ↔ i ∈ vs := by
        rw [List.mem_cons]
        exact ⟨fun z => z.elim (fun e => absurd e.symm hv) id, .inr⟩
      simp only [this]
theorem wipe_only {σ σ2 : L2.St} {is vs : List Nat} (o : Only_ is (wipe σ vs) σ2) (h : subL is vs = true) : wipe σ2 vs = wipe σ vs := by
  have sub : ∀ i ∈ is, i ∈ vs := fun i hi => by
    have := List.all_eq_true.mp h i hi
    simpa using this
  have ll : σ2.length = σ.length := o.1.trans (wipe_length σ vs)
  refine List.ext_getElem? fun i => ?_
  rw [wipe_get, wipe_get, ll]
  by_cases hi : i ∈ vs
  · by_cases hl : i < σ.length
    · rw [if_pos ⟨hi, hl⟩, if_pos ⟨hi, hl⟩]
    · rw [if_neg (fun z => hl z.2), if_neg (fun z => hl z.2), List.getElem?_eq_none (by omega), List.getElem?_eq_none (by omega)]
  · rw [if_neg (fun z => hi z.1), if_neg (fun z => hi z.1), o.2 i (fun z => hi (sub i z)), wipe_get, if_neg (fun z => hi z.1)]
def dYes : TTd := fun _ μ Q => Q true μ
instance : SdT K tYes dYes where
  go := fun N M σ H ρ μ Qd Qv er h c => c _ _ _ Kp.refl er.st h
def dLcL (G : TGd) (C : TTd) (A : TD) (ρ : Rho) (Q : List D → Mu → Prop) : List D → List D → Mu → Prop
  | [], acc, μ => Q acc μ
  | x :: xs, acc, μ => G (.d x) ρ μ fun ρ2 μ2 => C ρ2 μ2 fun b μ3 => if b = true then A ρ2 μ3 fun y μ4 => ∃ d, y = .d d ∧ acc.length < 1000 ∧ dLcL G C A ρ Q xs (acc ++ [d]) μ4 else dLcL G C A ρ Q xs acc μ3
def dLc (I : TId) (G : TGd) (is : List Nat) (C : TTd) (A : TD) (vs : List Nat) : TNd := fun ρ μ Q => I ρ μ fun ds μ1 => subL is vs = true ∧ dLcL G C A (wipeD ρ vs) Q ds [] μ1
/-- what is nobody's is written -/
theorem StR.other {N : Addr → Prop} {M : Ms} {H : Hp} {μ : Mu} {a : Addr} {o : HO} {us : List V} (s : StR K N M H μ) (hN : N a) (hM : ¬ inM M a) (hL : H a = some (.lst us)) : StR K N M (upd H a o) μ ∧ Go N H N (upd H a o) := by
  have g : Go N H N (upd H a o) := fun b u n h => ⟨n, by rw [upd_ne (fun e => n (by rw [e]; exact hN))]; exact h⟩
  refine ⟨⟨s.len, s.sub, fun b z => ?_, fun j b h => ?_, s.inj, tabs_lst s.tab hL⟩, g⟩
  · by_cases e : b = a
    · subst e; exact ⟨_, upd_same⟩
    · obtain ⟨u, h⟩ := s.trk b z
      exact ⟨u, by rw [upd_ne e]; exact h⟩
  · obtain ⟨c, h1, h2⟩ := s.cell j b h
    refine ⟨c, h1, h2.go g ?_⟩
    rw [upd_ne (fun e => hM (by rw [← e]; exact inM.of h))]
instance sdn_lc {wi : TI} {g : TG} {tt : TT} {te : TE} {vs is : List Nat} {I : TId} {G : TGd} {C : TTd} {A : TD} [i : SdI K wi I] [ag : SdG K g is G] [b : SdT K tt C] [a : SdE K te A] : SdN K (tLc wi g tt te vs) (dLc I G is C A vs) where
  go := by
    intro N M σ H ρ μ Qd Qv er h c
    refine i.go N M σ H ρ μ _ _ er h fun J H1 ds μ1 k1 st1 it ⟨hsub, q⟩ => ?_
    intro D hD
    have nD : ¬ N D := st1.notN hD
    have mD : ¬ inM M D := fun z => nD (st1.sub D z)
    have h0 : H D = none := Kp.free er.st k1 st1 hD
    have er1 : ER K N M σ H1 ρ μ1 := er.go k1 st1
    let Pv : Nat → Hp → Prop := fun i H => ∃ acc us μ, H D = some (.lst us) ∧ IsAll K (Nl N D) H us acc ∧ StR K (Nl N D) M H μ ∧ Kp M H1 H ∧ dLcL G C A (wipeD ρ vs) Qd (ds.drop i) acc μ
    refine ⟨fun i m H => m = ds.length - i ∧ i ≤ ds.length ∧ Pv i H, ⟨ds.length, by simp, Nat.zero_le _, [], [], μ1, upd_same, .nil, st1.fresh hD, (st1.new hD).2.1, by rw [List.drop_zero]; exact q⟩, ?_⟩
    rintro i m H' ⟨rfl, hi, acc, us, μ', hus, racc, st', k', lp⟩
    have g' : Go N H1 (Nl N D) H' := fun b o n hb => ⟨fun z => z.elim n (fun e => (by rw [e, hD] at hb; cases hb)), k' b o (fun z => n (st1.sub b z)) hb⟩
    obtain ⟨stop, go⟩ := it (Nl N D) H' μ' g' st'
    by_cases hlt : i < ds.length
    · rw [List.drop_eq_getElem_cons hlt] at lp
      obtain ⟨g1, y1⟩ := go i ds[i] (List.getElem?_eq_getElem hlt)
      refine .inr ⟨g1, Pv (i + 1), fun H2 p => ⟨ds.length - (i + 1), by omega, rfl, hlt, p⟩, fun x H2 y => ?_⟩
      obtain ⟨k2, st2, r2⟩ := y1 x H2 y
      have hus2 : H2 D = some (.lst us) := k2 D _ mD hus
      have gg : Go (Nl N D) H' (Nl N D) H2 := fun b o n hb => ⟨n, k2 b o (fun z => n (.inl (st1.sub b z))) hb⟩
      have er2 : ER K (Nl N D) M (L2.wipe σ vs) H2 (wipeD ρ vs) μ' := ⟨((er1.env.go g').go gg).wipe vs, st2⟩
      refine ag.go (Nl N D) M _ H2 _ μ' x _ _ _ er2 (.d r2) lp fun σ3 H3 ρ3 μ3 k3 er3 o3 q3 => ⟨wipe_only o3 hsub, ?_⟩
      refine b.go (Nl N D) M σ3 H3 ρ3 μ3 _ _ er3 q3 fun bb H4 μ4 k4 st4 q4 => ?_
      have kk : Kp M H1 H4 := ((k'.trans k2).trans k3).trans k4
      have kd : Kp M H' H4 := (k2.trans k3).trans k4
      have hus4 : H4 D = some (.lst us) := kd D _ mD hus
      have racc4 : IsAll K (Nl N D) H4 us acc := racc.go (st'.go kd)
      cases bb with
      | false => exact ⟨acc, us, μ4, hus4, racc4, st4, kk, q4⟩
      | true =>
        refine a.go (Nl N D) M σ3 H4 ρ3 μ4 _ _ (er3.go k4 st4) q4 fun v H5 y μ5 k5 st5 r5 ⟨d, ed, hl, q5⟩ => ?_
        subst ed
        have hus5 : H5 D = some (.lst us) := k5 D _ mD hus4
        obtain ⟨st6, g6⟩ := st5.other (a := D) (o := .lst (us ++ [v])) (.inr rfl) mD hus5
        refine ⟨us, hus5, ?_, acc ++ [d], us ++ [v], μ5, upd_same, ((racc4.go (st4.go k5)).append (.cons r5.d_inv .nil)).go g6, st6, ?_, q5⟩
        · rw [racc.length]
          exact Nat.lt_trans hl (by decide)
        · intro b o hb e
          have hbD : b ≠ D := fun z => by rw [z, hD] at e; cases e
          rw [upd_ne hbD]
          exact k5 b o hb (kk b o hb e)
    · have e' : i = ds.length := by omega
      subst e'
      rw [List.drop_length] at lp
      exact .inl ⟨stop _ (Nat.le_refl _), c D H' us acc μ' (k1.trans k') h0 hus st' racc lp⟩
instance {wi : TI} {g : TG} {tt : TT} {te : TE} {vs is : List Nat} {I : TId} {G : TGd} {C : TTd} {A : TD} [SdI K wi I] [SdG K g is G] [SdT K tt C] [SdE K te A] : SdE K (tLc wi g tt te vs) (dOfN (dLc I G is C A vs)) := sde_of inferInstance
end
end Dl
set_option Elab.async false
set_option linter.all false
set_option maxRecDepth 100000
set_option maxHeartbeats 4000000
/-! ## D6. Defs and calls -/
namespace Dl
open PySem PySem.Spec PyProof.Rows L2 Cm
variable [Tb : Tbls]
abbrev FnT := List S → Mu → QD → Prop
abbrev FnTN := List S → Mu → (List D → Mu → Prop) → Prop
/-- a def's promise over data -/
def spD (K : PySem.W.Frag) (n : Nat) (T : FnT) : Sp := fun vs H Q _ => vs.length = n ∧ ∃ N M ss μ Qd, StR K N M H μ ∧ IsSA K N M H vs ss ∧ T ss μ Qd ∧ Ct K N M H Qd Q
/-- .. of one that gives a new list -/
def spN (K : PySem.W.Frag) (n : Nat) (T : FnTN) : Sp := fun vs H Q _ => vs.length = n ∧ ∃ N M ss μ Qd, StR K N M H μ ∧ IsSA K N M H vs ss ∧ T ss μ Qd ∧ CtN K N M H Qd Q
def startD (n : Nat) (ss : List S) : Rho := ss.map some ++ List.replicate (n - ss.length) none
section
variable {K : PySem.W.Frag}
theorem IsSA.length {N : Addr → Prop} {M : Ms} {H : Hp} : ∀ {vs : List V} {ss : List S}, IsSA K N M H vs ss → vs.length = ss.length
  | _, _, .nil => rfl
  | _, _, .cons _ r => by rw [List.length_cons, List.length_cons, IsSA.length r]
theorem IsSA.append {N : Addr → Prop} {M : Ms} {H : Hp} : ∀ {vs ws : List V} {ss ts : List S}, IsSA K N M H vs ss → IsSA K N M H ws ts → IsSA K N M H (vs ++ ws) (ss ++ ts)
  | _, _, _, _, .nil, b => b
  | _, _, _, _, .cons a r, b => .cons a (IsSA.append r b)
theorem IsSA.getD {N : Addr → Prop} {M : Ms} {H : Hp} : ∀ {vs : List V} {ss : List S} {i : Nat} {s : S}, IsSA K N M H vs ss → ss[i]? = some s → ∃ v, vs[i]? = some v ∧ IsS K N M H v s
  | _, _, _, _, .nil, e => by simp at e
  | _, _, 0, _, .cons a r, e => by simp at e; subst e; exact ⟨_, rfl, a⟩
  | _, _, i + 1, s, .cons a r, e => by
    obtain ⟨v, h1, h2⟩ := IsSA.getD (i := i) (s := s) r (by simpa using e)
    exact ⟨v, by simpa using h1, h2⟩
theorem env_start {N : Addr → Prop} {M : Ms} {H : Hp} {Nm : List Str} {vs : List V} {ss : List S} (r : IsSA K N M H vs ss) : EnvR K N M (L2.start Nm vs) H (startD Nm.length ss) := by
  have hl := r.length
  unfold L2.start startD
  refine ⟨by simp [hl], fun i s h => ?_⟩
  by_cases hi : i < ss.length
  · rw [List.getElem?_append_left (by rw [List.length_map]; exact hi), List.getElem?_map] at h
    rw [List.getElem?_append_left (by rw [List.length_map, hl]; exact hi), List.getElem?_map]
    cases e : ss[i]? with
    | none => rw [e] at h; cases h
    | some x =>
      rw [e] at h
      have h' : x = s := Option.some.inj (Option.some.inj h)
      subst h'
      obtain ⟨v, h1, h2⟩ := r.getD e
      exact ⟨v, by rw [h1]; rfl, h2⟩
  · rw [List.getElem?_append_right (by rw [List.length_map]; omega)] at h
    have := List.mem_of_getElem? h
    rw [List.mem_replicate] at this
    cases this.2
section
variable {P : Program} {w : World} {mg : Str → Option Value} {base : Heap} {x qual : Str} {st : Stmt} {f : Addr} {fd : FuncData} {Nm ps : List Str} {k : Nat}
theorem body_d {t : TS} {T : TSd} {Tf : FnT} {n : Nat} (sd : SdS K t T)
    (hT : ∀ ss μ Qd, Tf ss μ Qd → T { nx := exitN μ.length Qd, rt := exitD μ.length Qd, rtN := fun _ _ => False, bs := μ.length } (startD Nm.length ss) μ)
    {vs : List V} {H : Hp} {Q : VK} {E : XK} (h : spD K n Tf vs H Q E) : t { nx := fun _ H' => Q .non H', rt := Q } (L2.start Nm vs) H := by
  obtain ⟨_, N, M, ss, μ, Qd, stt, r, q, c⟩ := h
  have len : μ.length = M.length := stt.len.symm
  have sr : SR K ⟨N, M, H⟩ N M (L2.start Nm vs) H (startD Nm.length ss) μ := ⟨⟨env_start r, stt⟩, stt.sub, stt.trk, Kp.refl, ⟨[], by simp, fun _ z => nomatch z⟩, fun b z => .inl z, fun b z => z⟩
  have back : ∀ {N' : Addr → Prop} {M' : Ms} {σ4 : L2.St} {H4 : Hp} {ρ4 : Rho} {μ4 : Mu}, SR K ⟨N, M, H⟩ N' M' σ4 H4 ρ4 μ4 → StR K N M H4 (μ4.take μ.length) := fun t => by
    have t' := t.back.er.st
    rw [len]
    exact t'
  refine sd.go ⟨N, M, H⟩ N M _ H _ μ _ _ sr (hT ss μ Qd q) ⟨len, fun N' M' σ' H' ρ' μ' t q => ?_, fun N' M' σ' H' ρ' μ' t q => q.elim, fun N' M' σ' H' ρ' μ' t q => q.elim, fun N' M' σ' H' ρ' μ' v s t rs q => ?_, fun N' M' σ' H' ρ' μ' l vs ds t _ _ _ _ _ q => q.elim⟩
  · exact c _ _ _ _ t.kp (back t) (.d .non) q
  · obtain ⟨s', e, q⟩ := q
    refine c _ _ _ _ t.kp (back t) ?_ q
    have r' := rs.settle t.er.st μ.length e
    obtain ⟨X, eM, hX⟩ := t.ext
    have eM' : M'.take μ.length = M := by rw [len, eM]; simp
    rw [eM'] at r'
    refine r'.go (Go.less fun b z => ⟨t.n0 b z, fun z2 => ?_⟩)
    obtain ⟨o, ho⟩ := stt.trk b z
    rw [len, eM] at z2
    have z3 : some b ∈ X := by
      have : (M ++ X).drop M.length = X := by simp
      rw [this] at z2
      exact z2
    have h0 : H b = none := hX b z3
    rw [h0] at ho; cases ho
theorem body_n {t : TS} {T : TSd} {Tf : FnTN} {n : Nat} (sd : SdS K t T)
    (hT : ∀ ss μ Qd, Tf ss μ Qd → T { nx := fun _ _ => False, rt := fun _ _ => False, rtN := exitF μ.length Qd, bs := μ.length } (startD Nm.length ss) μ)
    {vs : List V} {H : Hp} {Q : VK} {E : XK} (h : spN K n Tf vs H Q E) : t { nx := fun _ H' => Q .non H', rt := Q } (L2.start Nm vs) H := by
  obtain ⟨_, N, M, ss, μ, Qd, stt, r, q, c⟩ := h
  have len : μ.length = M.length := stt.len.symm
  have sr : SR K ⟨N, M, H⟩ N M (L2.start Nm vs) H (startD Nm.length ss) μ := ⟨⟨env_start r, stt⟩, stt.sub, stt.trk, Kp.refl, ⟨[], by simp, fun _ z => nomatch z⟩, fun b z => .inl z, fun b z => z⟩
  refine sd.go ⟨N, M, H⟩ N M _ H _ μ _ _ sr (hT ss μ Qd q) ⟨len, fun N' M' σ' H' ρ' μ' t q => q.elim, fun N' M' σ' H' ρ' μ' t q => q.elim, fun N' M' σ' H' ρ' μ' t q => q.elim, fun N' M' σ' H' ρ' μ' v s t rs q => q.elim, fun N' M' σ' H' ρ' μ' l us ds t nl hE hM hl ra q => ?_⟩
  have sub : ∀ b, Nl N l b → Nl N' l b := fun b z => z.elim (fun z => by
    rcases t.n0 b z with z | z
    · exact .inl z
    · exact .inr z) .inr
  have bst : StR K N M H' (μ'.take M.length) := t.back.er.st
  have nl' : ¬ N l := fun z => by
    obtain ⟨o, ho⟩ := stt.trk l z
    have hE' : H l = none := hE
    rw [hE'] at ho; cases ho
  refine c l H' us ds _ t.kp hE hl ?_ (ra.go (Go.less sub)) q
  rw [len]
  refine ⟨bst.len, fun a z => .inl (stt.sub a z), fun a z => z.elim (fun z => bst.trk a z) fun e => ⟨_, e ▸ hl⟩, fun k a h => ?_, bst.inj, bst.tab⟩
  obtain ⟨X, eM, hX⟩ := t.ext
  have hk : k < M.length := (List.getElem?_eq_some_iff.mp h).1
  have h' : M'[k]? = some (some a) := by rw [eM, List.getElem?_append_left hk]; exact h
  obtain ⟨cc, h1, h2⟩ := t.er.st.cell k a h'
  exact ⟨cc, by rw [List.getElem?_take_of_lt hk]; exact h1, h2.go (Go.less sub) rfl⟩
theorem spD_len {n : Nat} {Tf : FnT} (hn : ps.length = n) (vs : List V) (H : Hp) (Q : VK) (E : XK) (h : spD K n Tf vs H Q E) : vs.length = ps.length := h.1.trans hn.symm
theorem spN_len {n : Nat} {Tf : FnTN} (hn : ps.length = n) (vs : List V) (H : Hp) (Q : VK) (E : XK) (h : spN K n Tf vs H Q E) : vs.length = ps.length := h.1.trans hn.symm
end
/-! ### calls -/
def foot : List S → List Nat
  | [] => []
  | .d _ :: r => foot r
  | .cel k :: r => k :: foot r
def ren : S → S
  | .cel _ => .cel 0
  | x => x
def rD0 (μ : Mu) (Q : QD) : QD := fun s _ => ∃ x, s = .d x ∧ Q (.d x) μ
def rD1 (k : Nat) (μ : Mu) (Q : QD) : QD := fun s μc => ∃ x c', s = .d x ∧ μc = [some c'] ∧ Q (.d x) (μ.set k (some c'))
def rN0 (μ : Mu) (Q : List D → Mu → Prop) : List D → Mu → Prop := fun ds _ => Q ds μ
def rN1 (k : Nat) (μ : Mu) (Q : List D → Mu → Prop) : List D → Mu → Prop := fun ds μc => ∃ c', μc = [some c'] ∧ Q ds (μ.set k (some c'))
def callD (T : FnT) (ss : List S) (μ : Mu) (Q : QD) : Prop := match foot ss with
  | [] => T ss [] (rD0 μ Q)
  | [k] => ∃ c, μ[k]? = some (some c) ∧ T (ss.map ren) [some c] (rD1 k μ Q)
  | _ => False
def callN (T : FnTN) (ss : List S) (μ : Mu) (Q : List D → Mu → Prop) : Prop := match foot ss with
  | [] => T ss [] (rN0 μ Q)
  | [k] => ∃ c, μ[k]? = some (some c) ∧ T (ss.map ren) [some c] (rN1 k μ Q)
  | _ => False
section
variable {N : Addr → Prop} {M : Ms} {H H' : Hp} {μ μ' : Mu}
/-- what a call sees: no cells, one cell -/
def cellsOf (M : Ms) : List Nat → Ms
  | [] => []
  | k :: r => (M[k]?).getD none :: cellsOf M r
theorem inM_nil {b : Addr} (z : inM [] b) : inT b := z.elim (fun z => nomatch z) id
theorem inM_one {a b : Addr} (z : inM [some a] b) : b = a ∨ inT b := z.elim (fun z => .inl (by simpa using z)) .inr
theorem StR.none_ (s : StR K N M H μ) : StR K N [] H [] := ⟨rfl, (fun b z => s.sub b (.inr (inM_nil z))), s.trk, (fun k a h => by simp at h), (fun j k a h => by simp at h), s.tab⟩
theorem StR.one {k : Nat} {a : Addr} {c : Cell} (s : StR K N M H μ) (ha : M[k]? = some (some a)) (hc : μ[k]? = some (some c)) : StR K N [some a] H [some c] := by
  obtain ⟨c', h1, h2⟩ := s.cell k a ha
  rw [hc] at h1
  cases h1
  refine ⟨rfl, fun b z => ?_, s.trk, fun j b h => ?_, fun i j b h1 h2 => ?_, s.tab⟩
  · rcases inM_one z with e | e
    · rw [e]; exact s.sub a (inM.of ha)
    · exact s.sub b (.inr e)
  · cases j with
    | zero => simp at h; subst h; exact ⟨c, rfl, h2⟩
    | succ j => simp at h
  · cases i <;> cases j <;> simp_all
theorem foot_nil {vs : List V} {ss : List S} (r : IsSA K N M H vs ss) (h : foot ss = []) {M' : Ms} : IsSA K N M' H vs ss := by
  induction r with
  | nil => exact .nil
  | cons a r ih =>
    cases a with
    | d q => exact .cons (.d q) (ih h)
    | cel q => simp [foot] at h
theorem foot_one {vs : List V} {ss : List S} {k : Nat} {a : Addr} (r : IsSA K N M H vs ss) (h : ∀ j ∈ foot ss, j = k) (ha : M[k]? = some (some a)) : IsSA K N [some a] H vs (ss.map ren) := by
  induction r with
  | nil => exact .nil
  | cons q r ih =>
    cases q with
    | d q => exact .cons (.d q) (ih fun j hj => h j (by simpa [foot] using hj))
    | @cel b j q =>
      have e : j = k := h j (by simp [foot])
      subst e
      rw [ha] at q
      cases q
      exact .cons (.cel rfl) (ih fun i hi => h i (by simp [foot, hi]))
theorem foot_at {vs : List V} {ss : List S} {k : Nat} (r : IsSA K N M H vs ss) (h : k ∈ foot ss) : ∃ a, M[k]? = some (some a) := by
  induction r with
  | nil => simp [foot] at h
  | cons q r ih =>
    cases q with
    | d q => exact ih (by simpa [foot] using h)
    | @cel b j q =>
      rcases List.mem_cons.mp (show k ∈ j :: foot _ from h) with e | e
      · subst e; exact ⟨b, q⟩
      · exact ih e
theorem Kp.less {M M' : Ms} {H H' : Hp} (k : Kp M H H') (h : ∀ b, inM M b → inM M' b) : Kp M' H H' := fun b o n e => k b o (fun z => n (h b z)) e
theorem StR.keepAll (s : StR K N M H μ) (k : Kp [] H H') (s' : StR K N [] H' []) : StR K N M H' μ := by
  have g : Go N H N H' := fun b o n e => ⟨n, k b o (fun z => n (s.sub b (.inr (inM_nil z)))) e⟩
  refine ⟨s.len, s.sub, s'.trk, fun j a e => ?_, s.inj, s'.tab⟩
  obtain ⟨c, h1, h2⟩ := s.cell j a e
  refine ⟨c, h1, ?_⟩
  have ea : H' a = H a := by
    obtain ⟨o, ho⟩ := s.trk a (s.sub a (inM.of e))
    rw [ho]; exact k a o (fun z => s.notT e (inM_nil z)) ho
  exact h2.go g ea
theorem StR.keepOne {k : Nat} {a : Addr} {c : Cell} (s : StR K N M H μ) (ha : M[k]? = some (some a)) (kp : Kp [some a] H H') (s' : StR K N [some a] H' [some c]) : StR K N M H' (μ.set k (some c)) := by
  have hN : N a := s.sub a (inM.of ha)
  have g : Go N H N H' := fun b o n e => ⟨n, kp b o (fun z => n ((inM_one z).elim (fun q => by rw [q]; exact hN) fun t => s.sub b (.inr t))) e⟩
  have hk : k < μ.length := by rw [← s.len]; exact (List.getElem?_eq_some_iff.mp ha).1
  refine ⟨by rw [List.length_set]; exact s.len, s.sub, s'.trk, fun j b e => ?_, s.inj, s'.tab⟩
  by_cases hj : j = k
  · subst hj
    rw [ha] at e
    cases e
    obtain ⟨c', h1, h2⟩ := s'.cell 0 a rfl
    have : c = c' := Option.some.inj (Option.some.inj h1)
    subst this
    exact ⟨c, by rw [List.getElem?_set_self hk], h2⟩
  · obtain ⟨c', h1, h2⟩ := s.cell j b e
    refine ⟨c', by rw [List.getElem?_set_ne (Ne.symm hj)]; exact h1, h2.go g ?_⟩
    obtain ⟨o, ho⟩ := s.trk b (s.sub b (inM.of e))
    rw [ho]
    refine kp b o (fun z => ?_) ho
    rcases inM_one z with e' | t
    · exact hj (s.inj j k a (e' ▸ e) ha)
    · exact s.notT e t
theorem callD_ok {T : FnT} {n : Nat} {vs : List V} {ss : List S} {Qd : QD} {Qv : VK} {E : XK} (s : StR K N M H μ) (r : IsSA K N M H vs ss) (hn : ss.length = n) (h : callD T ss μ Qd) (c : Ct K N M H Qd Qv) : spD K n T vs H Qv E := by
  refine ⟨r.length.trans hn, ?_⟩
  unfold callD at h
  split at h
  · rename_i e
    refine ⟨N, [], ss, [], _, s.none_, foot_nil r e, h, ?_⟩
    intro v H' s' μ' k st' rs ⟨x, ex, q⟩
    subst ex
    have l0 : μ' = [] := List.eq_nil_of_length_eq_zero st'.len.symm
    subst l0
    exact c v H' _ μ (k.less fun b z => .inr (inM_nil z)) (s.keepAll k st') (.d rs.d_inv) q
  · rename_i k e
    obtain ⟨a, ha⟩ := foot_at r (k := k) (by rw [e]; exact List.mem_singleton_self _)
    obtain ⟨cc, hc, h⟩ := h
    refine ⟨N, [some a], ss.map ren, [some cc], _, s.one ha hc, foot_one r (fun j hj => by rw [e] at hj; simpa using hj) ha, h, ?_⟩
    intro v H' s' μ' kp st' rs ⟨x, c', ex, em, q⟩
    subst ex em
    exact c v H' _ _ (kp.less fun b z => (inM_one z).elim (fun e => by rw [e]; exact inM.of ha) .inr) (s.keepOne ha kp st') (.d rs.d_inv) q
  · exact h.elim
theorem callN_ok {T : FnTN} {n : Nat} {vs : List V} {ss : List S} {Qd : List D → Mu → Prop} {Qv : VK} {E : XK} (s : StR K N M H μ) (r : IsSA K N M H vs ss) (hn : ss.length = n) (h : callN T ss μ Qd) (c : CtN K N M H Qd Qv) : spN K n T vs H Qv E := by
  refine ⟨r.length.trans hn, ?_⟩
  unfold callN at h
  split at h
  · rename_i e
    refine ⟨N, [], ss, [], _, s.none_, foot_nil r e, h, ?_⟩
    intro l H' us ds μ' k hl h' st' ra q
    have l0 : μ' = [] := List.eq_nil_of_length_eq_zero st'.len.symm
    subst l0
    refine c l H' us ds μ (k.less fun b z => .inr (inM_nil z)) hl h' ?_ ra q
    have g : Go N H (Nl N l) H' := fun b o n e => ⟨fun z => z.elim n fun e2 => (by rw [e2, hl] at e; cases e), k b o (fun z => n (s.sub b (.inr (inM_nil z)))) e⟩
    refine ⟨s.len, fun a z => .inl (s.sub a z), st'.trk, fun j a e => ?_, s.inj, st'.tab⟩
    obtain ⟨cc, h1, h2⟩ := s.cell j a e
    refine ⟨cc, h1, ?_⟩
    have ea : H' a = H a := by
      obtain ⟨o, ho⟩ := s.trk a (s.sub a (inM.of e))
      rw [ho]; exact k a o (fun z => s.notT e (inM_nil z)) ho
    exact h2.go g ea
  · rename_i k e
    obtain ⟨a, ha⟩ := foot_at r (k := k) (by rw [e]; exact List.mem_singleton_self _)
    obtain ⟨cc, hc, h⟩ := h
    refine ⟨N, [some a], ss.map ren, [some cc], _, s.one ha hc, foot_one r (fun j hj => by rw [e] at hj; simpa using hj) ha, h, ?_⟩
    intro l H' us ds μ' kp hl h' st' ra ⟨c', em, q⟩
    subst em
    have hN : N a := s.sub a (inM.of ha)
    refine c l H' us ds _ (kp.less fun b z => (inM_one z).elim (fun e => by rw [e]; exact inM.of ha) .inr) hl h' ?_ ra q
    have g : Go N H (Nl N l) H' := fun b o n e => ⟨fun z => z.elim n fun e2 => (by rw [e2, hl] at e; cases e), kp b o (fun z => n ((inM_one z).elim (fun q => by rw [q]; exact hN) fun t => s.sub b (.inr t))) e⟩
    have hk : k < μ.length := by rw [← s.len]; exact (List.getElem?_eq_some_iff.mp ha).1
    refine ⟨by rw [List.length_set]; exact s.len, fun a z => .inl (s.sub a z), st'.trk, fun j b ej => ?_, s.inj, st'.tab⟩
    by_cases hj : j = k
    · subst hj
      rw [ha] at ej
      cases ej
      obtain ⟨c2, h1, h2⟩ := st'.cell 0 a rfl
      have : c' = c2 := Option.some.inj (Option.some.inj h1)
      subst this
      exact ⟨c', by rw [List.getElem?_set_self hk], h2⟩
    · obtain ⟨c2, h1, h2⟩ := s.cell j b ej
      refine ⟨c2, by rw [List.getElem?_set_ne (Ne.symm hj)]; exact h1, h2.go g ?_⟩
      obtain ⟨o, ho⟩ := s.trk b (s.sub b (inM.of ej))
      rw [ho]
      refine kp b o (fun z => ?_) ho
      rcases inM_one z with e' | t
      · exact hj (s.inj j k a (e' ▸ ej) ha)
      · exact s.notT ej t
  · exact h.elim
end
def vDs : List V → Option (List S)
  | [] => some []
  | v :: r => match vD v, vDs r with
    | some d, some ds => some (.d d :: ds)
    | _, _ => none
theorem vDs_is {N : Addr → Prop} {M : Ms} {H : Hp} : ∀ {vs : List V} {ss : List S}, vDs vs = some ss → IsSA K N M H vs ss
  | [], _, e => by simp only [vDs, Option.some.injEq] at e; subst e; exact .nil
  | v :: r, ss, e => by
    unfold vDs at e
    cases h1 : vD v with
    | none => rw [h1] at e; cases e
    | some d =>
      cases h2 : vDs r with
      | none => rw [h1, h2] at e; cases e
      | some ds =>
        rw [h1, h2] at e
        cases e
        exact .cons (.d (vD_is h1)) (vDs_is h2)
def dCall (n : Nat) (Tf : FnT) (dvs : List V) (A : TAd) : TD := fun ρ μ Q => A ρ μ fun ss μ1 => ∃ dd, vDs dvs = some dd ∧ (ss ++ dd).length = n ∧ callD Tf (ss ++ dd) μ1 Q
instance {n : Nat} {Tf : FnT} {dvs : List V} {E : XK} {t : TA} {A : TAd} [a : SdA K t A] : SdE K (tCall (spD K n Tf) dvs E t) (dCall n Tf dvs A) where
  go := by
    intro N M σ H ρ μ Qd Qv er h c
    refine a.go N M σ H ρ μ _ _ er h fun vs H1 ss μ1 k1 s1 r1 ⟨dd, e, l, q⟩ => ?_
    exact callD_ok s1 (r1.append (vDs_is e)) l q (c.step k1)
def dCallF (n : Nat) (Tf : FnTN) (dvs : List V) (A : TAd) : TNd := fun ρ μ Q => A ρ μ fun ss μ1 => ∃ dd, vDs dvs = some dd ∧ (ss ++ dd).length = n ∧ callN Tf (ss ++ dd) μ1 Q
instance sdn_call {n : Nat} {Tf : FnTN} {dvs : List V} {E : XK} {t : TA} {A : TAd} [a : SdA K t A] : SdN K (tCall (spN K n Tf) dvs E t) (dCallF n Tf dvs A) where
  go := by
    intro N M σ H ρ μ Qd Qv er h c
    refine a.go N M σ H ρ μ _ _ er h fun vs H1 ss μ1 k1 s1 r1 ⟨dd, e, l, q⟩ => ?_
    exact callN_ok s1 (r1.append (vDs_is e)) l q (c.step er.st k1 s1)
instance {n : Nat} {Tf : FnTN} {dvs : List V} {E : XK} {t : TA} {A : TAd} [SdA K t A] : SdE K (tCall (spN K n Tf) dvs E t) (dOfN (dCallF n Tf dvs A)) := sde_of inferInstance
/-! by names -/
def nS : List S → Nat → S
  | [], _ => .d .non
  | v :: _, 0 => v
  | _ :: vs, n + 1 => nS vs n
theorem nS_is {N : Addr → Prop} {M : Ms} {H : Hp} : ∀ {vs : List V} {ss : List S} (i : Nat), IsSA K N M H vs ss → IsS K N M H (nV vs i) (nS ss i)
  | _, _, _, .nil => .d .non
  | _, _, 0, .cons r _ => r
  | _, _, i + 1, .cons _ r => nS_is i r
class LvE (f : List V → List V → V) (g : outParam (List S → List S → S)) : Prop where
  go : ∀ {K : PySem.W.Frag} {N : Addr → Prop} {M : Ms} {H : Hp} {vs zs : List V} {ss ts : List S}, IsSA K N M H vs ss → IsSA K N M H zs ts → IsS K N M H (f vs zs) (g ss ts)
class LvD (f : List V → List V → List V) (g : outParam (List S → List S → List S)) : Prop where
  go : ∀ {K : PySem.W.Frag} {N : Addr → Prop} {M : Ms} {H : Hp} {vs zs : List V} {ss ts : List S}, IsSA K N M H vs ss → IsSA K N M H zs ts → IsSA K N M H (f vs zs) (g ss ts)
instance {i : Nat} : LvE (fun us ws => nV us i) (fun us ws => nS us i) := ⟨fun a b => nS_is i a⟩
instance {i : Nat} : LvE (fun us ws => nV ws i) (fun us ws => nS ws i) := ⟨fun a b => nS_is i b⟩
instance {i : Int} : LvE (fun us ws => .int i) (fun us ws => .d (.int i)) := ⟨fun a b => .d (.int i)⟩
instance {i : Str} : LvE (fun us ws => .str i) (fun us ws => .d (.str i)) := ⟨fun a b => .d (.str i)⟩
instance {i : Bool} : LvE (fun us ws => .bl i) (fun us ws => .d (.bl i)) := ⟨fun a b => .d (.bl i)⟩
instance : LvE (fun us ws => .non) (fun us ws => .d .non) := ⟨fun a b => .d .non⟩
instance : LvD (fun us ws => []) (fun us ws => []) := ⟨fun a b => .nil⟩
instance {f : List V → List V → V} {r : List V → List V → List V} {f' : List S → List S → S} {r' : List S → List S → List S} [a : LvE f f'] [b : LvD r r'] : LvD (fun us ws => f us ws :: r us ws) (fun us ws => f' us ws :: r' us ws) := ⟨fun x y => .cons (a.go x y) (b.go x y)⟩
def dCallK (n l m : Nat) (Tf : FnT) (g : List S → List S → List S) (A B : TAd) : TD := fun ρ μ Q => A ρ μ fun ss μ1 => B ρ μ1 fun zz μ2 => ss.length = l ∧ zz.length = m ∧ (g ss zz).length = n ∧ callD Tf (g ss zz) μ2 Q
instance {n l m : Nat} {Tf : FnT} {gV : List V → List V → List V} {g : List S → List S → List S} {E : XK} {t tk : TA} {A B : TAd} [gg : LvD gV g] [a : SdA K t A] [b : SdA K tk B] : SdE K (tCallN l m (spD K n Tf) gV E t tk) (dCallK n l m Tf g A B) where
  go := by
    intro N M σ H ρ μ Qd Qv er h c
    refine a.go N M σ H ρ μ _ _ er h fun vs H1 ss μ1 k1 s1 r1 h1 => ?_
    refine b.go N M σ H1 ρ μ1 _ _ (er.go k1 s1) h1 fun zs H2 zz μ2 k2 s2 r2 ⟨l1, l2, l3, q⟩ => ?_
    exact ⟨r1.length.trans l1, r2.length.trans l2, callD_ok s2 (gg.go (r1.go (s1.go k2)) r2) l3 q (c.step (k1.trans k2))⟩
/-! ### instances -/
def dMake (C : Addr) (n l m : Nat) (Tf : FnT) (g : List S → List S → List S) (A B : TAd) : TD := fun ρ μ Q => A ρ μ fun ss μ1 => B ρ μ1 fun zz μ2 => ss.length = l ∧ zz.length = m ∧ (g (.cel 0 :: ss) zz).length = n ∧ foot ss = [] ∧ foot zz = [] ∧
  Tf (g (.cel 0 :: ss) zz) [some (.obj C [] [])] fun s μc => s = .d .non ∧ ∃ C' ns ds, μc = [some (.obj C' ns ds)] ∧ Q (.d (.ins C' ns ds)) μ2
instance {C : Addr} {n l m : Nat} {Tf : FnT} {gV : List V → List V → List V} {g : List S → List S → List S} {E : XK} {t tk : TA} {A B : TAd} [gg : LvD gV g] [a : SdA K t A] [b : SdA K tk B] : SdE K (tMakeN C l m (spD K n Tf) gV E t tk) (dMake C n l m Tf g A B) where
  go := by
    intro N M σ H ρ μ Qd Qv er h c
    refine a.go N M σ H ρ μ _ _ er h fun vs H1 ss μ1 k1 s1 r1 h1 => ?_
    refine b.go N M σ H1 ρ μ1 _ _ (er.go k1 s1) h1 fun zs H2 zz μ2 k2 s2 r2 ⟨l1, l2, l3, f1, f2, q⟩ => ?_
    refine ⟨r1.length.trans l1, r2.length.trans l2, fun x dx hx hdx hne => ?_⟩
    have nx : ¬ N x := s2.notN hx
    have ndx : ¬ N dx := s2.notN hdx
    have g2 : Go N H2 (Nl N x) (upd (upd H2 dx (.own x)) x (.ins C dx [])) := fun b o n e => by
      have e1 : b ≠ x := ne_of_none e hx
      have e2 : b ≠ dx := ne_of_none e hdx
      exact ⟨fun z => z.elim n e1, by rw [upd_ne e1, upd_ne e2]; exact e⟩
    have st3 : StR K (Nl N x) [some x] (upd (upd H2 dx (.own x)) x (.ins C dx [])) [some (.obj C [] [])] := by
      refine ⟨rfl, fun a z => ?_, fun a z => ?_, fun j a e => ?_, fun i j b e1 e2 => ?_, tabs_new (tabs_new s2.tab hdx) (by rw [upd_ne (Ne.symm hne)]; exact hx)⟩
      · rcases inM_one z with e | t
        · exact .inr e
        · exact .inl (s2.sub a (.inr t))
      · rcases z with z | z
        · obtain ⟨o, ho⟩ := s2.trk a z
          have e1 : a ≠ x := ne_of_none ho hx
          have e2 : a ≠ dx := ne_of_none ho hdx
          exact ⟨o, by rw [upd_ne e1, upd_ne e2]; exact ho⟩
        · subst z; exact ⟨_, upd_same⟩
      · cases j with
        | zero => simp at e; subst e; exact ⟨_, rfl, dx, [], upd_same, rfl, .nil⟩
        | succ j => simp at e
      · cases i <;> cases j <;> simp_all
    have args := gg.go (K := K) (N := Nl N x) (M := [some x]) (H := upd (upd H2 dx (.own x)) x (.ins C dx [])) (.cons (.cel (k := 0) (a := x) rfl) ((foot_nil (r1.go (s1.go k2)) f1 (M' := [some x])).go g2)) ((foot_nil r2 f2 (M' := [some x])).go g2)
    refine ⟨args.length.trans l3, Nl N x, [some x], _, _, _, st3, args, q, ?_⟩
    intro v H3 s' μ3 kp st4 rs ⟨es, C', ns, ds, em, q3⟩
    subst es em
    refine ⟨rs.d_inv.non_inv, ?_⟩
    obtain ⟨c0, h1', h2'⟩ := st4.cell 0 x rfl
    have e0 : c0 = .obj C' ns ds := (Option.some.inj (Option.some.inj h1')).symm
    subst e0
    have lessN : Go (Nl N x) H3 N H3 := Go.less fun b z => .inl z
    have data : Is K N H3 (.ref x) (.ins C' ns ds) := (h2'.go lessN rfl).data nx
    have k3 : Kp M H2 H3 := fun b o n e => by
      have e1 : b ≠ x := ne_of_none e hx
      have e2 : b ≠ dx := ne_of_none e hdx
      refine kp b o (fun z => (inM_one z).elim e1 fun t => n (.inr t)) ?_
      rw [upd_ne e1, upd_ne e2]; exact e
    have g3 : Go N H2 N H3 := s2.go k3
    have st5 : StR K N M H3 μ2 := by
      refine ⟨s2.len, s2.sub, fun a z => st4.trk a (.inl z), fun j a e => ?_, s2.inj, st4.tab⟩
      obtain ⟨cc, h1, h2⟩ := s2.cell j a e
      refine ⟨cc, h1, ?_⟩
      have hN := s2.sub a (inM.of e)
      obtain ⟨o, ho⟩ := s2.trk a hN
      have e1 : a ≠ x := ne_of_none ho hx
      have e2 : a ≠ dx := ne_of_none ho hdx
      have ea : H3 a = H2 a := by
        rw [ho]
        refine kp a o (fun z => (inM_one z).elim e1 fun t => s2.notT e t) ?_
        rw [upd_ne e1, upd_ne e2]; exact ho
      exact h2.go g3 ea
    exact c _ _ _ _ ((k1.trans k2).trans k3) st5 (.d data) q3
/-- self.f = e -/
def dSFld (K : PySem.W.Frag) (A B : TD) (f : Str) : TSd := fun D ρ μ => B ρ μ fun y μ1 => A ρ μ1 fun x μ2 => ∃ k C ns ds d, x = .cel k ∧ y = .d d ∧ μ2[k]? = some (some (.obj C ns ds)) ∧ Cls K C ∧ NoAttr K C f ∧ ns.contains f = false ∧ ns.length < 100 ∧ ns.length = ds.length ∧
  D.nx ρ (μ2.set k (some (.obj C (ns ++ [f]) (ds ++ [d]))))
theorem putF_new {f : Str} {y : V} : ∀ {fs : List (Str × V)}, (fs.map (·.1)).contains f = false → putF f y fs = fs ++ [(f, y)]
  | [], _ => rfl
  | (g, z) :: r, h => by
    simp only [List.map_cons, List.contains_cons, Bool.or_eq_false_iff] at h
    have hg : ¬ (g = f) := fun e => by
      have := h.1
      rw [e] at this
      simp at this
    have e := putF_new (y := y) h.2
    unfold putF
    first
      | rw [if_neg hg, e]; rfl
      | rw [if_neg (Ne.symm hg), e]; rfl
instance {to te : TE} {A B : TD} {f : Str} [a : SdE K to A] [b : SdE K te B] : SdS K (sFld K to te f) (dSFld K A B f) where
  go := by
    intro E N M σ H ρ μ De Dd s h e
    refine b.go N M σ H ρ μ _ _ s.er h fun u H1 y μ1 k1 s1 r1 h1 => ?_
    refine a.go N M σ H1 ρ μ1 _ _ (s.er.go k1 s1) h1 fun v H2 x μ2 k2 s2 r2 ⟨k, C, ns, ds, d, e1, e2, hk, c1, c2, hf, hl, hd, q⟩ => ?_
    subst e1 e2
    obtain ⟨p, rfl, hp⟩ := r2.cel_inv
    obtain ⟨cl, h1, h2⟩ := s2.cell k p hp
    rw [hk] at h1
    cases h1
    obtain ⟨dx, us, hu, lu, ru⟩ := h2
    refine ⟨p, C, dx, _, rfl, hu, c1, c2, ?_, ?_⟩
    · rw [List.length_zip]; omega
    have hN : N p := s2.sub p (inM.of hp)
    have e2 : putF f u (ns.zip us) = (ns ++ [f]).zip (us ++ [u]) := by
      rw [putF_new, List.zip_append lu]
      · rfl
      · have : (ns.zip us).map (·.1) = ns := by
          rw [List.map_fst_zip]
          omega
        rw [this]; exact hf
    rw [e2]
    have gw : ∀ o, Go N H2 N (upd H2 p o) := fun o b w n h => ⟨n, by rw [upd_ne (fun e => n (by rw [e]; exact hN))]; exact h⟩
    obtain ⟨s3, k3⟩ := s2.write (o := .ins C dx ((ns ++ [f]).zip (us ++ [u]))) (c := .obj C (ns ++ [f]) (ds ++ [d])) hp ⟨dx, us ++ [u], upd_same, by simp [lu], (ru.append (.cons ((r1.go (s1.go k2)).d_inv) .nil)).go (gw _)⟩
    exact e.nx _ _ _ _ _ _ (s.exp ((k1.trans k2).trans k3) s3) q
end
end Dl
set_option Elab.async false
set_option linter.all false
set_option maxRecDepth 100000
set_option maxHeartbeats 4000000
/-! ## D7. Several names at once; the walk's steps -/
namespace Dl
open PySem PySem.Spec PyProof.Rows L2 Cm
variable [Tb : Tbls]
section
variable {K : PySem.W.Frag}
def dPar (i j : Nat) (A : TAd) : TSd := fun D ρ μ => A ρ μ fun ss μ1 => ∃ x y, ss = [x, y] ∧ D.nx ((ρ.set i (some x)).set j (some y)) μ1
instance {i j : Nat} {t : TA} {A : TAd} [a : SdA K t A] : SdS K (tPar i j t) (dPar i j A) where
  go := by
    intro E N M σ H ρ μ De Dd s h e
    refine a.go N M σ H ρ μ _ _ s.er h fun vs H' ss μ' k st r ⟨x, y, ex, q⟩ => ?_
    subst ex
    obtain ⟨v, w, rfl, r1, r2⟩ := isSA2 r
    have s' := s.exp k st
    exact ⟨v, w, rfl, e.nx _ _ _ _ _ _ (s'.go Kp.refl ⟨(s'.er.env.set r1).set r2, st⟩) q⟩
def dPar3 (i j l : Nat) (A : TAd) : TSd := fun D ρ μ => A ρ μ fun ss μ1 => ∃ x y z, ss = [x, y, z] ∧ D.nx (((ρ.set i (some x)).set j (some y)).set l (some z)) μ1
theorem isSA3 {N : Addr → Prop} {M : Ms} {H : Hp} {vs : List V} {x y z : S} (r : IsSA K N M H vs [x, y, z]) : ∃ v w u, vs = [v, w, u] ∧ IsS K N M H v x ∧ IsS K N M H w y ∧ IsS K N M H u z := by
  cases r with
  | cons a r =>
    cases r with
    | cons b r =>
      cases r with
      | cons c r => cases r; exact ⟨_, _, _, rfl, a, b, c⟩
instance {i j l : Nat} {t : TA} {A : TAd} [a : SdA K t A] : SdS K (tPar3 i j l t) (dPar3 i j l A) where
  go := by
    intro E N M σ H ρ μ De Dd s h e
    refine a.go N M σ H ρ μ _ _ s.er h fun vs H' ss μ' k st r ⟨x, y, z, ex, q⟩ => ?_
    subst ex
    obtain ⟨v, w, u, rfl, r1, r2, r3⟩ := isSA3 r
    have s' := s.exp k st
    exact ⟨v, w, u, rfl, e.nx _ _ _ _ _ _ (s'.go Kp.refl ⟨((s'.er.env.set r1).set r2).set r3, st⟩) q⟩
/-! ### rows some of whose items are new lists that will change -/
inductive R where
  | s (x : S)
  | nw (ds : List D)
/-- H0: the heap ahead of the row; ls: where the new lists stand -/
inductive IsR (K : PySem.W.Frag) (H0 : Hp) (N : Addr → Prop) (M : Ms) (H : Hp) : List V → List R → List Addr → Prop
  | nil : IsR K H0 N M H [] [] []
  | s {v : V} {x : S} {vs : List V} {rs : List R} {ls : List Addr} : IsS K N M H v x → IsR K H0 N M H vs rs ls → IsR K H0 N M H (v :: vs) (.s x :: rs) ls
  | nw {l : Addr} {us : List V} {ds : List D} {vs : List V} {rs : List R} {ls : List Addr} : H0 l = none → N l → ¬ inM M l → l ∉ ls → H l = some (.lst us) → IsAll K N H us ds → IsR K H0 N M H vs rs ls → IsR K H0 N M H (.ref l :: vs) (.nw ds :: rs) (l :: ls)
/-- N' is N and what is new since H -/
def Grow (N : Addr → Prop) (H : Hp) (N' : Addr → Prop) : Prop := (∀ b, N b → N' b) ∧ ∀ b, N' b → N b ∨ H b = none
class SdR (K : PySem.W.Frag) (t : TA) (T : outParam (Rho → Mu → (List R → Mu → Prop) → Prop)) : Prop where
  go : ∀ N M σ H ρ μ (Qd : List R → Mu → Prop) (Qv : List V → Hp → Prop), ER K N M σ H ρ μ → T ρ μ Qd →
    (∀ vs H' N' rs ls μ', Kp M H H' → Grow N H N' → StR K N' M H' μ' → IsR K H N' M H' vs rs ls → Qd rs μ' → Qv vs H') → t σ H Qv
def dRnil : Rho → Mu → (List R → Mu → Prop) → Prop := fun _ μ Q => Q [] μ
instance : SdR K tNil dRnil where
  go := fun N M σ H ρ μ Qd Qv er h c => c [] H N [] [] μ Kp.refl ⟨fun _ z => z, fun _ z => .inl z⟩ er.st .nil h
theorem Grow.go {N N' : Addr → Prop} {H H' : Hp} {M : Ms} (g : Grow N H N') (k : Kp M H H') (s : ∀ b, inM M b → N b) : Go N H N' H' := fun b o n e =>
  ⟨fun z => (g.2 b z).elim n (fun h => (by rw [h] at e; cases e)), k b o (fun z => n (s b z)) e⟩
theorem none_back {N : Addr → Prop} {M : Ms} {H H' : Hp} {μ : Mu} {p : Addr} (s : StR K N M H μ) (k : Kp M H H') (t : ∀ a, N a → ∃ o, H' a = some o) (hp : H' p = none) : H p = none := by
  cases e : H p with
  | none => rfl
  | some o =>
    by_cases z : inM M p
    · obtain ⟨o', e'⟩ := t p (s.sub p z)
      rw [e'] at hp; cases hp
    · rw [k p o z e] at hp; cases hp
theorem IsR.back {H0 H1 : Hp} {N' : Addr → Prop} {M : Ms} {H : Hp} (f : ∀ p, H1 p = none → H0 p = none) : ∀ {vs : List V} {rs : List R} {ls : List Addr}, IsR K H1 N' M H vs rs ls → IsR K H0 N' M H vs rs ls
  | _, _, _, .nil => .nil
  | _, _, _, .s a r => .s a (IsR.back f r)
  | _, _, _, .nw h a b c d e r => .nw (f _ h) a b c d e (IsR.back f r)
theorem IsR.fresh {H0 : Hp} {N' : Addr → Prop} {M : Ms} {H : Hp} : ∀ {vs : List V} {rs : List R} {ls : List Addr}, IsR K H0 N' M H vs rs ls → ∀ l ∈ ls, H0 l = none
  | _, _, _, .nil, l, h => nomatch h
  | _, _, _, .s a r, l, h => IsR.fresh r l h
  | _, _, _, .nw h a b c d e r, l, hl => by
    rcases List.mem_cons.mp hl with z | z
    · rw [z]; exact h
    · exact IsR.fresh r l z
def dRcons (A : TD) (B : Rho → Mu → (List R → Mu → Prop) → Prop) : Rho → Mu → (List R → Mu → Prop) → Prop := fun ρ μ Q => A ρ μ fun x μ1 => B ρ μ1 fun rs μ2 => Q (.s x :: rs) μ2
instance {ta : TE} {tr : TA} {A : TD} {B : Rho → Mu → (List R → Mu → Prop) → Prop} [a : SdE K ta A] [b : SdR K tr B] : SdR K (tCons ta tr) (dRcons A B) where
  go := by
    intro N M σ H ρ μ Qd Qv er h c
    refine a.go N M σ H ρ μ _ _ er h fun v H1 x μ1 k1 s1 r1 h1 => ?_
    refine b.go N M σ H1 ρ μ1 _ _ (er.go k1 s1) h1 fun vs H2 N' rs ls μ2 k2 g2 s2 r2 h2 => ?_
    have f : ∀ p, H1 p = none → H p = none := fun p hp => none_back er.st k1 s1.trk hp
    exact c _ _ N' _ ls _ (k1.trans k2) ⟨g2.1, fun b z => (g2.2 b z).elim .inl fun h => .inr (f b h)⟩ s2 (.s (r1.go (g2.go k2 s1.sub)) (r2.back f)) h2
def tConsM (ta : TE) (tr : TA) : TA := tCons ta tr
theorem pa_consM {X : Cx} {e : Expr} {es : List Expr} {te : TE} {t : TA} (ha : PE X e te) (hr : PA X es t) (hs : starEach (e :: es) X.env = (false, eval e X.env) :: starEach es X.env := by rfl) : PA X (e :: es) (tConsM te t) := pa_cons ha hr hs
def dRconsM (A : TNd) (B : Rho → Mu → (List R → Mu → Prop) → Prop) : Rho → Mu → (List R → Mu → Prop) → Prop := fun ρ μ Q => A ρ μ fun ds μ1 => B ρ μ1 fun rs μ2 => Q (.nw ds :: rs) μ2
instance {ta : TE} {tr : TA} {A : TNd} {B : Rho → Mu → (List R → Mu → Prop) → Prop} [a : SdN K ta A] [b : SdR K tr B] : SdR K (tConsM ta tr) (dRconsM A B) where
  go := by
    intro N M σ H ρ μ Qd Qv er h c
    refine a.go N M σ H ρ μ _ _ er h fun l H1 us ds μ1 k1 hl h' s1 r1 h1 => ?_
    have nl : ¬ N l := er.st.notN hl
    have mM : ¬ inM M l := fun z => nl (er.st.sub l z)
    have g1 : Go N H (Nl N l) H1 := fun b o n e => ⟨fun z => z.elim n (fun e2 => (by rw [e2, hl] at e; cases e)), k1 b o (fun z => n (er.st.sub b z)) e⟩
    refine b.go (Nl N l) M σ H1 ρ μ1 _ _ ⟨er.env.go g1, s1⟩ h1 fun vs H2 N' rs ls μ2 k2 g2 s2 r2 h2 => ?_
    have f : ∀ p, H1 p = none → H p = none := fun p hp => none_back er.st k1 (fun a z => s1.trk a (.inl z)) hp
    have nls : l ∉ ls := fun z => by
      have := r2.fresh l z
      rw [h'] at this; cases this
    refine c _ _ N' _ (l :: ls) _ (k1.trans k2) ⟨fun b z => g2.1 b (.inl z), fun b z => ?_⟩ s2 (.nw hl (g2.1 l (.inr rfl)) mM nls (k2 l _ mM h') (r1.go (g2.go k2 s1.sub)) (r2.back f)) h2
    rcases g2.2 b z with z | z
    · rcases z with z | z
      · exact .inl z
      · rw [z]; exact .inr hl
    · exact .inr (f b z)
/-- the new lists become cells -/
def place : List R → Mu → List S × Mu
  | [], μ => ([], μ)
  | .s x :: r, μ => (x :: (place r μ).1, (place r μ).2)
  | .nw ds :: r, μ => (.cel μ.length :: (place r (μ ++ [some (.lst ds)])).1, (place r (μ ++ [some (.lst ds)])).2)
theorem SR.cellAt {E : En} {N : Addr → Prop} {M : Ms} {σ : L2.St} {H : Hp} {ρ : Rho} {μ : Mu} {l : Addr} {vs : List V} {ds : List D} (s : SR K E N M σ H ρ μ) (n : N l) (hE : E.H l = none) (hM : ¬ inM M l) (h : H l = some (.lst vs)) (r : IsAll K N H vs ds) :
    SR K E N (M ++ [some l]) σ H ρ (μ ++ [some (.lst ds)]) ∧ (M ++ [some l])[μ.length]? = some (some l) ∧ ∀ {v : V} {x : S}, IsS K N M H v x → IsS K N (M ++ [some l]) H v x := by
  have hl := s.er.st.len
  have up : ∀ {k : Nat} {a : Addr}, M[k]? = some (some a) → (M ++ [some l])[k]? = some (some a) := fun {k a} e => by
    rw [List.getElem?_append_left (List.getElem?_eq_some_iff.mp e).1]; exact e
  have upS : ∀ {v : V} {x : S}, IsS K N M H v x → IsS K N (M ++ [some l]) H v x := fun {v x} h => by
    cases h with
    | d z => exact .d z
    | cel z => exact .cel (up z)
  have env : EnvR K N (M ++ [some l]) σ H ρ := ⟨s.er.env.len, fun i x q => by
    obtain ⟨v, h1, h2⟩ := s.er.env.at_ i x q
    exact ⟨v, h1, upS h2⟩⟩
  have at_ : (M ++ [some l])[μ.length]? = some (some l) := by rw [← hl]; simp
  have split : ∀ {k : Nat} {a : Addr}, (M ++ [some l])[k]? = some (some a) → M[k]? = some (some a) ∨ (k = M.length ∧ a = l) := fun {k a} e => by
    by_cases hk : k < M.length
    · rw [List.getElem?_append_left hk] at e; exact .inl e
    · have : k < (M ++ [some l]).length := (List.getElem?_eq_some_iff.mp e).1
      rw [List.length_append, List.length_singleton] at this
      have hk' : k = M.length := by omega
      subst hk'
      simp at e
      exact .inr ⟨rfl, e.symm⟩
  refine ⟨⟨⟨env, ⟨by simp [hl], fun a z => ?_, s.er.st.trk, fun k a e => ?_, fun j k a e1 e2 => ?_, s.er.st.tab⟩⟩, s.sub0, s.trk0, s.kp, ?_, s.nn, s.n0⟩, at_, upS⟩
  · rcases inM_app z with z | z
    · exact s.er.st.sub a z
    · have e : a = l := by simpa using z
      rw [e]; exact n
  · rcases split e with e | ⟨e1, e2⟩
    · obtain ⟨c, h1, h2⟩ := s.er.st.cell k a e
      exact ⟨c, by rw [List.getElem?_append_left (List.getElem?_eq_some_iff.mp h1).1]; exact h1, h2⟩
    · subst e1 e2
      exact ⟨.lst ds, by rw [hl]; simp, ⟨vs, h, r⟩⟩
  · rcases split e1 with f1 | ⟨f1, g1⟩ <;> rcases split e2 with f2 | ⟨f2, g2⟩
    · exact s.er.st.inj j k a f1 f2
    · subst g2; exact absurd (inM.of f1) hM
    · subst g1; exact absurd (inM.of f2) hM
    · rw [f1, f2]
  · obtain ⟨X, e, hX⟩ := s.ext
    refine ⟨X ++ [some l], by rw [e, List.append_assoc], fun a z => ?_⟩
    rcases List.mem_append.mp z with z | z
    · exact hX a z
    · have e : a = l := by simpa using z
      rw [e]; exact hE
theorem place_ok {E : En} {H0 : Hp} {N : Addr → Prop} {H : Hp} (hE : ∀ p, H0 p = none → E.H p = none) : ∀ {vs : List V} {rs : List R} {ls : List Addr} {M : Ms} {σ : L2.St} {ρ : Rho} {μ : Mu}, IsR K H0 N M H vs rs ls → SR K E N M σ H ρ μ →
    ∃ M', SR K E N M' σ H ρ (place rs μ).2 ∧ IsSA K N M' H vs (place rs μ).1 ∧ ∀ {v : V} {x : S}, IsS K N M H v x → IsS K N M' H v x
  | _, _, _, M, _, _, _, .nil, s => ⟨M, s, .nil, fun h => h⟩
  | _, _, _, M, _, _, _, .s a r, s => by
    obtain ⟨M', s', r', up⟩ := place_ok hE r s
    exact ⟨M', s', .cons (up a) r', up⟩
  | _, _, _, M, σ, ρ, μ, .nw (l := l) h0 n hM nl h ra r, s => by
    obtain ⟨s1, at_, up1⟩ := s.cellAt n (hE l h0) hM h ra
    have re : ∀ {vs : List V} {rs : List R} {ls : List Addr}, IsR K H0 N M H vs rs ls → l ∉ ls → IsR K H0 N (M ++ [some l]) H vs rs ls := by
      intro vs rs ls r
      induction r with
      | nil => intro _; exact .nil
      | s a r ih => intro z; exact .s (up1 a) (ih z)
      | nw q1 q2 q3 q4 q5 q6 r ih =>
        intro z
        refine .nw q1 q2 (fun y => ?_) q4 q5 q6 (ih fun y => z (List.mem_cons_of_mem _ y))
        rcases inM_app y with y | y
        · exact q3 y
        · have e := (Option.some.inj (List.mem_singleton.mp y))
          exact z (by rw [e]; exact List.mem_cons_self)
    obtain ⟨M', s', r', up⟩ := place_ok hE (re r nl) s1
    exact ⟨M', s', .cons (up (.cel at_)) r', fun h => up (up1 h)⟩
def tParM (i j : Nat) (ta : TA) : TS := tPar i j ta
def tPar3M (i j l : Nat) (ta : TA) : TS := tPar3 i j l ta
theorem ps_parM {X : Cx} {st : Stmt} {i j : Nat} {ta : TA} (h : PS X st (tPar i j ta)) : PS X st (tParM i j ta) := h
theorem ps_par3M {X : Cx} {st : Stmt} {i j l : Nat} {ta : TA} (h : PS X st (tPar3 i j l ta)) : PS X st (tPar3M i j l ta) := h
def dParM (i j : Nat) (A : Rho → Mu → (List R → Mu → Prop) → Prop) : TSd := fun D ρ μ => A ρ μ fun rs μ1 => ∃ x y, (place rs μ1).1 = [x, y] ∧ D.nx ((ρ.set i (some x)).set j (some y)) (place rs μ1).2
def dPar3M (i j l : Nat) (A : Rho → Mu → (List R → Mu → Prop) → Prop) : TSd := fun D ρ μ => A ρ μ fun rs μ1 => ∃ x y z, (place rs μ1).1 = [x, y, z] ∧ D.nx (((ρ.set i (some x)).set j (some y)).set l (some z)) (place rs μ1).2
theorem row_ok {E : En} {N N' : Addr → Prop} {M : Ms} {σ : L2.St} {H H' : Hp} {ρ : Rho} {μ μ' : Mu} {vs : List V} {rs : List R} {ls : List Addr} (s : SR K E N M σ H ρ μ) (k : Kp M H H') (g : Grow N H N') (st : StR K N' M H' μ') (r : IsR K H N' M H' vs rs ls) :
    ∃ M', SR K E N' M' σ H' ρ (place rs μ').2 ∧ IsSA K N' M' H' vs (place rs μ').1 := by
  have none_ : ∀ p, H p = none → E.H p = none := fun p hp => by
    cases z : E.H p with
    | none => rfl
    | some o =>
      by_cases zz : inM E.M p
      · obtain ⟨o', e'⟩ := s.er.st.trk p (s.n0 p (s.sub0 p zz))
        rw [e'] at hp; cases hp
      · rw [s.kp p o zz z] at hp; cases hp
  have s1 : SR K E N' M σ H' ρ μ' := ⟨⟨s.er.env.go (g.go k s.er.st.sub), st⟩, s.sub0, s.trk0, s.kpE k, s.ext, fun b z => (g.2 b z).elim (s.nn b) fun h => .inr (none_ b h), fun b z => g.1 b (s.n0 b z)⟩
  obtain ⟨M', s', r', _⟩ := place_ok none_ r s1
  exact ⟨M', s', r'⟩
instance {i j : Nat} {t : TA} {A : Rho → Mu → (List R → Mu → Prop) → Prop} [a : SdR K t A] : SdS K (tParM i j t) (dParM i j A) where
  go := by
    intro E N M σ H ρ μ De Dd s h e
    refine a.go N M σ H ρ μ _ _ s.er h fun vs H' N' rs ls μ' k g st r ⟨x, y, ex, q⟩ => ?_
    obtain ⟨M', s', r'⟩ := row_ok s k g st r
    rw [ex] at r'
    obtain ⟨v, w, rfl, r1, r2⟩ := isSA2 r'
    exact ⟨v, w, rfl, e.nx _ _ _ _ _ _ (s'.go Kp.refl ⟨(s'.er.env.set r1).set r2, s'.er.st⟩) q⟩
instance {i j l : Nat} {t : TA} {A : Rho → Mu → (List R → Mu → Prop) → Prop} [a : SdR K t A] : SdS K (tPar3M i j l t) (dPar3M i j l A) where
  go := by
    intro E N M σ H ρ μ De Dd s h e
    refine a.go N M σ H ρ μ _ _ s.er h fun vs H' N' rs ls μ' k g st r ⟨x, y, z, ex, q⟩ => ?_
    obtain ⟨M', s', r'⟩ := row_ok s k g st r
    rw [ex] at r'
    obtain ⟨v, w, u, rfl, r1, r2, r3⟩ := isSA3 r'
    exact ⟨v, w, u, rfl, e.nx _ _ _ _ _ _ (s'.go Kp.refl ⟨((s'.er.env.set r1).set r2).set r3, s'.er.st⟩) q⟩
/-! ### while -/
def dWhile (C : TTd) (B : TSd) : TSd := fun D ρ μ => ∃ W : Nat → NxD, (∃ m, W m ρ μ) ∧ ∀ m ρ' μ', W m ρ' μ' → C ρ' μ' fun b μ1 =>
  if b = true then B { nx := setl μ.length fun ρ2 μ2 => ∃ m', m' < m ∧ W m' ρ2 μ2, rt := D.rt, rtN := D.rtN, bs := μ.length, bk := setl μ.length D.nx, ct := setl μ.length fun ρ2 μ2 => ∃ m', m' < m ∧ W m' ρ2 μ2 } ρ' μ1 else D.nx ρ' μ1
instance {c : TT} {tb : TS} {C : TTd} {B : TSd} [x : SdT K c C] [b : SdS K tb B] : SdS K (tWhile c tb) (dWhile C B) where
  go := by
    intro E N M σ H ρ μ De Dd s h e
    obtain ⟨W, ⟨m0, w0⟩, turn⟩ := h
    have len : μ.length = M.length := s.er.st.len.symm
    refine ⟨fun m σ' H' => ∃ ρ' μ', SR K ⟨N, M, H⟩ N M σ' H' ρ' μ' ∧ W m ρ' μ', ⟨m0, ρ, μ, s.start, w0⟩, ?_⟩
    rintro m σ' H' ⟨ρ', μ', sr, w⟩
    refine x.go N M σ' H' ρ' μ' _ _ sr.er (turn m ρ' μ' w) fun bb H1 μ1 k1 st1 q => ?_
    have sr1 := sr.exp k1 st1
    have back : ∀ {N' : Addr → Prop} {M' : Ms} {σ4 : L2.St} {H4 : Hp} {ρ4 : Rho} {μ4 : Mu}, SR K ⟨N, M, H⟩ N' M' σ4 H4 ρ4 μ4 → SR K ⟨N, M, H⟩ N M σ4 H4 (ρ4.map (stl μ.length μ4)) (μ4.take μ.length) := fun t => by
      have t' := t.back
      rw [len]
      exact t'
    cases bb with
    | false => exact e.nx _ _ _ _ _ _ (s.trans sr1) q
    | true =>
      refine ⟨fun σ2 H2 => ∃ m', m' < m ∧ ∃ ρ2 μ2, SR K ⟨N, M, H⟩ N M σ2 H2 ρ2 μ2 ∧ W m' ρ2 μ2, fun σ2 H2 p => p, ?_⟩
      refine b.go ⟨N, M, H⟩ N M σ' H1 ρ' μ1 _ _ sr1 q ⟨len, fun N' M' σ4 H4 ρ4 μ4 t ⟨m', hm, q4⟩ => ⟨m', hm, _, _, back t, q4⟩, fun N' M' σ4 H4 ρ4 μ4 t q4 => e.nx _ _ _ _ _ _ (s.trans (back t)) q4,
        fun N' M' σ4 H4 ρ4 μ4 t ⟨m', hm, q4⟩ => ⟨m', hm, _, _, back t, q4⟩, (e.here s).rt, (e.here s).rtN⟩
end
end Dl
namespace Dl
open PySem PySem.Spec PyProof.Rows L2 Cm
variable [Tb : Tbls]
theorem ps_setLcM {X : Cx} {i : Nat} {y : Str} {py : Pos} {elt tg iter : Expr} {ifs : List Expr} {scope : Scope} {own : List (Str × Nat)} {pos spos : Pos} {wi : TI} {g : TG} {tt : TT} {te : TE} (hc : X.calm = true) (hN : X.N.Nodup) (hy : X.N[i]? = some y) (hyl : X.env.scope.names.lookup y = some .local)
    (hsw : swapsWith (.ListComp elt [⟨tg, iter, ifs, 0⟩] scope pos) (some (.Name y py)) spos.line X.env = pure true) (hi : PI X tg iter wi) (ok : BlkOk X.N X.env.scope scope own)
    (hg : ∀ (s : Shared) (H : Hp) (C : Addr) (cl : List (Str × Addr)) (fp : List Addr), PG (X.blk s H scope (compEnvC scope cl C X.env) fp) tg g) (ht : ∀ (s : Shared) (H : Hp) (C : Addr) (cl : List (Str × Addr)) (fp : List Addr), PTs (X.blk s H scope (compEnvC scope cl C X.env) fp) ifs tt)
    (he : ∀ (s : Shared) (H : Hp) (C : Addr) (cl : List (Str × Addr)) (fp : List Addr), PE (X.blk s H scope (compEnvC scope cl C X.env) fp) elt te) (hs : ∀ x, foldedSetIterable iter X.env x = pure x := by intro _; rfl) :
    PS X (.Assign [.Name y py] (.ListComp elt [⟨tg, iter, ifs, 0⟩] scope pos) spos) (tAsgM (tLc wi g tt te (own.map (·.2))) (gName i)) := ps_setLc hc hN hy hyl hsw hi ok hg ht he hs
end Dl
set_option Elab.async false
set_option linter.all false
set_option maxRecDepth 100000
set_option maxHeartbeats 4000000
/-! ## D8. One step of a reading of data -/
namespace Dl
open PySem PySem.Spec PyProof.Rows L2 Cm
variable [Tb : Tbls]
/-- it is enough to show B -/
class Stp (A : Prop) (B : outParam Prop) : Prop where
  go : B → A
theorem stp {A B : Prop} [h : Stp A B] (b : B) : A := h.go b
/-! rows by places -/
class LGet {α : Type} (i : Nat) (l : List α) (x : outParam α) : Prop where
  eq : l[i]? = some x
instance {α : Type} {x : α} {l : List α} : LGet 0 (x :: l) x := ⟨rfl⟩
instance {α : Type} {x y : α} {l : List α} {i : Nat} [h : LGet i l x] : LGet (i + 1) (y :: l) x := ⟨by rw [List.getElem?_cons_succ]; exact h.eq⟩
class LSet {α : Type} (i : Nat) (x : α) (l : List α) (l' : outParam (List α)) : Prop where
  eq : l.set i x = l'
instance {α : Type} {x : α} {i : Nat} : LSet i x [] [] := ⟨rfl⟩
instance {α : Type} {x y : α} {l : List α} : LSet 0 x (y :: l) (x :: l) := ⟨rfl⟩
instance {α : Type} {x y : α} {l l' : List α} {i : Nat} [h : LSet i x l l'] : LSet (i + 1) x (y :: l) (y :: l') := ⟨by rw [List.set_cons_succ, h.eq]⟩
class LTk {α : Type} (n : Nat) (l : List α) (l' : outParam (List α)) : Prop where
  eq : l.take n = l'
instance {α : Type} {l : List α} : LTk 0 l [] := ⟨rfl⟩
instance {α : Type} {n : Nat} : LTk n ([] : List α) [] := ⟨by simp⟩
instance {α : Type} {x : α} {l l' : List α} {n : Nat} [h : LTk n l l'] : LTk (n + 1) (x :: l) (x :: l') := ⟨by rw [List.take_succ_cons, h.eq]⟩
class LLen {α : Type} (l : List α) (n : outParam Nat) : Prop where
  eq : l.length = n
instance {α : Type} : LLen ([] : List α) 0 := ⟨rfl⟩
instance {α : Type} {x : α} : LLen [x] 1 := ⟨rfl⟩
instance {α : Type} {x y : α} : LLen [x, y] 2 := ⟨rfl⟩
instance {α : Type} {x y z : α} : LLen [x, y, z] 3 := ⟨rfl⟩
instance {α : Type} {x y z u : α} : LLen [x, y, z, u] 4 := ⟨rfl⟩
instance {α : Type} {x y z u v : α} : LLen [x, y, z, u, v] 5 := ⟨rfl⟩
class LAdd {α : Type} (l : List α) (x : α) (l' : outParam (List α)) : Prop where
  eq : l ++ [x] = l'
instance {α : Type} {x : α} : LAdd [] x [x] := ⟨rfl⟩
instance {α : Type} {x y : α} {l l' : List α} [h : LAdd l x l'] : LAdd (y :: l) x (y :: l') := ⟨by rw [List.cons_append, h.eq]⟩
/-! data -/
class Dts (ss : List S) (ds : outParam (List D)) : Prop where
  eq : datas ss = some ds
instance : Dts [] [] := ⟨rfl⟩
instance {x : D} {r : List S} {ds : List D} [h : Dts r ds] : Dts (.d x :: r) (x :: ds) := ⟨by simp only [datas, h.eq, Option.map_some]⟩
/-- what a settled slot holds -/
class Stl1 (b : Nat) (μ : Mu) (x : Option S) (y : outParam (Option S)) : Prop where
  eq : stl b μ x = y
instance {b : Nat} {μ : Mu} : Stl1 b μ none none := ⟨rfl⟩
instance {b : Nat} {μ : Mu} {x : D} : Stl1 b μ (some (.d x)) (some (.d x)) := ⟨rfl⟩
instance (priority := low) {b : Nat} {μ : Mu} {x : Option S} : Stl1 b μ x (stl b μ x) := ⟨rfl⟩
class NLt (a b : Nat) : Prop where
  lt : a < b
instance {b : Nat} : NLt 0 (b + 1) := ⟨Nat.zero_lt_succ _⟩
instance {a b : Nat} [h : NLt a b] : NLt (a + 1) (b + 1) := ⟨Nat.succ_lt_succ h.lt⟩
class NLe (a b : Nat) : Prop where
  le : a ≤ b
instance {b : Nat} : NLe 0 b := ⟨Nat.zero_le _⟩
instance {a b : Nat} [h : NLe a b] : NLe (a + 1) (b + 1) := ⟨Nat.succ_le_succ h.le⟩
instance {b k : Nat} {μ : Mu} [h : NLt k b] : Stl1 b μ (some (.cel k)) (some (.cel k)) := ⟨by simp only [stl, if_pos h.lt]⟩
instance {b k : Nat} {μ : Mu} {ds : List D} [h : NLe b k] [g : LGet k μ (some (.lst ds))] : Stl1 b μ (some (.cel k)) (some (.d (.lst ds))) := ⟨by simp only [stl, if_neg (Nat.not_lt.mpr h.le), g.eq]⟩
instance {b k : Nat} {μ : Mu} {C : Addr} {ns : List Str} {ds : List D} [h : NLe b k] [g : LGet k μ (some (.obj C ns ds))] : Stl1 b μ (some (.cel k)) (some (.d (.ins C ns ds))) := ⟨by simp only [stl, if_neg (Nat.not_lt.mpr h.le), g.eq]⟩
class StlA (b : Nat) (μ : Mu) (ρ : Rho) (ρ' : outParam Rho) : Prop where
  eq : ρ.map (stl b μ) = ρ'
instance {b : Nat} {μ : Mu} : StlA b μ [] [] := ⟨rfl⟩
instance {b : Nat} {μ : Mu} {x y : Option S} {r r' : Rho} [h : Stl1 b μ x y] [g : StlA b μ r r'] : StlA b μ (x :: r) (y :: r') := ⟨by rw [List.map_cons, h.eq, g.eq]⟩
section
variable {K : PySem.W.Frag} {ρ ρ' : Rho} {μ μ' : Mu} {Q : QD} {nx bk ct : NxD} {rt : S → Mu → Prop} {rtN : List D → Mu → Prop} {bs : Nat} {A B C : TD} {TA : TAd}
/-! ends -/
instance {D : EndsD} : Stp (dNext D ρ μ) (D.nx ρ μ) := ⟨id⟩
instance : Stp (EndsD.nx ⟨nx, rt, rtN, bs, bk, ct⟩ ρ μ) (nx ρ μ) := ⟨id⟩
instance : Stp (EndsD.bk ⟨nx, rt, rtN, bs, bk, ct⟩ ρ μ) (bk ρ μ) := ⟨id⟩
instance : Stp (EndsD.ct ⟨nx, rt, rtN, bs, bk, ct⟩ ρ μ) (ct ρ μ) := ⟨id⟩
instance {s : S} : Stp (EndsD.rt ⟨nx, rt, rtN, bs, bk, ct⟩ s μ) (rt s μ) := ⟨id⟩
instance {s : List D} : Stp (EndsD.rtN ⟨nx, rt, rtN, bs, bk, ct⟩ s μ) (rtN s μ) := ⟨id⟩
instance {b : Nat} {k : NxD} [h : StlA b μ ρ ρ'] [g : LTk b μ μ'] : Stp (setl b k ρ μ) (k ρ' μ') := ⟨fun z => by unfold setl; rw [h.eq, g.eq]; exact z⟩
instance {b : Nat} [g : LTk b μ μ'] : Stp (exitN b Q ρ μ) (Q (.d .non) μ') := ⟨fun z => by unfold exitN; rw [g.eq]; exact z⟩
instance {b : Nat} {s y : S} [h : Stl1 b μ (some s) (some y)] [g : LTk b μ μ'] : Stp (exitD b Q s μ) (Q y μ') := ⟨fun z => ⟨y, h.eq, by rw [g.eq]; exact z⟩⟩
instance {b : Nat} {Q : List D → Mu → Prop} {ds : List D} [g : LTk b μ μ'] : Stp (exitF b Q ds μ) (Q ds μ') := ⟨fun z => by unfold exitF; rw [g.eq]; exact z⟩
/-! statements -/
instance {D : EndsD} {S T : TSd} : Stp (dSeq S T D ρ μ) (S ⟨T D, D.rt, D.rtN, D.bs, D.bk, D.ct⟩ ρ μ) := ⟨id⟩
instance {D : EndsD} : Stp (dBreak D ρ μ) (D.bk ρ μ) := ⟨id⟩
instance {D : EndsD} : Stp (dCont D ρ μ) (D.ct ρ μ) := ⟨id⟩
instance {D : EndsD} : Stp (dRet A D ρ μ) (A ρ μ D.rt) := ⟨id⟩
instance {D : EndsD} {N : TNd} : Stp (dRetF N D ρ μ) (N ρ μ D.rtN) := ⟨id⟩
instance {D : EndsD} : Stp (dRetN D ρ μ) (D.rt (.d .non) μ) := ⟨id⟩
instance {D : EndsD} : Stp (dDrop A D ρ μ) (A ρ μ fun _ μ' => D.nx ρ μ') := ⟨id⟩
instance {D : EndsD} {c : TTd} {S T : TSd} : Stp (dIfS c S T D ρ μ) (c ρ μ fun b μ' => if b = true then S D ρ μ' else T D ρ μ') := ⟨id⟩
instance {D : EndsD} {G : TGd} : Stp (dAsg A G D ρ μ) (A ρ μ fun s μ1 => G s ρ μ1 D.nx) := ⟨id⟩
instance {i : Nat} {s : S} {k : NxD} [h : LSet i (some s) ρ ρ'] : Stp (dName i s ρ μ k) (k ρ' μ) := ⟨fun z => by unfold dName; rw [h.eq]; exact z⟩
/-- a new cell for slot i -/
def newC (i : Nat) (ρ : Rho) (k : NxD) : List D → Mu → Prop := fun ds μ1 => k (ρ.set i (some (.cel μ1.length))) (μ1 ++ [some (.lst ds)])
instance {D : EndsD} {N : TNd} {i : Nat} : Stp (dAsgM N i D ρ μ) (N ρ μ (newC i ρ D.nx)) := ⟨id⟩
instance {i n : Nat} {k : NxD} {ds : List D} [l : LLen μ n] [h : LSet i (some (.cel n)) ρ ρ'] [g : LAdd μ (some (.lst ds)) μ'] : Stp (newC i ρ k ds μ) (k ρ' μ') := ⟨fun z => by unfold newC; rw [l.eq, h.eq, g.eq]; exact z⟩
instance {D : EndsD} {i j : Nat} : Stp (dPar i j TA D ρ μ) (TA ρ μ fun ss μ1 => ∃ x y, ss = [x, y] ∧ D.nx ((ρ.set i (some x)).set j (some y)) μ1) := ⟨id⟩
instance {i j : Nat} {x y : S} {k : NxD} {ρ1 : Rho} [h : LSet i (some x) ρ ρ1] [g : LSet j (some y) ρ1 ρ'] : Stp (∃ a b, [x, y] = [a, b] ∧ k ((ρ.set i (some a)).set j (some b)) μ) (k ρ' μ) := ⟨fun z => ⟨x, y, rfl, by rw [h.eq, g.eq]; exact z⟩⟩
instance {D : EndsD} {i j l : Nat} : Stp (dPar3 i j l TA D ρ μ) (TA ρ μ fun ss μ1 => ∃ x y z, ss = [x, y, z] ∧ D.nx (((ρ.set i (some x)).set j (some y)).set l (some z)) μ1) := ⟨id⟩
instance {i j l : Nat} {x y w : S} {k : NxD} {ρ1 ρ2 : Rho} [h : LSet i (some x) ρ ρ1] [g : LSet j (some y) ρ1 ρ2] [f : LSet l (some w) ρ2 ρ'] : Stp (∃ a b c, [x, y, w] = [a, b, c] ∧ k (((ρ.set i (some a)).set j (some b)).set l (some c)) μ) (k ρ' μ) := ⟨fun z => ⟨x, y, w, rfl, by rw [h.eq, g.eq, f.eq]; exact z⟩⟩
/-! rows with new lists -/
class Plc (rs : List R) (μ : Mu) (ss : outParam (List S)) (μ' : outParam Mu) : Prop where
  eq : place rs μ = (ss, μ')
instance : Plc [] μ [] μ := ⟨rfl⟩
instance {x : S} {r : List R} {ss : List S} [h : Plc r μ ss μ'] : Plc (.s x :: r) μ (x :: ss) μ' := ⟨by unfold place; rw [h.eq]⟩
instance {ds : List D} {r : List R} {ss : List S} {n : Nat} {μ1 : Mu} [l : LLen μ n] [g : LAdd μ (some (.lst ds)) μ1] [h : Plc r μ1 ss μ'] : Plc (.nw ds :: r) μ (.cel n :: ss) μ' := ⟨by unfold place; rw [l.eq, g.eq, h.eq]⟩
abbrev TRd := Rho → Mu → (List R → Mu → Prop) → Prop
def plK (k : List S → Mu → Prop) : List R → Mu → Prop := fun rs μ => k (place rs μ).1 (place rs μ).2
instance {k : List S → Mu → Prop} {rs : List R} {ss : List S} [h : Plc rs μ ss μ'] : Stp (plK k rs μ) (k ss μ') := ⟨fun z => by unfold plK; rw [h.eq]; exact z⟩
instance {D : EndsD} {i j : Nat} {T : TRd} : Stp (dParM i j T D ρ μ) (T ρ μ (plK fun ss μ1 => ∃ x y, ss = [x, y] ∧ D.nx ((ρ.set i (some x)).set j (some y)) μ1)) := ⟨id⟩
instance {D : EndsD} {i j l : Nat} {T : TRd} : Stp (dPar3M i j l T D ρ μ) (T ρ μ (plK fun ss μ1 => ∃ x y z, ss = [x, y, z] ∧ D.nx (((ρ.set i (some x)).set j (some y)).set l (some z)) μ1)) := ⟨id⟩
instance {k : List R → Mu → Prop} : Stp (dRnil ρ μ k) (k [] μ) := ⟨id⟩
instance {k : List R → Mu → Prop} {T : TRd} : Stp (dRcons A T ρ μ k) (A ρ μ fun x μ1 => T ρ μ1 fun rs μ2 => k (.s x :: rs) μ2) := ⟨id⟩
instance {k : List R → Mu → Prop} {N : TNd} {T : TRd} : Stp (dRconsM N T ρ μ k) (N ρ μ fun ds μ1 => T ρ μ1 fun rs μ2 => k (.nw ds :: rs) μ2) := ⟨id⟩
/-! targets -/
instance {ds : List D} {n : Nat} {T : TGsd} {k : NxD} [l : LLen ds n] : Stp (dGtup n T (.d (.tup ds)) ρ μ k) (T ds ρ μ k) := ⟨fun z => ⟨ds, rfl, l.eq, z⟩⟩
instance {k : NxD} : Stp (dGnil [] ρ μ k) (k ρ μ) := ⟨fun z => ⟨rfl, z⟩⟩
instance {k : NxD} {x : D} {r : List D} {G : TGd} {T : TGsd} : Stp (dGcons G T (x :: r) ρ μ k) (G (.d x) ρ μ fun ρ' μ' => T r ρ' μ' k) := ⟨fun z => ⟨x, r, rfl, z⟩⟩
/-- o[i] = s, by values -/
def setK (s : S) (ρ : Rho) (q : NxD) (o i : S) (μ2 : Mu) : Prop := ∃ k z ds j d, o = .cel k ∧ i = .d (.int z) ∧ s = .d d ∧ μ2[k]? = some (some (.lst ds)) ∧ ixN ds.length z = some j ∧ q ρ (μ2.set k (some (.lst (ds.set j d))))
instance {s : S} {k : NxD} : Stp (dGsub A B s ρ μ k) (A ρ μ fun o μ1 => B ρ μ1 fun i μ2 => setK s ρ k o i μ2) := ⟨id⟩
/-- the place of a written index -/
class IxL (n : Nat) (z : Int) (j : outParam Nat) : Prop where
  eq : ixN n z = some j
instance {n : Nat} : IxL (n + 1) 0 0 := ⟨by unfold ixN; rw [if_pos (by decide), if_pos (by omega)]; rfl⟩
instance {n : Nat} : IxL (n + 2) 1 1 := ⟨by unfold ixN; rw [if_pos (by decide), if_pos (by omega)]; rfl⟩
instance {n : Nat} : IxL (n + 3) 2 2 := ⟨by unfold ixN; rw [if_pos (by decide), if_pos (by omega)]; rfl⟩
instance {n : Nat} : IxL (n + 4) 3 3 := ⟨by unfold ixN; rw [if_pos (by decide), if_pos (by omega)]; rfl⟩
instance {n : Nat} : IxL (n + 5) 4 4 := ⟨by unfold ixN; rw [if_pos (by decide), if_pos (by omega)]; rfl⟩
instance {d : D} {q : NxD} {k n j : Nat} {z : Int} {ds ds' : List D} [g : LGet k μ (some (.lst ds))] [l : LLen ds n] [ix : IxL n z j] [st : LSet j d ds ds'] [sm : LSet k (some (.lst ds')) μ μ'] : Stp (setK (.d d) ρ q (.cel k) (.d (.int z)) μ) (q ρ μ') :=
  ⟨fun w => ⟨k, z, ds, j, d, rfl, rfl, rfl, g.eq, by rw [l.eq]; exact ix.eq, by rw [st.eq, sm.eq]; exact w⟩⟩
/-! expressions -/
instance {i : Nat} {s : S} [h : LGet i ρ (some s)] : Stp (dVar i ρ μ Q) (Q s μ) := ⟨fun z => ⟨s, h.eq, z⟩⟩
instance {i : Int} : Stp (dC (.int i) ρ μ Q) (Q (.d (.int i)) μ) := ⟨fun z => ⟨_, rfl, z⟩⟩
instance {i : Str} : Stp (dC (.str i) ρ μ Q) (Q (.d (.str i)) μ) := ⟨fun z => ⟨_, rfl, z⟩⟩
instance {i : Bool} : Stp (dC (.bl i) ρ μ Q) (Q (.d (.bl i)) μ) := ⟨fun z => ⟨_, rfl, z⟩⟩
instance : Stp (dC .non ρ μ Q) (Q (.d .non) μ) := ⟨fun z => ⟨_, rfl, z⟩⟩
instance {n : String} : Stp (dC (.ty n) ρ μ Q) (Q (.d (.ty n)) μ) := ⟨fun z => ⟨_, rfl, z⟩⟩
instance {a : Addr} : Stp (dC (.ref a) ρ μ Q) (Q (.d (.ref a)) μ) := ⟨fun z => ⟨_, rfl, z⟩⟩
instance {rd : RD2} : Stp (dOp rd A B ρ μ Q) (A ρ μ fun x μ1 => B ρ μ1 fun y μ2 => rd x y μ2 Q) := ⟨id⟩
instance {rd : S → S → Mu → (List D → Mu → Prop) → Prop} {Q : List D → Mu → Prop} : Stp (dOpN rd A B ρ μ Q) (A ρ μ fun x μ1 => B ρ μ1 fun y μ2 => rd x y μ2 Q) := ⟨id⟩
instance {rd : RD1} : Stp (dUn rd A ρ μ Q) (A ρ μ fun x μ1 => rd x μ1 Q) := ⟨id⟩
instance {Q : List S → Mu → Prop} : Stp (dNil ρ μ Q) (Q [] μ) := ⟨id⟩
instance {Q : List S → Mu → Prop} : Stp (dCons A TA ρ μ Q) (A ρ μ fun x μ1 => TA ρ μ1 fun xs μ2 => Q (x :: xs) μ2) := ⟨id⟩
instance : Stp (dTup TA ρ μ Q) (TA ρ μ fun ss μ1 => ∃ ds, datas ss = some ds ∧ ds.length ≤ 1000 ∧ Q (.d (.tup ds)) μ1) := ⟨id⟩
instance {Q : List D → Mu → Prop} : Stp (dLst TA ρ μ Q) (TA ρ μ fun ss μ1 => ∃ ds, datas ss = some ds ∧ ds.length ≤ 1000 ∧ Q ds μ1) := ⟨id⟩
instance {ss : List S} {ds : List D} {P : List D → Prop} [h : Dts ss ds] : Stp (∃ x, datas ss = some x ∧ x.length ≤ 1000 ∧ P x) (ds.length ≤ 1000 ∧ P ds) := ⟨fun z => ⟨ds, h.eq, z⟩⟩
instance {N : TNd} : Stp (dOfN N ρ μ Q) (N ρ μ fun ds μ' => Q (.d (.lst ds)) μ') := ⟨id⟩
/-! tests -/
variable {T U : TTd} {QB : Bool → Mu → Prop}
instance : Stp (dIf T A B ρ μ Q) (T ρ μ fun b μ1 => if b = true then A ρ μ1 Q else B ρ μ1 Q) := ⟨id⟩
instance : Stp (dB A ρ μ QB) (A ρ μ fun s μ1 => ∃ b, s = .d (.bl b) ∧ QB b μ1) := ⟨id⟩
instance {c : Bool} {P : Bool → Prop} : Stp (∃ b, S.d (D.bl c) = .d (.bl b) ∧ P b) (P c) := ⟨fun z => ⟨c, rfl, z⟩⟩
instance : Stp (dAnd T U ρ μ QB) (T ρ μ fun b μ1 => if b = true then U ρ μ1 QB else QB false μ1) := ⟨id⟩
instance : Stp (dOr T U ρ μ QB) (T ρ μ fun b μ1 => if b = true then QB true μ1 else U ρ μ1 QB) := ⟨id⟩
instance : Stp (dNot T ρ μ QB) (T ρ μ fun b μ1 => QB (!b) μ1) := ⟨id⟩
instance : Stp (dAndV A B ρ μ Q) (A ρ μ fun s μ1 => ∃ b, s = .d (.bl b) ∧ if b = true then B ρ μ1 Q else Q (.d (.bl false)) μ1) := ⟨id⟩
instance : Stp (dOrV A B ρ μ Q) (A ρ μ fun s μ1 => ∃ b, s = .d (.bl b) ∧ if b = true then Q (.d (.bl true)) μ1 else B ρ μ1 Q) := ⟨id⟩
instance : Stp (dNotV A ρ μ Q) (A ρ μ fun s μ1 => ∃ b, s = .d (.bl b) ∧ Q (.d (.bl (!b))) μ1) := ⟨id⟩
instance {rd rd' : RD2} : Stp (dChain rd rd' A B C ρ μ Q) (A ρ μ fun x μ1 => B ρ μ1 fun y μ2 => rd x y μ2 fun z μ3 => ∃ b, z = .d (.bl b) ∧ if b = true then C ρ μ3 fun u μ4 => rd' y u μ4 Q else Q (.d (.bl false)) μ3) := ⟨id⟩
instance {P R : Prop} : Stp (if true = true then P else R) P := ⟨fun z => by rw [if_pos rfl]; exact z⟩
instance {P R : Prop} : Stp (if false = true then P else R) R := ⟨fun z => by rw [if_neg Bool.false_ne_true]; exact z⟩
/-! operators -/
variable {i j : Int}
instance {f : Int → Int → D} : Stp (dI f (.d (.int i)) (.d (.int j)) μ Q) (Q (.d (f i j)) μ) := ⟨fun z => ⟨i, j, rfl, rfl, z⟩⟩
instance : Stp (dDiv (.d (.int i)) (.d (.int j)) μ Q) (0 < j ∧ Sm j ∧ Q (.d (.int (i / j))) μ) := ⟨fun z => ⟨i, j, rfl, rfl, z⟩⟩
instance : Stp (dMod (.d (.int i)) (.d (.int j)) μ Q) (0 < j ∧ Q (.d (.int (i % j))) μ) := ⟨fun z => ⟨i, j, rfl, rfl, z⟩⟩
instance : Stp (dPow (.d (.int i)) (.d (.int j)) μ Q) (0 ≤ j ∧ j ≤ 1000000 ∧ i.natAbs < 2 ^ 64 ∧ Q (.d (.int (i ^ j.toNat))) μ) := ⟨fun z => ⟨i, j, rfl, rfl, z⟩⟩
instance : Stp (dAdd (.d (.int i)) (.d (.int j)) μ Q) (Q (.d (.int (i + j))) μ) := ⟨fun z => .inl ⟨i, j, rfl, rfl, z⟩⟩
instance {a b : Str} : Stp (dAdd (.d (.str a)) (.d (.str b)) μ Q) (a.length + b.length ≤ sizeLine ∧ Q (.d (.str (a ++ b))) μ) := ⟨fun z => .inr (.inl ⟨a, b, rfl, rfl, z⟩)⟩
instance {a b : List D} : Stp (dAdd (.d (.tup a)) (.d (.tup b)) μ Q) (a.length + b.length ≤ 1000 ∧ Q (.d (.tup (a ++ b))) μ) := ⟨fun z => .inr (.inr (.inl ⟨a, b, rfl, rfl, z⟩))⟩
instance {a b : List D} : Stp (dAdd (.d (.lst a)) (.d (.lst b)) μ Q) (a.length + b.length ≤ 1000 ∧ Q (.d (.lst (a ++ b))) μ) := ⟨fun z => .inr (.inr (.inr ⟨a, b, rfl, rfl, z⟩))⟩
instance {a b : List D} {Q : List D → Mu → Prop} : Stp (dAddN (.d (.lst a)) (.d (.lst b)) μ Q) (a.length + b.length ≤ 1000 ∧ Q (a ++ b) μ) := ⟨fun z => ⟨a, b, rfl, rfl, z⟩⟩
instance : Stp (dMul (.d (.int i)) (.d (.int j)) μ Q) (Sm i ∧ Sm j ∧ Q (.d (.int (i * j))) μ) := ⟨fun z => .inl ⟨i, j, rfl, rfl, z⟩⟩
instance {ds : List D} : Stp (dMul (.d (.lst ds)) (.d (.int j)) μ Q) (0 ≤ j ∧ j ≤ 1000 ∧ ds.length ≤ 1000 ∧ Q (.d (.lst (List.replicate j.toNat ds).flatten)) μ) := ⟨fun z => .inr ⟨ds, j, rfl, rfl, z⟩⟩
instance : Stp (dNeg (.d (.int i)) μ Q) (Q (.d (.int (-i))) μ) := ⟨fun z => ⟨i, rfl, z⟩⟩
theorem eqOk_int : eqOk (.int i) := ⟨rfl, rfl, rfl⟩
theorem eqOk_bl {b : Bool} : eqOk (.bl b) := ⟨rfl, rfl, rfl⟩
theorem eqOk_non : eqOk .non := ⟨rfl, rfl, rfl⟩
theorem eqD_int : eqD (.int i) (.int j) = decide (i = j) := by
  show (i == j) = decide (i = j)
  exact Bool.beq_eq_decide_eq i j
instance : Stp (dEq (.d (.int i)) (.d (.int j)) μ Q) (Q (.d (.bl (decide (i = j)))) μ) := ⟨fun z => ⟨_, _, rfl, rfl, .inr ⟨eqOk_int, eqOk_int, by rw [eqD_int]; exact z⟩⟩⟩
instance : Stp (dNe (.d (.int i)) (.d (.int j)) μ Q) (Q (.d (.bl (!decide (i = j)))) μ) := ⟨fun z => ⟨_, _, rfl, rfl, .inr ⟨eqOk_int, eqOk_int, by rw [eqD_int]; exact z⟩⟩⟩
theorem scEq_str {a b : Str} : scEq (.str a) (.str b) = decide (a = b) := by
  unfold scEq fV
  by_cases h : a = b
  · rw [h, decide_eq_true rfl, decide_eq_true rfl]
  · rw [decide_eq_false h, decide_eq_false (fun z => h (V.str.inj z))]
instance {a b : Str} : Stp (dEq (.d (.str a)) (.d (.str b)) μ Q) (Q (.d (.bl (decide (a = b)))) μ) := ⟨fun z => ⟨_, _, rfl, rfl, .inl ⟨⟨rfl, rfl, rfl⟩, by rw [scEq_str]; exact z⟩⟩⟩
instance {a b : Str} : Stp (dNe (.d (.str a)) (.d (.str b)) μ Q) (Q (.d (.bl (!decide (a = b)))) μ) := ⟨fun z => ⟨_, _, rfl, rfl, .inl ⟨⟨rfl, rfl, rfl⟩, by rw [scEq_str]; exact z⟩⟩⟩
instance (priority := low) {x y : D} : Stp (dEq (.d x) (.d y) μ Q) (eqOk x ∧ eqOk y ∧ Q (.d (.bl (eqD x y))) μ) := ⟨fun z => ⟨_, _, rfl, rfl, .inr z⟩⟩
instance (priority := low) {x y : D} : Stp (dNe (.d x) (.d y) μ Q) (eqOk x ∧ eqOk y ∧ Q (.d (.bl (!eqD x y))) μ) := ⟨fun z => ⟨_, _, rfl, rfl, .inr z⟩⟩
instance {x : S} : Stp (dIsN x (.d .non) μ Q) (Q (.d (.bl (isNon x))) μ) := ⟨fun z => ⟨rfl, z⟩⟩
instance {x : S} : Stp (dNotN x (.d .non) μ Q) (Q (.d (.bl (!isNon x))) μ) := ⟨fun z => ⟨rfl, z⟩⟩
/-! items -/
/-- what stands at a written index -/
class AtI (ds : List D) (i : Int) (d : outParam D) : Prop where
  eq : atI ds i = some d
instance {a : D} {r : List D} : AtI (a :: r) 0 a := ⟨atI_nat (j := 0) rfl⟩
instance {a b : D} {r : List D} : AtI (a :: b :: r) 1 b := ⟨atI_nat (j := 1) rfl⟩
instance {a b c : D} {r : List D} : AtI (a :: b :: c :: r) 2 c := ⟨atI_nat (j := 2) rfl⟩
instance {a b c d : D} {r : List D} : AtI (a :: b :: c :: d :: r) 3 d := ⟨atI_nat (j := 3) rfl⟩
instance {a b c d e : D} {r : List D} : AtI (a :: b :: c :: d :: e :: r) 4 e := ⟨atI_nat (j := 4) rfl⟩
instance {ds : List D} {d : D} [h : AtI ds i d] : Stp (dIx (.d (.lst ds)) (.d (.int i)) μ Q) (Q (.d d) μ) := ⟨fun z => ⟨i, rfl, .inl ⟨_, ds, d, rfl, rfl, h.eq, z⟩⟩⟩
instance {ds : List D} {d : D} [h : AtI ds i d] : Stp (dIx (.d (.tup ds)) (.d (.int i)) μ Q) (Q (.d d) μ) := ⟨fun z => ⟨i, rfl, .inl ⟨_, ds, d, rfl, rfl, h.eq, z⟩⟩⟩
instance {k : Nat} {ds : List D} {d : D} [g : LGet k μ (some (.lst ds))] [h : AtI ds i d] : Stp (dIx (.cel k) (.d (.int i)) μ Q) (Q (.d d) μ) := ⟨fun z => ⟨i, rfl, .inr (.inl ⟨k, ds, d, rfl, g.eq, h.eq, z⟩)⟩⟩
/-- all ints, all texts -/
class AllI (ds : List D) (ns : outParam (List Int)) : Prop where
  eq : ds = ns.map .int
instance : AllI [] [] := ⟨rfl⟩
instance {n : Int} {r : List D} {ns : List Int} [h : AllI r ns] : AllI (.int n :: r) (n :: ns) := ⟨by rw [h.eq]; rfl⟩
class AllS (ds : List D) (ns : outParam (List Str)) : Prop where
  eq : ds = ns.map .str
instance : AllS [] [] := ⟨rfl⟩
instance {n : Str} {r : List D} {ns : List Str} [h : AllS r ns] : AllS (.str n :: r) (n :: ns) := ⟨by rw [h.eq]; rfl⟩
class AllB (ds : List D) (ns : outParam (List Bool)) : Prop where
  eq : ds = ns.map .bl
instance : AllB [] [] := ⟨rfl⟩
instance {n : Bool} {r : List D} {ns : List Bool} [h : AllB r ns] : AllB (.bl n :: r) (n :: ns) := ⟨by rw [h.eq]; rfl⟩
theorem pick_of {ds : List D} (h0 : 0 ≤ i) (h1 : i < ds.length) (q : ∀ d, d ∈ ds → Q (.d d) μ) : dIx (.d (.lst ds)) (.d (.int i)) μ Q := by
  obtain ⟨d, m, e⟩ := atI_in h0 h1
  exact ⟨i, rfl, .inl ⟨_, ds, d, rfl, rfl, e, q d m⟩⟩
instance (priority := low) pickI {ds : List D} {ns : List Int} [h : AllI ds ns] : Stp (dIx (.d (.lst ds)) (.d (.int i)) μ Q) (0 ≤ i ∧ i < ns.length ∧ ∀ z, z ∈ ns → Q (.d (.int z)) μ) := ⟨fun ⟨h0, h1, q⟩ => pick_of h0 (by rw [h.eq, List.length_map]; exact h1) fun d hd => by
  rw [h.eq] at hd
  obtain ⟨z, hz, rfl⟩ := List.mem_map.mp hd
  exact q z hz⟩
instance (priority := low) pickS {ds : List D} {ns : List Str} [h : AllS ds ns] : Stp (dIx (.d (.lst ds)) (.d (.int i)) μ Q) (0 ≤ i ∧ i < ns.length ∧ ∀ z, z ∈ ns → Q (.d (.str z)) μ) := ⟨fun ⟨h0, h1, q⟩ => pick_of h0 (by rw [h.eq, List.length_map]; exact h1) fun d hd => by
  rw [h.eq] at hd
  obtain ⟨z, hz, rfl⟩ := List.mem_map.mp hd
  exact q z hz⟩
instance {ns : List Int} : Stp (dIx (.d (.scr ns)) (.d (.int i)) μ Q) (0 ≤ i ∧ i < ns.length ∧ ∀ z, z ∈ ns → Q (.d (.int z)) μ) := ⟨fun ⟨h0, h1, q⟩ => by
  obtain ⟨z, m, e⟩ := atI_in h0 h1
  exact ⟨i, rfl, .inr (.inr (.inl ⟨ns, z, rfl, e, q z m⟩))⟩⟩
/-! what is built in -/
instance {rd : RDl} : Stp (dCB rd TA ρ μ Q) (TA ρ μ fun ss μ1 => rd ss μ1 Q) := ⟨id⟩
instance {rd : List S → Mu → (List D → Mu → Prop) → Prop} {Q : List D → Mu → Prop} : Stp (dCBN rd TA ρ μ Q) (TA ρ μ fun ss μ1 => rd ss μ1 Q) := ⟨id⟩
/-- the items of a list, of a list or a tuple -/
class LstS (x : S) (μ : Mu) (ds : outParam (List D)) : Prop where
  eq : lstS x μ = some ds
instance {ds : List D} : LstS (.d (.lst ds)) μ ds := ⟨rfl⟩
instance {ns : List Int} : LstS (.d (.scr ns)) μ (ns.map .int) := ⟨rfl⟩
instance {k : Nat} {ds : List D} [g : LGet k μ (some (.lst ds))] : LstS (.cel k) μ ds := ⟨by simp only [lstS, g.eq]⟩
class SeqS (x : S) (μ : Mu) (ds : outParam (List D)) : Prop where
  eq : seqS x μ = some ds
instance {ds : List D} : SeqS (.d (.tup ds)) μ ds := ⟨rfl⟩
instance {ds : List D} : SeqS (.d (.con ds)) μ ds := ⟨rfl⟩
instance {ds : List D} : SeqS (.d (.lst ds)) μ ds := ⟨rfl⟩
instance {ns : List Int} : SeqS (.d (.scr ns)) μ (ns.map .int) := ⟨rfl⟩
instance {k : Nat} {ds : List D} [g : LGet k μ (some (.lst ds))] : SeqS (.cel k) μ ds := ⟨by simp only [seqS, lstS, g.eq]⟩
instance {ns : List Int} : Stp (dLen [.d (.scr ns)] μ Q) (Q (.d (.int ns.length)) μ) := ⟨fun z => ⟨_, rfl, .inl ⟨ns.map .int, rfl, by rw [List.length_map]; exact z⟩⟩⟩
instance (priority := low) {x : S} {ds : List D} [g : SeqS x μ ds] : Stp (dLen [x] μ Q) (Q (.d (.int ds.length)) μ) := ⟨fun z => ⟨x, rfl, .inl ⟨ds, g.eq, z⟩⟩⟩
instance {x : Str} : Stp (dLen [.d (.str x)] μ Q) (x.length ≤ sizeLine ∧ Q (.d (.int x.length)) μ) := ⟨fun z => ⟨_, rfl, .inr ⟨x, rfl, z⟩⟩⟩
instance : Stp (dMin2 [.d (.int i), .d (.int j)] μ Q) (Q (.d (.int (if j < i then j else i))) μ) := ⟨fun z => ⟨i, j, rfl, z⟩⟩
instance : Stp (dMax2 [.d (.int i), .d (.int j)] μ Q) (Q (.d (.int (if j > i then j else i))) μ) := ⟨fun z => ⟨i, j, rfl, z⟩⟩
instance {b : Bool} : Stp (dInt1 [.d (.bl b)] μ Q) (Q (.d (.int (if b then 1 else 0))) μ) := ⟨fun z => .inr ⟨b, rfl, z⟩⟩
instance : Stp (dInt1 [.d (.int i)] μ Q) (Q (.d (.int i)) μ) := ⟨fun z => .inl ⟨i, rfl, z⟩⟩
instance : Stp (dStrI [.d (.int i)] μ Q) (Sm i ∧ Q (.d (.str (toString i))) μ) := ⟨fun z => ⟨i, rfl, z⟩⟩
instance {x : S} {ds : List D} {Q : List D → Mu → Prop} [g : SeqS x μ ds] : Stp (dListOf [x] μ Q) (Q ds μ) := ⟨fun z => ⟨x, ds, rfl, g.eq, z⟩⟩
instance {x : S} {ds : List D} [g : LstS x μ ds] : Stp (dTupOf [x] μ Q) (Q (.d (.tup ds)) μ) := ⟨fun z => ⟨x, ds, rfl, .inl g.eq, z⟩⟩
instance {ds : List D} : Stp (dTupOf [.d (.tup ds)] μ Q) (Q (.d (.tup ds)) μ) := ⟨fun z => ⟨_, ds, rfl, .inr rfl, z⟩⟩
/-- ints in a row, however they are written -/
class IntsD (ds : List D) (ns : outParam (List Int)) : Prop where
  eq : ds = ns.map .int
instance {ns : List Int} : IntsD (ns.map .int) ns := ⟨rfl⟩
instance (priority := low) {ds : List D} {ns : List Int} [h : AllI ds ns] : IntsD ds ns := ⟨h.eq⟩
class BlsD (ds : List D) (ns : outParam (List Bool)) : Prop where
  eq : ds = ns.map .bl
instance {ns : List Bool} : BlsD (ns.map .bl) ns := ⟨rfl⟩
instance (priority := low) {ds : List D} {ns : List Bool} [h : AllB ds ns] : BlsD ds ns := ⟨h.eq⟩
class StrsD (ds : List D) (ns : outParam (List Str)) : Prop where
  eq : ds = ns.map .str
instance {ns : List Str} : StrsD (ns.map .str) ns := ⟨rfl⟩
instance (priority := low) {ds : List D} {ns : List Str} [h : AllS ds ns] : StrsD ds ns := ⟨h.eq⟩
instance {x : S} {ds : List D} {ns : List Int} [g : LstS x μ ds] [h : IntsD ds ns] : Stp (dSum [x] μ Q) (Q (.d (.int ns.sum)) μ) := ⟨fun z => ⟨x, ns, rfl, by rw [g.eq, h.eq], z⟩⟩
instance {x : S} {ds : List D} {ns : List Bool} [g : LstS x μ ds] [h : BlsD ds ns] : Stp (dAll [x] μ Q) (Q (.d (.bl (ns.all id))) μ) := ⟨fun z => ⟨x, ns, rfl, by rw [g.eq, h.eq], z⟩⟩
instance {x : S} {ds : List D} {ns : List Bool} [g : LstS x μ ds] [h : BlsD ds ns] : Stp (dAny [x] μ Q) (Q (.d (.bl (ns.any id))) μ) := ⟨fun z => ⟨x, ns, rfl, by rw [g.eq, h.eq], z⟩⟩
instance {x : S} {ds : List D} {ns : List Int} [g : LstS x μ ds] [h : IntsD ds ns] : Stp (dMaxL [x] μ Q) (0 < ns.length ∧ ∀ m, m ∈ ns → (∀ y, y ∈ ns → y ≤ m) → Q (.d (.int m)) μ) := ⟨fun z => ⟨x, ns, rfl, by rw [g.eq, h.eq], z⟩⟩
instance {x : S} {ds : List D} {ns : List Int} [g : LstS x μ ds] [h : IntsD ds ns] : Stp (dMinL [x] μ Q) (0 < ns.length ∧ ∀ m, m ∈ ns → (∀ y, y ∈ ns → m ≤ y) → Q (.d (.int m)) μ) := ⟨fun z => ⟨x, ns, rfl, by rw [g.eq, h.eq], z⟩⟩
instance {x : S} {ds : List D} {ns : List Int} {Q : List D → Mu → Prop} [g : LstS x μ ds] [h : IntsD ds ns] : Stp (dSorted [x] μ Q) (ns.length < 64 ∧ Q ((sortI ns).map .int) μ) := ⟨fun z => ⟨x, ns, rfl, by rw [g.eq, h.eq], z⟩⟩
instance {d : D} : Stp (dRepr [.d d] μ Q) (plain d = true ∧ Fit 60 60000 (py d) ∧ Q (.d (.str (py d).shown)) μ) := ⟨fun z => ⟨.d d, d, rfl, rfl, z⟩⟩
instance {k : Nat} {ds : List D} [g : LGet k μ (some (.lst ds))] : Stp (dRepr [.cel k] μ Q) (plain (.lst ds) = true ∧ Fit 60 60000 (py (.lst ds)) ∧ Q (.d (.str (py (.lst ds)).shown)) μ) := ⟨fun z => ⟨.cel k, .lst ds, rfl, by simp only [seenS, g.eq], z⟩⟩
/-! methods, slices, fields -/
instance {T : String} {rd : S → List S → Mu → QD → Prop} : Stp (dBM T rd A TA ρ μ Q) (A ρ μ fun x μ1 => tyS T x μ1 ∧ TA ρ μ1 fun xs μ2 => rd x xs μ2 Q) := ⟨id⟩
instance {T : String} {rd : S → List S → Mu → QD → Prop} : Stp (dBM0 T rd A ρ μ Q) (A ρ μ fun x μ1 => tyS T x μ1 ∧ rd x [] μ1 Q) := ⟨id⟩
instance {x : S} {ds : List D} {P : Prop} [g : LstS x μ ds] : Stp (tyS "list" x μ ∧ P) P := ⟨fun z => ⟨.inl ⟨rfl, ds, g.eq⟩, z⟩⟩
instance {z : Str} {P : Prop} : Stp (tyS "str" (.d (.str z)) μ ∧ P) P := ⟨fun w => ⟨.inr ⟨rfl, z, rfl⟩, w⟩⟩
instance {k : Nat} {ds : List D} {d : D} [g : LGet k μ (some (.lst ds))] [h : LSet k (some (.lst (ds ++ [d]))) μ μ'] : Stp (dAppend (.cel k) [.d d] μ Q) (ds.length < 1000 ∧ Q (.d .non) μ') := ⟨fun z => ⟨k, ds, d, rfl, rfl, g.eq, z.1, by rw [h.eq]; exact z.2⟩⟩
instance {rd : S → Option Int → Option Int → Mu → QD → Prop} {L U : Rho → Mu → (Option Int → Mu → Prop) → Prop} : Stp (dSl rd A L U ρ μ Q) (A ρ μ fun x μ1 => L ρ μ1 fun l μ2 => U ρ μ2 fun u μ3 => rd x l u μ3 Q) := ⟨id⟩
instance {Q : Option Int → Mu → Prop} : Stp (dNoPart ρ μ Q) (Q none μ) := ⟨id⟩
instance {Q : Option Int → Mu → Prop} : Stp (dPart A ρ μ Q) (A ρ μ fun x μ1 => ∃ i, x = .d (.int i) ∧ Q (some i) μ1) := ⟨id⟩
instance {P : Int → Prop} : Stp (∃ k, S.d (D.int i) = .d (.int k) ∧ P k) (P i) := ⟨fun z => ⟨i, rfl, z⟩⟩
instance {ds : List D} {lo hi : Option Int} : Stp (dCut (.d (.tup ds)) lo hi μ Q) (Q (.d (.tup (cutD ds lo hi))) μ) := ⟨fun z => .inl ⟨ds, rfl, z⟩⟩
instance {x : S} {ds : List D} {lo hi : Option Int} [g : LstS x μ ds] : Stp (dCut x lo hi μ Q) (Q (.d (.lst (cutD ds lo hi))) μ) := ⟨fun z => .inr (.inl ⟨ds, g.eq, z⟩)⟩
instance {x : Str} {lo hi : Option Int} : Stp (dCut (.d (.str x)) lo hi μ Q) (x.length ≤ sizeLine ∧ Q (.d (.str (cutS x lo hi))) μ) := ⟨fun z => .inr (.inr ⟨x, rfl, z⟩)⟩
/-! loops: what is walked -/
def forK (G : TGd) (B : TSd) (Dd : EndsD) (ρ : Rho) : List D → Mu → Prop := fun ds μ1 => dLoop G B Dd μ1.length ds ρ μ1
instance {I : TId} {G : TGd} {S : TSd} {D : EndsD} : Stp (dFor I G S D ρ μ) (I ρ μ (forK G S D ρ)) := ⟨id⟩
instance {G : TGd} {S : TSd} {Dd : EndsD} {ds : List D} {n : Nat} [l : LLen μ n] : Stp (forK G S Dd ρ ds μ) (dLoop G S Dd n ds ρ μ) := ⟨fun z => by unfold forK; rw [l.eq]; exact z⟩
variable {QL : List D → Mu → Prop}
instance : Stp (dItS A ρ μ QL) (A ρ μ fun x μ1 => ∃ d ds, x = .d d ∧ walkD d = some ds ∧ QL ds μ1) := ⟨id⟩
instance {ds : List D} {P : List D → Prop} : Stp (∃ d es, S.d (.tup ds) = .d d ∧ walkD d = some es ∧ P es) (P ds) := ⟨fun z => ⟨_, ds, rfl, rfl, z⟩⟩
instance {ds : List D} {P : List D → Prop} : Stp (∃ d es, S.d (.lst ds) = .d d ∧ walkD d = some es ∧ P es) (P ds) := ⟨fun z => ⟨_, ds, rfl, rfl, z⟩⟩
instance {ds : List D} {P : List D → Prop} : Stp (∃ d es, S.d (.con ds) = .d d ∧ walkD d = some es ∧ P es) (P ds) := ⟨fun z => ⟨_, ds, rfl, rfl, z⟩⟩
instance : Stp (dItR1 TA ρ μ QL) (TA ρ μ fun ss μ1 => ∃ j, ss = [.d (.int j)] ∧ -(2 ^ 62) ≤ j ∧ j < 2 ^ 62 ∧ QL (rngD 0 j.toNat) μ1) := ⟨id⟩
instance {P : Int → Prop} : Stp (∃ k, [S.d (D.int i)] = [.d (.int k)] ∧ P k) (P i) := ⟨fun z => ⟨i, rfl, z⟩⟩
instance : Stp (dItR2 TA ρ μ QL) (TA ρ μ fun ss μ1 => ∃ i j, ss = [.d (.int i), .d (.int j)] ∧ (-(2 ^ 62) ≤ i ∧ i < 2 ^ 62 ∧ -(2 ^ 62) ≤ j ∧ j < 2 ^ 62) ∧ QL (rngD i (j - i).toNat) μ1) := ⟨id⟩
instance {P : Int → Int → Prop} : Stp (∃ k l, [S.d (D.int i), S.d (D.int j)] = [.d (.int k), .d (.int l)] ∧ P k l) (P i j) := ⟨fun z => ⟨i, j, rfl, z⟩⟩
/-! calls -/
class Foot (ss : List S) (ks : outParam (List Nat)) (rs : outParam (List S)) : Prop where
  eq : foot ss = ks
  er : ss.map ren = rs
instance : Foot [] [] [] := ⟨rfl, rfl⟩
instance {x : D} {r rs : List S} {ks : List Nat} [h : Foot r ks rs] : Foot (.d x :: r) ks (.d x :: rs) := ⟨h.eq, by rw [List.map_cons, h.er]; rfl⟩
instance {k : Nat} {r rs : List S} {ks : List Nat} [h : Foot r ks rs] : Foot (.cel k :: r) (k :: ks) (.cel 0 :: rs) := ⟨by show k :: foot r = _; rw [h.eq], by rw [List.map_cons, h.er]; rfl⟩
class VDs (vs : List V) (ss : outParam (List S)) : Prop where
  eq : vDs vs = some ss
instance : VDs [] [] := ⟨rfl⟩
instance {i : Int} {r : List V} {ss : List S} [h : VDs r ss] : VDs (.int i :: r) (.d (.int i) :: ss) := ⟨by simp only [vDs, vD, h.eq]⟩
instance {i : Str} {r : List V} {ss : List S} [h : VDs r ss] : VDs (.str i :: r) (.d (.str i) :: ss) := ⟨by simp only [vDs, vD, h.eq]⟩
instance {i : Bool} {r : List V} {ss : List S} [h : VDs r ss] : VDs (.bl i :: r) (.d (.bl i) :: ss) := ⟨by simp only [vDs, vD, h.eq]⟩
instance {r : List V} {ss : List S} [h : VDs r ss] : VDs (.non :: r) (.d .non :: ss) := ⟨by simp only [vDs, vD, h.eq]⟩
class LApp {α : Type} (l m : List α) (r : outParam (List α)) : Prop where
  eq : l ++ m = r
instance {α : Type} {m : List α} : LApp [] m m := ⟨rfl⟩
instance {α : Type} {x : α} {l m r : List α} [h : LApp l m r] : LApp (x :: l) m (x :: r) := ⟨by rw [List.cons_append, h.eq]⟩
def argK (n : Nat) (dvs : List V) (k : List S → Mu → Prop) : List S → Mu → Prop := fun ss μ1 => ∃ dd, vDs dvs = some dd ∧ (ss ++ dd).length = n ∧ k (ss ++ dd) μ1
instance {n : Nat} {Tf : FnT} {dvs : List V} : Stp (dCall n Tf dvs TA ρ μ Q) (TA ρ μ (argK n dvs fun ss μ1 => callD Tf ss μ1 Q)) := ⟨id⟩
instance {n : Nat} {Tf : FnTN} {dvs : List V} {Q : List D → Mu → Prop} : Stp (dCallF n Tf dvs TA ρ μ Q) (TA ρ μ (argK n dvs fun ss μ1 => callN Tf ss μ1 Q)) := ⟨id⟩
instance {n : Nat} {dvs : List V} {k : List S → Mu → Prop} {ss dd rs : List S} [v : VDs dvs dd] [a : LApp ss dd rs] : Stp (argK n dvs k ss μ) (rs.length = n ∧ k rs μ) := ⟨fun z => ⟨dd, v.eq, by rw [a.eq]; exact z.1, by rw [a.eq]; exact z.2⟩⟩
class NSx (x : S) (y : outParam S) : Prop where
  eq : x = y
instance {x : D} : NSx (.d x) (.d x) := ⟨rfl⟩
instance {k : Nat} : NSx (.cel k) (.cel k) := ⟨rfl⟩
instance {x : S} {l : List S} : NSx (nS (x :: l) 0) x := ⟨rfl⟩
instance {x y : S} {l : List S} {n : Nat} [h : NSx (nS l n) y] : NSx (nS (x :: l) (n + 1)) y := ⟨h.eq⟩
class NSl (l : List S) (l' : outParam (List S)) : Prop where
  eq : l = l'
instance : NSl [] [] := ⟨rfl⟩
instance {x y : S} {l l' : List S} [h : NSx x y] [g : NSl l l'] : NSl (x :: l) (y :: l') := ⟨by rw [h.eq, g.eq]⟩
def argK2 (n l m : Nat) (g : List S → List S → List S) (k : List S → Mu → Prop) (ss : List S) : List S → Mu → Prop := fun zz μ2 => ss.length = l ∧ zz.length = m ∧ (g ss zz).length = n ∧ k (g ss zz) μ2
instance {n l m : Nat} {Tf : FnT} {g : List S → List S → List S} {B : TAd} : Stp (dCallK n l m Tf g TA B ρ μ Q) (TA ρ μ fun ss μ1 => B ρ μ1 (argK2 n l m g (fun rs μ2 => callD Tf rs μ2 Q) ss)) := ⟨id⟩
instance {n l m : Nat} {g : List S → List S → List S} {k : List S → Mu → Prop} {ss zz rs : List S} [h : NSl (g ss zz) rs] : Stp (argK2 n l m g k ss zz μ) (ss.length = l ∧ zz.length = m ∧ rs.length = n ∧ k rs μ) := ⟨fun z => by unfold argK2; rw [h.eq]; exact z⟩
/-- an instance is made -/
def mkK (C : Addr) (n l m : Nat) (Tf : FnT) (g : List S → List S → List S) (Q : QD) (ss : List S) : List S → Mu → Prop := fun zz μ2 => ss.length = l ∧ zz.length = m ∧ (g (.cel 0 :: ss) zz).length = n ∧ foot ss = [] ∧ foot zz = [] ∧
  Tf (g (.cel 0 :: ss) zz) [some (.obj C [] [])] fun s μc => s = .d .non ∧ ∃ C' ns ds, μc = [some (.obj C' ns ds)] ∧ Q (.d (.ins C' ns ds)) μ2
def madeK (Q : QD) (μ : Mu) : QD := fun s μc => s = .d .non ∧ ∃ C' ns ds, μc = [some (.obj C' ns ds)] ∧ Q (.d (.ins C' ns ds)) μ
instance {C : Addr} {n l m : Nat} {Tf : FnT} {g : List S → List S → List S} {B : TAd} : Stp (dMake C n l m Tf g TA B ρ μ Q) (TA ρ μ fun ss μ1 => B ρ μ1 (mkK C n l m Tf g Q ss)) := ⟨id⟩
instance {C : Addr} {n l m : Nat} {Tf : FnT} {g : List S → List S → List S} {ss zz rs ss' zz' : List S} [f : Foot ss [] ss'] [f' : Foot zz [] zz'] [h : NSl (g (.cel 0 :: ss) zz) rs] : Stp (mkK C n l m Tf g Q ss zz μ) (ss.length = l ∧ zz.length = m ∧ rs.length = n ∧ Tf rs [some (.obj C [] [])] (madeK Q μ)) :=
  ⟨fun z => by unfold mkK; rw [h.eq, f.eq, f'.eq]; exact ⟨z.1, z.2.1, z.2.2.1, rfl, rfl, z.2.2.2⟩⟩
instance {C : Addr} {ns : List Str} {ds : List D} : Stp (madeK Q μ (.d .non) [some (.obj C ns ds)]) (Q (.d (.ins C ns ds)) μ) := ⟨fun z => ⟨rfl, C, ns, ds, rfl, z⟩⟩
instance {Tf : FnT} {ss rs : List S} [f : Foot ss [] rs] : Stp (callD Tf ss μ Q) (Tf ss [] (rD0 μ Q)) := ⟨fun z => by unfold callD; rw [f.eq]; exact z⟩
instance {Tf : FnT} {ss rs : List S} {k : Nat} {c : Cell} [f : Foot ss [k] rs] [g : LGet k μ (some c)] : Stp (callD Tf ss μ Q) (Tf rs [some c] (rD1 k μ Q)) := ⟨fun z => by unfold callD; rw [f.eq]; exact ⟨c, g.eq, by rw [f.er]; exact z⟩⟩
instance {Tf : FnTN} {ss rs : List S} {Q : List D → Mu → Prop} [f : Foot ss [] rs] : Stp (callN Tf ss μ Q) (Tf ss [] (rN0 μ Q)) := ⟨fun z => by unfold callN; rw [f.eq]; exact z⟩
instance {Tf : FnTN} {ss rs : List S} {k : Nat} {c : Cell} {Q : List D → Mu → Prop} [f : Foot ss [k] rs] [g : LGet k μ (some c)] : Stp (callN Tf ss μ Q) (Tf rs [some c] (rN1 k μ Q)) := ⟨fun z => by unfold callN; rw [f.eq]; exact ⟨c, g.eq, by rw [f.er]; exact z⟩⟩
instance {x : D} {ν : Mu} : Stp (rD0 μ Q (.d x) ν) (Q (.d x) μ) := ⟨fun z => ⟨x, rfl, z⟩⟩
instance {k : Nat} {x : D} {c : Cell} [h : LSet k (some c) μ μ'] : Stp (rD1 k μ Q (.d x) [some c]) (Q (.d x) μ') := ⟨fun z => ⟨x, c, rfl, rfl, by rw [h.eq]; exact z⟩⟩
instance {Q : List D → Mu → Prop} {ds : List D} {ν : Mu} : Stp (rN0 μ Q ds ν) (Q ds μ) := ⟨id⟩
instance {k : Nat} {Q : List D → Mu → Prop} {ds : List D} {c : Cell} [h : LSet k (some c) μ μ'] : Stp (rN1 k μ Q ds [some c]) (Q ds μ') := ⟨fun z => ⟨c, rfl, by rw [h.eq]; exact z⟩⟩
end
end Dl
set_option Elab.async false
set_option linter.all false
set_option maxRecDepth 100000
set_option maxHeartbeats 4000000
/-! ## D9. The start, the law, loops by what holds through them -/
namespace Dl
open PySem PySem.Spec PyProof.Rows L2 Cm
variable [Tb : Tbls]
theorem dstart {T : TSd} {n b : Nat} {ss : List S} {ρ' : Rho} {μ : Mu} {Q : QD} (h : startD n ss = ρ') (hb : μ.length = b)
    (q : T ⟨exitN b Q, exitD b Q, fun _ _ => False, b, fun _ _ => False, fun _ _ => False⟩ ρ' μ) :
    T { nx := exitN μ.length Q, rt := exitD μ.length Q, rtN := fun _ _ => False, bs := μ.length } (startD n ss) μ := by
  subst h hb; exact q
theorem dstartN {T : TSd} {n b : Nat} {ss : List S} {ρ' : Rho} {μ : Mu} {Q : List D → Mu → Prop} (h : startD n ss = ρ') (hb : μ.length = b)
    (q : T ⟨fun _ _ => False, fun _ _ => False, exitF b Q, b, fun _ _ => False, fun _ _ => False⟩ ρ' μ) :
    T { nx := fun _ _ => False, rt := fun _ _ => False, rtN := exitF μ.length Q, bs := μ.length } (startD n ss) μ := by
  subst h hb; exact q
/-- the law's own promise -/
def T_law : FnT := fun ss μ Q => ∃ ns, ss = [.d (.scr ns)] ∧ μ = [] ∧ ns.length ≤ 63 ∧ Q (.d (.bl true)) []
theorem law_sp {K : PySem.W.Frag} {H : Hp} {a : Addr} {ns : List Int} {E : XK} (hl : ns.length ≤ 63) (hT : ∀ p ∈ Tb.ts, H p.1 = some (.tbl #[])) (h : SqL K H a (ns.map V.int)) : spD K 1 T_law [.ref a] H (fun v _ => v = .bl true) E := by
  have tb : LamX.Tabs Tb.ts H := fun p hp => LamX.TabS.nil (hT p hp)
  refine ⟨rfl, inT, [], [.d (.scr ns)], [], fun s _ => s = .d (.bl true), ⟨rfl, (fun _ z => inM_nil z), (fun a ⟨q, hq⟩ => ⟨_, hT _ hq⟩), (fun k a h => by simp at h), (fun j k a h => by simp at h), tb⟩, .cons (.d ?_) .nil, ⟨ns, rfl, rfl, hl, rfl⟩, ?_⟩
  · rcases h with h | h
    · refine .scr ?_ h
      rcases h with h | ⟨o, h⟩
      · exact tabs_not tb h fun _ z => by cases z
      · exact tabs_not tb h fun _ z => by cases z
    · exact .scrK fun _ => .inr h
  · intro v H' s μ' _ _ r e
    subst e
    exact r.d_inv.bl_inv
section
variable {G : TGd} {B : TSd} {Dd : EndsD} {b : Nat} {C : TTd} {A : TD}
/-- a loop by what holds at each turn; k: what is left of the loop -/
theorem loop_ind {ds : List D} (P : Nat → Rho → Mu → Prop) {ρ : Rho} {μ : Mu} (h0 : P 0 ρ μ)
    (hs : ∀ (i : Nat) (d : D) (k : NxD) (ρ : Rho) (μ : Mu), ds[i]? = some d → P i ρ μ → (∀ ρ μ, P (i + 1) ρ μ → k ρ μ) → G (.d d) ρ μ fun ρ1 μ1 => B ⟨setl b k, Dd.rt, Dd.rtN, b, setl b Dd.nx, setl b k⟩ ρ1 μ1)
    (hd : ∀ ρ μ, P ds.length ρ μ → Dd.nx ρ μ) : dLoop G B Dd b ds ρ μ := by
  have go : ∀ (n i : Nat) (ρ : Rho) (μ : Mu), n = ds.length - i → i ≤ ds.length → P i ρ μ → dLoop G B Dd b (ds.drop i) ρ μ := by
    intro n
    induction n with
    | zero =>
      intro i ρ μ hn hi p
      have e : i = ds.length := by omega
      subst e
      rw [List.drop_length]
      exact hd ρ μ p
    | succ n ih =>
      intro i ρ μ hn hi p
      have hlt : i < ds.length := by omega
      rw [List.drop_eq_getElem_cons hlt]
      unfold dLoop
      exact hs i ds[i] _ ρ μ (List.getElem?_eq_getElem hlt) p fun ρ μ q => ih (i + 1) ρ μ (by omega) hlt q
  have := go ds.length 0 ρ μ (by simp) (Nat.zero_le _) h0
  rwa [List.drop_zero] at this
/-- a loop over so many numbers -/
theorem loop_rng {lo : Int} {n : Nat} (P : Nat → Rho → Mu → Prop) {ρ : Rho} {μ : Mu} (h0 : P 0 ρ μ)
    (hs : ∀ (i : Nat) (k : NxD) (ρ : Rho) (μ : Mu), i < n → P i ρ μ → (∀ ρ μ, P (i + 1) ρ μ → k ρ μ) → G (.d (.int (lo + (i : Nat)))) ρ μ fun ρ1 μ1 => B ⟨setl b k, Dd.rt, Dd.rtN, b, setl b Dd.nx, setl b k⟩ ρ1 μ1)
    (hd : ∀ ρ μ, P n ρ μ → Dd.nx ρ μ) : dLoop G B Dd b (rngD lo n) ρ μ := by
  refine loop_ind P h0 (fun i d k ρ μ e p ih => ?_) (by rw [rngD_length]; exact hd)
  obtain ⟨hi, rfl⟩ := rngD_get e
  exact hs i k ρ μ hi p ih
theorem lc_ind {ds : List D} {ρ : Rho} {μ : Mu} {Q : List D → Mu → Prop} (P : Nat → List D → Mu → Prop) (h0 : P 0 [] μ)
    (hs : ∀ (i : Nat) (d : D) (acc : List D) (μ : Mu) (k : List D → Mu → Prop), ds[i]? = some d → P i acc μ → (∀ acc' μ', P (i + 1) acc' μ' → k acc' μ') →
      G (.d d) ρ μ fun ρ2 μ2 => C ρ2 μ2 fun b μ3 => if b = true then A ρ2 μ3 fun y μ4 => ∃ e, y = .d e ∧ acc.length < 1000 ∧ k (acc ++ [e]) μ4 else k acc μ3)
    (hd : ∀ acc μ, P ds.length acc μ → Q acc μ) : dLcL G C A ρ Q ds [] μ := by
  have go : ∀ (n i : Nat) (acc : List D) (μ : Mu), n = ds.length - i → i ≤ ds.length → P i acc μ → dLcL G C A ρ Q (ds.drop i) acc μ := by
    intro n
    induction n with
    | zero =>
      intro i acc μ hn hi p
      have e : i = ds.length := by omega
      subst e
      rw [List.drop_length]
      exact hd acc μ p
    | succ n ih =>
      intro i acc μ hn hi p
      have hlt : i < ds.length := by omega
      rw [List.drop_eq_getElem_cons hlt]
      unfold dLcL
      exact hs i ds[i] acc μ _ (List.getElem?_eq_getElem hlt) p fun acc μ q => ih (i + 1) acc μ (by omega) hlt q
  have := go ds.length 0 [] μ (by simp) (Nat.zero_le _) h0
  rwa [List.drop_zero] at this
/-- each item gives f of it, nothing changes -/
theorem lc_map {ds : List D} {ρ : Rho} {μ : Mu} {Q : List D → Mu → Prop} (f : D → D) (hl : ds.length ≤ 1000)
    (hs : ∀ (i : Nat) (d : D) (acc : List D) (k : List D → Mu → Prop), ds[i]? = some d → acc.length < 1000 → k (acc ++ [f d]) μ →
      G (.d d) ρ μ fun ρ2 μ2 => C ρ2 μ2 fun b μ3 => if b = true then A ρ2 μ3 fun y μ4 => ∃ e, y = .d e ∧ acc.length < 1000 ∧ k (acc ++ [e]) μ4 else k acc μ3)
    (hd : Q (ds.map f) μ) : dLcL G C A ρ Q ds [] μ := by
  refine lc_ind (fun i acc μ' => i ≤ ds.length ∧ acc = (ds.take i).map f ∧ μ' = μ) ⟨Nat.zero_le _, rfl, rfl⟩ (fun i d acc μ' k e ⟨hi, h1, h2⟩ ih => ?_) fun acc μ' ⟨_, h1, h2⟩ => ?_
  · subst h1 h2
    have hlt : i < ds.length := (List.getElem?_eq_some_iff.mp e).1
    have he : ds[i] = d := (List.getElem?_eq_some_iff.mp e).2
    refine hs i d _ k e (by rw [List.length_map, List.length_take]; omega) (ih _ _ ⟨hlt, ?_, rfl⟩)
    rw [List.take_succ_eq_append_getElem hlt, List.map_append, he]
    rfl
  · subst h1 h2
    rw [List.take_length]
    exact hd
/-- each item that p takes gives f of it, nothing changes -/
theorem lc_filter {ds : List D} {ρ : Rho} {μ : Mu} {Q : List D → Mu → Prop} (p : D → Bool) (f : D → D) (hl : ds.length ≤ 1000)
    (hs : ∀ (i : Nat) (d : D) (acc : List D) (k : List D → Mu → Prop), ds[i]? = some d → acc.length < 1000 → (p d = true → k (acc ++ [f d]) μ) → (p d = false → k acc μ) →
      G (.d d) ρ μ fun ρ2 μ2 => C ρ2 μ2 fun b μ3 => if b = true then A ρ2 μ3 fun y μ4 => ∃ e, y = .d e ∧ acc.length < 1000 ∧ k (acc ++ [e]) μ4 else k acc μ3)
    (hd : Q ((ds.filter p).map f) μ) : dLcL G C A ρ Q ds [] μ := by
  refine lc_ind (fun i acc μ' => i ≤ ds.length ∧ acc = ((ds.take i).filter p).map f ∧ μ' = μ) ⟨Nat.zero_le _, rfl, rfl⟩ (fun i d acc μ' k e ⟨hi, h1, h2⟩ ih => ?_) fun acc μ' ⟨_, h1, h2⟩ => ?_
  · subst h1 h2
    have hlt : i < ds.length := (List.getElem?_eq_some_iff.mp e).1
    have he : ds[i] = d := (List.getElem?_eq_some_iff.mp e).2
    have ll : (((ds.take i).filter p).map f).length < 1000 := by
      have := List.length_filter_le p (ds.take i)
      rw [List.length_take] at this
      rw [List.length_map]; omega
    refine hs i d _ k e ll (fun hp => ih _ _ ⟨hlt, ?_, rfl⟩) fun hp => ih _ _ ⟨hlt, ?_, rfl⟩
    · rw [List.take_succ_eq_append_getElem hlt, List.filter_append, List.map_append, he]
      simp [hp]
    · rw [List.take_succ_eq_append_getElem hlt, List.filter_append, List.map_append, he]
      simp [hp]
  · subst h1 h2
    rw [List.take_length]
    exact hd
instance {I : TId} {is vs : List Nat} {ρ : Rho} {μ : Mu} {Q : List D → Mu → Prop} : Stp (dLc I G is C A vs ρ μ Q) (I ρ μ fun ds μ1 => subL is vs = true ∧ dLcL G C A (wipeD ρ vs) Q ds [] μ1) := ⟨id⟩
instance {ρ : Rho} {μ : Mu} {Q : Bool → Mu → Prop} : Stp (dYes ρ μ Q) (Q true μ) := ⟨id⟩
end
end Dl
namespace Dl
open PySem PySem.Spec PyProof.Rows L2 Cm
variable [Tb : Tbls]
/-! ### draws: a row of two numbers -/
def IsSt (c : Cell) : Prop := ∃ a b : Int, c = .lst [.int a, .int b] ∧ 0 ≤ a ∧ 0 ≤ b ∧ b < 2 ^ 40
def T__law_cell_at : FnT := fun ss μ Q => ∃ ns k, ss = [.d (.scr ns), .d (.int k)] ∧ μ = [] ∧ 0 ≤ k ∧ ∀ i, Q (.d (.int i)) []
def T__law_state : FnTN := fun ss μ Q => ∃ ns k, ss = [.d (.scr ns), .d (.int k)] ∧ μ = [] ∧ 0 ≤ k ∧ ∀ ds, IsSt (.lst ds) → Q ds []
def T__law_take : FnT := fun ss μ Q => ∃ c n, ss = [.cel 0, .d (.int n)] ∧ μ = [some c] ∧ IsSt c ∧ 0 < n ∧ n < 2 ^ 60 ∧ ∀ r c', 0 ≤ r → r < n → IsSt c' → Q (.d (.int r)) [some c']
instance {ns : List Int} {k : Int} {Q : QD} : Stp (T__law_cell_at [.d (.scr ns), .d (.int k)] [] Q) (0 ≤ k ∧ ∀ i, Q (.d (.int i)) []) := ⟨fun z => ⟨ns, k, rfl, rfl, z⟩⟩
instance {ns : List Int} {k : Int} {Q : List D → Mu → Prop} : Stp (T__law_state [.d (.scr ns), .d (.int k)] [] Q) (0 ≤ k ∧ ∀ ds, IsSt (.lst ds) → Q ds []) := ⟨fun z => ⟨ns, k, rfl, rfl, z⟩⟩
instance {c : Cell} {n : Int} {Q : QD} : Stp (T__law_take [.cel 0, .d (.int n)] [some c] Q) (IsSt c ∧ 0 < n ∧ n < 2 ^ 60 ∧ ∀ r c', 0 ≤ r → r < n → IsSt c' → Q (.d (.int r)) [some c']) := ⟨fun z => ⟨c, n, rfl, rfl, z⟩⟩
theorem sm_of {i : Int} (h : i.natAbs < 2 ^ 200) : Sm i := h
end Dl
set_option Elab.async false
set_option linter.all false
set_option maxRecDepth 100000
set_option maxHeartbeats 4000000
/-! ## S0. sorted(xs, key=f) where f's calls may do what a def may -/
namespace Sk
open PySem PySem.W PySem.Calls PyProof.Rows
section
variable {prog : Program} {w : World} {A : Around} {E : Value → Shared → Prop} {s : Shared} {a kS : Addr} {vs : List Value} {e1 : Nat} {P : PySem.Fin → Shared → Prop} {ks : List Int} {f : Value} {J J1 : Array Value → Shared → Prop}
theorem ints_read {h : Heap} {kA : List Value} {ks : List Int} (e : EachIs (fun u k => ∃ t, u = Value.int k t) kA ks) : EachIs (fun v d => ∃ as, Reads h v d as) kA (ks.map PyData.int) := by
  induction e with
  | nil => exact .nil
  | cons h1 _ ih =>
    obtain ⟨t, rfl⟩ := h1
    exact .cons ⟨[], .int _ _⟩ ih
theorem ints_alike (ks : List Int) : AllAlike (ks.map PyData.int) := by
  intro d hd d' hd'
  obtain ⟨x, _, rfl⟩ := List.mem_map.mp hd
  obtain ⟨y, _, rfl⟩ := List.mem_map.mp hd'
  rfl
theorem ints_sortable (ks : List Int) : Sortable (ks.map PyData.int) := .inr fun d hd => by
  obtain ⟨x, _, rfl⟩ := List.mem_map.mp hd
  exact ⟨(fun z => PyData.noConfusion z), (fun xs z => PyData.noConfusion z)⟩
theorem keyJ_rest (hka : kS ≠ a) (hZ : vs.length ≤ sizeLine) (hlen : ks.length = vs.length) (hu : A.units < cLine) (J0 : J #[] s)
    (at_ : ∀ kA s', J kA s' → (∃ e, s'.heap.get? kS = some (seqObj "list" kA e)) ∧ s'.heap.get? a = some (seqObj "list" #[] e1))
    (turn : ∀ (i : Nat) (v : Value) (k : Int), vs[i]? = some v → ks[i]? = some k → ∀ (kA : Array Value) (s' : Shared), kA.size = i → J kA s' → wpAny (model prog w) A (call f [v]) (fun u s'' => (∃ t, u = .int k t) ∧ J1 kA s'') (fun _ _ => False) s')
    (at1 : ∀ kA s', J1 kA s' → ∃ e, s'.heap.get? kS = some (seqObj "list" kA e))
    (push : ∀ (kA : Array Value) (s' : Shared) (u : Value), J1 kA s' → J (kA.push u) { s' with heap := s'.heap.update kS (Obj.mapSeq (·.push u)) })
    (fin : ∀ (kA : Array Value) (s' : Shared) (h' : Heap) (tk : Nat) (out : List Value) (c : Nat), kA.size = vs.length → J kA s' → (∀ b o, b ≠ a → b ≠ kS → s'.heap.get? b = some o → h'.get? b = some o) → h'.get? a = some (seqObj "list" out.toArray c) →
      KeyedOut false (ks.map PyData.int) vs out → P (.done (.ret .none)) { s' with heap := h', toks := tk }) :
    wpAny (model prog w) A (ksk_rest a f false vs.toArray e1 (.ref kS)) P E s := by
  unfold ksk_rest
  refine wpAny_bind (wpAny_rule ?_)
  first
    | rw [List.forIn_toArray]
    | (rw [← Array.forIn_toList]; simp only [List.toList_toArray])
    | rw [← Array.forIn_toList]
  refine wpAny_bind (ksk_fold (fun i s' => ∃ kA, J kA s' ∧ EachIs (fun u k => ∃ t, u = Value.int k t) kA.toList (ks.take i)) vs 0 s
    ⟨#[], J0, by rw [List.take_zero]; exact EachIs.nil⟩ ?step ?done)
  case step =>
    rintro j x s' hx ⟨kA, hJ, hk⟩
    simp only [Nat.zero_add] at hk ⊢
    have hj : j < vs.length := (List.getElem?_eq_some_iff.mp hx).1
    obtain ⟨k, hkj⟩ : ∃ k, ks[j]? = some k := ⟨_, List.getElem?_eq_getElem (by omega)⟩
    have hsz : kA.size = j := by
      have h1 := hk.length
      rw [Array.length_toList, List.length_take] at h1
      omega
    have hz : kA.size ≤ vs.length := by omega
    refine wpAny_bind (wpAny_attempt (wpAny_mono (turn j x k hx hkj kA s' hsz hJ) (fun v s'' he => ?_) fun _ _ hF => hF.elim))
    obtain ⟨hv, hJ'⟩ := he
    try dsimp only
    obtain ⟨e, nk2⟩ := at1 kA s'' hJ'
    have ek : ks.take (j + 1) = ks.take j ++ [k] := by rw [List.take_add_one, hkj]; simp
    have ea : (kA.push v).toList = kA.toList ++ [v] := by simp
    refine wpAny_bind (listUpdate_at nk2 rfl ?_ (Nat.le_trans hz hZ) (Nat.le_trans (Nat.le_of_eq (Array.size_push ..)) (Nat.succ_le_succ (Nat.le_trans hz hZ))))
    refine wpAny_pure ⟨rfl, kA.push v, push kA s'' v hJ', ?_⟩
    rw [ea, ek]
    exact each_snoc (R := fun (u : Value) (k : Int) => ∃ t, u = Value.int k t) hv hk
  case done =>
    rintro s' ⟨kA, hJ, hk⟩
    have e3 : ks.take (0 + vs.length) = ks := List.take_of_length_le (by omega)
    rw [e3] at hk
    have hsz : kA.size = vs.length := by
      have h1 := hk.length
      rw [Array.length_toList] at h1
      omega
    obtain ⟨⟨e, nk'⟩, na'⟩ := at_ kA s' hJ
    have hk' := ints_read (h := s'.heap) hk
    have kp : KeepsBut a (hideAll s'.heap [kS]) s'.heap := fun b o _ q => of_hideAll _ q
    try dsimp only
    refine wpAny_bind (listItems_at nk' rfl ?_)
    refine keyH_end (κ := dataKind s'.heap (ks.map PyData.int)) (h₁ := hideAll s'.heap [kS]) kp (hideAll_none _ (.head _)) nk' na' hka
      (SortsAt.data (s := s') hk' (ints_alike ks) (ints_sortable ks) (fun d hd => ?_)) hsz hZ fun h3 tk3 c k3 n3 => ?_
    · obtain ⟨x, _, rfl⟩ := List.mem_map.mp hd
      exact hu
    · refine fin kA s' h3 tk3 _ c hsz hJ (fun b o hb hb2 q => k3 b o hb (hideAll_get _ q (by simpa using hb2))) n3 ⟨s'.heap, kA.toList, ints_alike ks, rfl, hk'⟩
theorem sort_enter {l q : Addr} {Q : Value → Shared → Prop} (hl : s.heap.IsList l vs.toArray) (hL : vs.length ≤ sizeLine)
    (h : ∀ (E' : Value → Shared → Prop) (h2 : Heap) (kS e1 : Nat), s.heap.objs.size ≤ kS → kS ≠ s.heap.objs.size + 1 → (∀ b o, s.heap.get? b = some o → h2.get? b = some o) → h2.get? kS = some (seqObj "list" #[] 0) → h2.get? (s.heap.objs.size + 1) = some (seqObj "list" #[] e1) →
      wpAny (model prog w) A.in1.in1 (ksk_rest (s.heap.objs.size + 1) (.ref q) false vs.toArray e1 (.ref kS)) (fun r s' => r = .done (.ret .none) ∧ Q (.ref (s.heap.objs.size + 1)) s') E' { s with heap := h2 }) :
    wpAny (model prog w) A (call (.builtin "sorted") [.ref l] [(Str.ofString "key", .ref q)]) Q E s := by
  refine sorted_of_sort hl hL (ksk_s1 _ _) (fun _ => ksk_l1 _ _) fun E' => ?_
  rw [ksk_t1]
  have ho := copyHeap_at s.heap vs
  have ha : s.heap.objs.size + 1 < (copyHeap s.heap vs).objs.size := Heap.lt_size ho
  obtain ⟨e1, ho1⟩ : ∃ e1, ((copyHeap s.heap vs).update (s.heap.objs.size + 1) (Obj.mapSeq fun _ => (#[] : Array Value))).get? (s.heap.objs.size + 1) = some (seqObj "list" #[] e1) := ⟨_, get?_update_seq ho fun _ => #[]⟩
  unfold ksk_tree
  refine wpAny_bind (listItems_at ho rfl ?_)
  refine wpAny_bind (listUpdate_at ho rfl ?_ (by rw [List.size_toArray]; exact hL) (Nat.zero_le _))
  refine wpAny_bind (seqEpoch_at ho1 rfl ?_)
  refine wpAny_bind (wpAny_newTuple ?_ (by show vs.length ≤ _; exact hL))
  refine wpAny_bind (wpAny_newList ?_ (Nat.zero_le _))
  refine wpAny_holding ?_
  have hkS : (((copyHeap s.heap vs).update (s.heap.objs.size + 1) (Obj.mapSeq fun _ => (#[] : Array Value))).push (seqObj "tuple" vs.toArray 0)).objs.size = (copyHeap s.heap vs).objs.size + 1 := by rw [size_push', Heap.size_update]
  refine h E' _ _ e1 (by rw [hkS]; omega) (by rw [hkS]; omega) (fun b o e => sorting_copy_old e) (Heap.get?_push_size _ rfl) (Heap.get?_push_of_some _ (Heap.get?_push_of_some _ ho1))
end
end Sk
set_option Elab.async false
set_option linter.all false
set_option maxRecDepth 100000
set_option maxHeartbeats 4000000
/-! ## S1. a lambda of one parameter; sorted(xs, key=lambda a: ..) -/
namespace Sk
open PySem PySem.Spec PyProof.Rows L2 LamX
/-- one parameter a, no name of its own besides: captured ones and globals -/
structure LamP (sc scope : Scope) (a : Str) : Prop where
  kind : scope.kind = .function
  co : scope.isCoroutine = false
  gen : scope.isGenerator = false
  par : scope.names.lookup a = some .local
  own : ∀ y ∈ scope.names, y.2 ≠ .cell ∧ (y.2 = .local → y.1 = a)
  free : ∀ y ∈ scope.names, y.2 = .free → sc.names.lookup y.1 = some .cell ∨ sc.names.lookup y.1 = some .free
def lamPB (sc scope : Scope) (a : Str) : Bool :=
  decide (scope.kind = .function) && !scope.isCoroutine && !scope.isGenerator && decide (scope.names.lookup a = some .local) &&
    scope.names.all fun y => !decide (y.2 = .cell) && (!decide (y.2 = .local) || decide (y.1 = a)) && (!decide (y.2 = .free) || decide (sc.names.lookup y.1 = some .cell) || decide (sc.names.lookup y.1 = some .free))
theorem lamP_by {sc scope : Scope} {a : Str} (h : lamPB sc scope a = true) : LamP sc scope a := by
  unfold lamPB at h
  simp only [Bool.and_eq_true, Bool.or_eq_true, Bool.not_eq_true', decide_eq_true_eq, decide_eq_false_iff_not, List.all_eq_true] at h
  obtain ⟨⟨⟨⟨h1, h2⟩, h3⟩, h5⟩, h4⟩ := h
  refine ⟨h1, h2, h3, h5, fun y hy => ⟨(h4 y hy).1.1, fun e => ?_⟩, fun y hy e => ?_⟩
  · rcases (h4 y hy).1.2 with z | z
    · exact absurd e z
    · exact z
  · rcases (h4 y hy).2 with (z | z) | z
    · exact absurd e z
    · exact .inl z
    · exact .inr z
theorem LamP.has {X : Cx} {scope : Scope} {a : Str} (L : LamP X.env.scope scope a) (ok : X.Ok) : ∀ y ∈ scope.names, y.2 = .free → ∃ c, X.env.cells.lookup y.1 = some c := fun y hy e => by
  rcases L.free y hy e with k | k
  · exact ok.has _ (.inl k)
  · exact ok.has _ (.inr k)
/-- the context of the lambda's body -/
def lamCxP (X : Cx) (A : Around) (outer : List Env) (s : Shared) (H : Hp) (scope : Scope) (f c' : Addr) (N : List Str) : Cx :=
  { lamCx X A outer s H (fun _ _ _ => False) scope f c' with N := N, xe := fun _ _ => False }
/-- what the lambda sees: its parameter, captured names (each with its place in the maker's row) -/
def capN (a : Str) (cap : List (Str × Nat)) : List Str := a :: cap.map (·.1)
def capt (cap : List (Str × Nat)) (σ : L2.St) : L2.St := cap.map fun p => (σ[p.2]?).join
section
variable {X : Cx} {pins : List (Addr × Obj)} {σ : L2.St} {H : Hp} {s : Shared}
theorem lam_startP {A : Around} {scope : Scope} {f c' : Addr} {h₁ : Heap} {tk : Nat} {a : Str} {u : Value} {v : V} {cap : List (Str × Nat)} (I : Inv X pins σ H s) (L : LamP X.env.scope scope a) (hcap : ∀ p ∈ cap, X.N[p.2]? = some p.1 ∧ p.1 ≠ a)
    (e0 : Env0 X.prog X.w X.K X.mg X.base A X.stack s H) (hd : A.handled = none) (rv : RelV v u)
    (hns : h₁.Ns s.heap.objs.size fun y => ([(a, u)] : List (Str × Value)).reverse.lookup y) (kp : ∀ b o, s.heap.get? b = some o → h₁.get? b = some o) :
    Inv (lamCxP X A X.stack s H scope f c' (capN a cap)) [] (some v :: capt cap σ) H { s with heap := h₁, toks := tk } := by
  have hfree := L.has I.ok
  have cm : ∀ {y c}, (cloFrom X.env.cells scope.names []).lookup y = some c → X.env.cells.lookup y = some c := fun {y c} e => by
    rcases cloFrom_mem (PySem.mem_of_lookup e) with hm | ⟨h1, h2⟩
    · cases hm
    · obtain ⟨c1, hc⟩ := hfree _ h1 rfl
      have hc : X.env.cells.lookup y = some c1 := hc
      have e2 : c = c1 := by
        rw [h2, hc] <;> rfl
      rw [e2]
      exact hc
  have look : ∀ {y}, scope.names.lookup y = some .free → ∃ c, (cloFrom X.env.cells scope.names []).lookup y = some c := fun {y} hl => by
    have hy : (y, NameKind.free) ∈ scope.names := PySem.mem_of_lookup hl
    exact mem_lookup (cloFrom_has (cells := X.env.cells) (acc := []) hy)
  have cellK : ∀ {c : Addr} {v : Option Value}, s.heap.IsCell c v → h₁.IsCell c v := fun {c v} ⟨o, ho, hd⟩ => ⟨_, kp _ _ ho, hd⟩
  have noA : ∀ b : Addr, b ∉ (lamCxP X A X.stack s H scope f c' (capN a cap)).ex := fun b z => absurd (show b ∈ ([] : List Addr) from z) (by simp)
  refine ⟨⟨e0.mod, L.kind, rfl, rfl, Nat.le_refl _, fun y z c e1 e2 => I.ok.inj y z c (cm e1) (cm e2), fun y hy => ?_, fun y c z _ => ?_, fun _ => hd, Around.frames_deeper e0.frames, .inr ⟨rfl, rfl⟩, fun b z => absurd z (noA b), e0.bs, e0.bsz, fun b _ _ => noA b,
      fun b z => absurd z (noA b), e0.funs, e0.frf⟩,
    rfl, e0.bare, Un.kept kp, ⟨_, hns, fun i y x e1 e2 e3 => ?_⟩, fun y c e => ?_, e0.hok.fresh (Nat.le_refl _), fun y c e => ?_, fun q hq => absurd (show q ∈ ([] : List (Addr × Obj)) ++ [] from hq) (by simp), e0.hok.kept kp, ?_⟩
  · have hy : scope.names.lookup y = some .cell ∨ scope.names.lookup y = some .free := hy
    rcases hy with hy | hy
    · exact absurd rfl (L.own _ (PySem.mem_of_lookup hy)).1
    · exact look hy
  · have z : false = true := z
    cases z
  · have e3 : Vis scope y := e3
    have e1 : (a :: cap.map (·.1))[i]? = some y := e1
    cases i with
    | zero =>
      simp at e1 e2
      subst e1 e2
      exact ⟨u, rv, .inl ⟨L.par, by simp⟩⟩
    | succ j =>
      have e1 : (cap.map (·.1))[j]? = some y := by simpa using e1
      have e2 : (capt cap σ)[j]? = some (some x) := by simpa using e2
      unfold capt at e2
      rw [List.getElem?_map] at e1 e2
      cases hp : cap[j]? with
      | none => rw [hp] at e1; cases e1
      | some p =>
        rw [hp] at e1 e2
        have ey : p.1 = y := Option.some.inj e1
        have ex : (σ[p.2]?).join = some x := Option.some.inj e2
        obtain ⟨hN, hne⟩ := hcap p (List.mem_of_getElem? hp)
        rw [ey] at hN hne
        have ex' : σ[p.2]? = some (some x) := by
          cases q : σ[p.2]? with
          | none => rw [q] at ex; cases ex
          | some z => rw [q] at ex; exact congrArg some ex
        rcases e3 with k | k | k
        · exact absurd ((L.own _ (PySem.mem_of_lookup k)).2 rfl) hne
        · exact absurd rfl (L.own _ (PySem.mem_of_lookup k)).1
        · obtain ⟨m, hn, hl⟩ := I.loc
          have hvis : Vis X.env.scope y := (L.free _ (PySem.mem_of_lookup k) rfl).elim (fun k => .inr (.inl k)) (fun k => .inr (.inr k))
          obtain ⟨w', r, q⟩ := hl p.2 y x hN ex' hvis
          obtain ⟨c2, h2⟩ := look k
          refine ⟨w', r, .inr ⟨.inr k, c2, h2, ?_⟩⟩
          have c1 := cm h2
          rcases q with ⟨k', _⟩ | ⟨_, c3, e', z⟩
          · have k' : X.env.scope.names.lookup y = some .local := k'
            rcases L.free _ (PySem.mem_of_lookup k) rfl with k2 | k2 <;> rw [show X.env.scope.names.lookup y = _ from k2] at k' <;> cases k'
          · rw [c1] at e'
            cases e'
            exact cellK z
  · obtain ⟨w', z⟩ := I.cell y c (cm e)
    exact ⟨w', cellK z⟩
  · exact I.freeC y c (cm e)
  · show (some v :: capt cap σ).length = (a :: cap.map (·.1)).length
    simp [capt]
/-- f(u), f made of the lambda -/
theorem lamP_call {A : Around} {scope : Scope} {params : Arguments} {body : Expr} {f c' : Addr} {pm ctv : Value} {q : Str} {a : Str} {u : Value} {v : V} {cap : List (Str × Nat)} {k : Nat} {tb : TE} {Q : VK} (I : Inv X pins σ H s) (L : LamP X.env.scope scope a) (hcap : ∀ p ∈ cap, X.N[p.2]? = some p.1 ∧ p.1 ≠ a)
    (e0 : Env0 X.prog X.w X.K X.mg X.base A X.stack s H) (hr : Room (k + 1) A) (hq : q = X.env.qual ++ "<lambda>")
    (hf : s.heap.get? f = some (PySem.W.kla_obj "<lambda>" q params body scope (cloFrom X.env.cells scope.names []) pm c' ctv)) (hc : H c' = some (CodeO c' q))
    (hbind : bindArgs (PySem.W.kla_fn "<lambda>" q params body scope (cloFrom X.env.cells scope.names []) pm (.ref c') ctv) ⟨[u], []⟩ = pure [(a, u)])
    (hbody : PE (lamCxP X A X.stack s H scope f c' (capN a cap)) body tb) (rv : RelV v u) (ht : tb (some v :: capt cap σ) H Q) :
    wpAny (model X.prog X.w) A (call (.ref f) [u]) (EP X pins σ Q) (fun _ _ => False) s := by
  subst hq
  obtain ⟨⟨oc, vs, t, hoc, hdc, hvc⟩, _, _⟩ := I.hok c' _ hc
  have rc : codeAny (model X.prog X.w) A (.call (.ref f) ⟨[u], []⟩) (fun r s' => match r with | .ok (.ret u') => CE X.stack X.prog X.w H s Q u' s' | _ => False) s := by
    refine PySem.W.kla_callFunE hr.depth hf rfl L.co L.gen rfl ⟨c', oc, vs, t, rfl, hoc, hdc, hvc⟩ ?_
    rw [hbind]
    refine wpAny_pure (wpAny_newFunctionEnv (fun y hy => (L.own y hy).1) (fun y hy => ?_) (fun h₁ hns hsb => ⟨I.nolimit.fresh _ hsb, ?_⟩) L.kind)
    · rw [List.mem_singleton] at hy
      rw [hy]; exact L.par
    show codeAny _ _ (.expr body (lamEnv X scope s.heap.objs.size f c')) _ _
    have kp : ∀ b o, s.heap.get? b = some o → h₁.get? b = some o := fun b o e => hsb.extBut b o (Nat.ne_of_lt (Heap.lt_size e)) (Heap.get?_push_of_some _ e)
    have J := lam_startP (A := A) (f := f) (c' := c') (tk := s.toks + [(a, u)].length) I L hcap e0 hr.hd rv hns kp
    refine PySem.W.kla_codeExpr (wpAny_mono (hbody.run [] _ _ H Q J ht) (fun v s' hq => ?_) fun e s' hq => (show False from hq).elim)
    obtain ⟨w', H', J', rv, q⟩ := hq
    exact ⟨w', H', J'.os, J'.bare, J'.base, J'.hok, rv, q⟩
  refine wpAny_call (codeAny_mono rc fun r s' hq => ?_)
  cases r with
  | error e => exact False.elim hq
  | ok fl =>
    cases fl with
    | ret u => exact I.after hq
    | next => exact False.elim hq
    | brk => exact False.elim hq
    | cont => exact False.elim hq
end
end Sk
set_option Elab.async false
set_option linter.all false
set_option maxRecDepth 100000
set_option maxHeartbeats 4000000
/-! ## S2. sorted(xs, key=lambda a: ..): the rule -/
namespace Sk
open PySem PySem.Spec PyProof.Rows L2 LamX
open PySem.W (EachIs KeyedOut)
/-- the items sorted stably by their keys -/
def sortK {β : Type} (ks : List Int) (xs : List β) : List β := ((ks.zip xs).mergeSort fun p q => decide (p.1 ≤ q.1)).map (·.2)
theorem vals_get : ∀ {xs : List V} {us : List Value} {i : Nat} {u : Value}, Vals xs us → us[i]? = some u → ∃ x, xs[i]? = some x ∧ RelV x u
  | _, _, _, _, .nil, e => by simp at e
  | _, _, 0, _, .cons a r, e => by simp at e; subst e; exact ⟨_, rfl, a⟩
  | _, _, i + 1, v, .cons a r, e => by
    obtain ⟨d, h1, h2⟩ := vals_get (i := i) (u := v) r (by simpa using e)
    exact ⟨d, by simpa using h1, h2⟩
theorem zip_each : ∀ {ks : List Int} {xs : List V} {us : List Value}, Vals xs us → ks.length = xs.length → EachIs (fun (u : Value) (p : Int × V) => RelV p.2 u) us (ks.zip xs)
  | [], _, _, .nil, _ => .nil
  | _ :: _, _, _, .nil, e => by simp at e
  | [], _, _, .cons _ _, e => by simp at e
  | k :: ks, _, _, .cons a r, e => .cons a (zip_each r (by simpa using e))
theorem each_vals : ∀ {us : List Value} {ps : List (Int × V)}, EachIs (fun (u : Value) (p : Int × V) => RelV p.2 u) us ps → Vals (ps.map (·.2)) us
  | _, _, .nil => .nil
  | _, _, .cons a r => .cons a (each_vals r)
theorem zip_fst : ∀ {ks : List Int} {xs : List V}, ks.length = xs.length → (ks.zip xs).map (fun p => PyData.int p.1) = ks.map PyData.int
  | [], [], _ => rfl
  | k :: ks, x :: xs, e => by
    rw [List.zip_cons_cons, List.map_cons, List.map_cons, zip_fst (by simpa using e)]
  | [], _ :: _, e => by simp at e
  | _ :: _, [], e => by simp at e
theorem sorted_vals {ks : List Int} {xs : List V} {us out : List Value} (r : Vals xs us) (e : ks.length = xs.length) (ko : KeyedOut false (ks.map PyData.int) us out) : Vals (sortK ks xs) out := by
  rw [← zip_fst e] at ko
  have h := PySem.W.keyedOut_each (fun p : Int × V => PyData.int p.1) ko (zip_each r e)
  rw [PySem.W.dataLe_int (fun p : Int × V => p.1)] at h
  exact each_vals h
section
variable {X : Cx} {pins : List (Addr × Obj)} {σ : L2.St} {H : Hp} {s : Shared}
theorem sort_lam {scope : Scope} {params : Arguments} {body : Expr} {l f c' : Addr} {xs : List V} {ks : List Int} {pm ctv : Value} {q : Str} {a : Str} {cap : List (Str × Nat)} {k : Nat} {tb : TE} {Q : VK} (I : Inv X pins σ H s) (L : LamP X.env.scope scope a)
    (hcap : ∀ p ∈ cap, X.N[p.2]? = some p.1 ∧ p.1 ≠ a) (hr : Room (k + 3) X.A) (hs : SqL X.K H l xs) (hk : ks.length = xs.length) (hq : q = X.env.qual ++ "<lambda>")
    (hf : s.heap.get? f = some (PySem.W.kla_obj "<lambda>" q params body scope (cloFrom X.env.cells scope.names []) pm c' ctv)) (hfn : H f = none) (hfr : f ∉ frs X.stack)
    (hbind : ∀ u, bindArgs (PySem.W.kla_fn "<lambda>" q params body scope (cloFrom X.env.cells scope.names []) pm (.ref c') ctv) ⟨[u], []⟩ = pure [(a, u)])
    (hbody : ∀ (s : Shared) (H : Hp), PE (lamCxP X X.A.in1.in1 X.stack s H scope f c' (capN a cap)) body tb)
    (W : Nat → Hp → Prop) (Wc : ∀ i H', W i H' → H' c' = some (CodeO c' q)) (W0 : W 0 H)
    (Wt : ∀ i x j H', xs[i]? = some x → ks[i]? = some j → W i H' → tb (some x :: capt cap σ) H' fun v H'' => v = .int j ∧ W (i + 1) H'')
    (Wd : ∀ H', W xs.length H' → ∀ p, H' p = none → Q (.ref p) (upd H' p (.lst (sortK ks xs)))) :
    wpAny (model X.prog X.w) X.A (call (.builtin "sorted") [.ref l] [(Str.ofString "key", .ref f)]) (EP X pins σ Q) X.xe s := by
  obtain ⟨its, rv, pl, hz⟩ := I.list hs
  have hlen := rv.length
  refine sort_enter pl.isList (by rw [← hlen]; exact hz) fun E' h2 kS e1 hkS hka keep nk na => ?_
  have I2 : Inv X pins σ H { s with heap := h2 } := I.kept (t' := s.toks) keep
  have hL := I.lt
  have hA0 : H (s.heap.objs.size + 1) = none := I.hok.fresh (Nat.le_succ _)
  have hpl : ∀ p ∈ X.pn ++ pins, p.1 < s.heap.objs.size := fun p hp => Heap.lt_size (I.pin p hp).1
  have hfl : f < s.heap.objs.size := Heap.lt_size hf
  have hfs : f ∉ X.fs := fun z => hfr (by
    rcases I.ok.stk with e | ⟨e, hfe⟩
    · rw [e]; exact z
    · rw [e]
      unfold frs
      rw [List.filterMap_cons, hfe]
      exact List.mem_cons_of_mem _ z)
  have hfL : f ≠ X.env.locals := fun z => by
    obtain ⟨m, ⟨o, es, ep, ho, hd, _⟩, _⟩ := I.loc
    rw [← z, hf] at ho
    cases ho
    cases hd
  let fo : Obj := PySem.W.kla_obj "<lambda>" q params body scope (cloFrom X.env.cells scope.names []) pm c' ctv
  let a' : Addr := s.heap.objs.size + 1
  let pn (kA : Array Value) (e : Nat) : List (Addr × Obj) := (kS, seqObj "list" kA e) :: (a', seqObj "list" #[] e1) :: (f, fo) :: pins
  refine keyJ_rest (J := fun kA s' => ∃ H' e, Inv X (pn kA e) σ H' s' ∧ W kA.size H') (J1 := fun kA s' => ∃ H' e, Inv X (pn kA e) σ H' s' ∧ W (kA.size + 1) H') (ks := ks)
    hka (by rw [← hlen]; exact hz) (by rw [hk, hlen]) (show X.A.units + 1 + 1 < cLine by have := hr.un; omega) ?J0 ?at_ ?turn ?at1 ?push ?fin
  case J0 =>
    refine ⟨H, 0, I2.pins_of fun p hp => ?_, W0⟩
    rcases List.mem_cons.mp hp with rfl | hp
    · exact ⟨nk, I.hok.fresh hkS, Nat.ne_of_gt (Nat.lt_of_lt_of_le hL hkS), I.nofs hkS, fun v z => by cases z⟩
    rcases List.mem_cons.mp hp with rfl | hp
    · exact ⟨na, hA0, Nat.ne_of_gt (Nat.lt_succ_of_lt hL), I.nofs (Nat.le_succ _), fun v z => by cases z⟩
    rcases List.mem_cons.mp hp with rfl | hp
    · exact ⟨keep _ _ hf, hfn, hfL, hfs, fun v z => by cases z⟩
    · exact I2.pin p (List.mem_append_right _ hp)
  case at_ =>
    rintro kA s' ⟨H', e, I', _⟩
    exact ⟨⟨e, (I'.pin (kS, _) (List.mem_append_right _ (.head _))).1⟩, (I'.pin (a', _) (List.mem_append_right _ (.tail _ (.head _)))).1⟩
  case at1 =>
    rintro kA s' ⟨H', e, I', _⟩
    exact ⟨e, (I'.pin (kS, _) (List.mem_append_right _ (.head _))).1⟩
  case turn =>
    rintro i u j hu hj kA s' hsz ⟨H', e, I', hw⟩
    subst hsz
    obtain ⟨x, hx, rx⟩ := vals_get rv hu
    have hf' : s'.heap.get? f = some fo := (I'.pin (f, fo) (List.mem_append_right _ (.tail _ (.tail _ (.head _))))).1
    have hr' : Room (k + 1) X.A.in1.in1 := (hr.in1).in1
    refine wpAny_mono (lamP_call (A := X.A.in1.in1) I' L hcap I'.env0.in1.in1 hr' hq hf' (Wc _ _ hw) (hbind u) (hbody s' H') rx (Wt _ x j H' hx hj hw)) (fun v s'' hs => ?_) fun _ _ z => z
    obtain ⟨v', H'', I'', rv', ev, hw'⟩ := hs
    subst ev
    exact ⟨rv', H'', e, I'', hw'⟩
  case push =>
    rintro kA s' u ⟨H', e, I', hw⟩
    have pk := I'.pin (kS, _) (List.mem_append_right _ (.head _))
    have s1 := Heap.SameBut.update s'.heap kS (Obj.mapSeq (·.push u))
    obtain ⟨c2, hc2⟩ : ∃ c2, (s'.heap.update kS (Obj.mapSeq (·.push u))).get? kS = some (seqObj "list" (kA.push u) c2) := ⟨_, get?_update_seq pk.1 (·.push u)⟩
    have Ia : Inv X ((a', seqObj "list" #[] e1) :: (f, fo) :: pins) σ H' s' := I'.pins_of fun p hp => I'.pin p (List.mem_append_right _ (.tail _ hp))
    have low : ∀ p ∈ X.pn ++ ((a', seqObj "list" #[] e1) :: (f, fo) :: pins), p.1 ≠ kS := fun p hp => by
      rcases List.mem_append.mp hp with hp | hp
      · exact Nat.ne_of_lt (Nat.lt_of_lt_of_le (hpl p (List.mem_append_left _ hp)) hkS)
      rcases List.mem_cons.mp hp with rfl | hp
      · exact hka.symm
      rcases List.mem_cons.mp hp with rfl | hp
      · exact Nat.ne_of_lt (Nat.lt_of_lt_of_le hfl hkS)
      · exact Nat.ne_of_lt (Nat.lt_of_lt_of_le (hpl p (List.mem_append_right _ hp)) hkS)
    have Ib := Ia.turned (it := kS) (t' := s'.toks) (h' := s'.heap.update kS (Obj.mapSeq (·.push u))) (fun b o hb e => (s1.2 b hb).trans e) pk.2.1 pk.2.2.1 (.inr (Nat.le_trans I.sz hkS)) (fun x c hc z => by
      obtain ⟨v, o, ho, hd⟩ := I'.cell x c hc
      rw [z, pk.1] at ho
      cases ho
      cases hd) low
    refine ⟨H', c2, Ib.pins_of fun p hp => ?_, by rw [Array.size_push]; exact hw⟩
    rcases List.mem_cons.mp hp with rfl | hp
    · exact ⟨hc2, pk.2.1, pk.2.2.1, pk.2.2.2.1, fun v z => by cases z⟩
    · exact Ib.pin p (List.mem_append_right _ hp)
  case fin =>
    rintro kA s' h' tk out c hsz ⟨H', e, I', hw⟩ kp hA' ko
    have pk := I'.pin (kS, _) (List.mem_append_right _ (.head _))
    have pa := I'.pin (a', _) (List.mem_append_right _ (.tail _ (.head _)))
    have ro := sorted_vals rv hk ko
    have lo : (sortK ks xs).length ≤ sizeLine := by
      unfold sortK
      rw [List.length_map, List.length_mergeSort, List.length_zip, hk, Nat.min_self]
      exact hz
    have noC : ∀ x c, X.env.cells.lookup x = some c → c ≠ kS ∧ c ≠ a' := fun x c hc => by
      obtain ⟨v, o, ho, hd⟩ := I'.cell x c hc
      refine ⟨fun z => ?_, fun z => ?_⟩
      · rw [z, pk.1] at ho
        cases ho
        cases hd
      · rw [z, pa.1] at ho
        cases ho
        cases hd
    have nin : ∀ {b : Addr}, b ∉ ([a', kS] : List Addr) → b ≠ a' ∧ b ≠ kS := fun {b} z => ⟨fun q => z (by rw [q]; exact .head _), fun q => z (by rw [q]; exact .tail _ (.head _))⟩
    have trk : ∀ b u, H' b = some u → b ≠ a' ∧ b ≠ kS := fun b u e => ⟨(fun z => by rw [z, pa.2.1] at e; cases e), (fun z => by rw [z, pk.2.1] at e; cases e)⟩
    have Ia : Inv X pins σ H' s' := I'.pins_of fun p hp => I'.pin p (List.mem_append_right _ (.tail _ (.tail _ (.tail _ hp))))
    refine ⟨rfl, .ref a', upd H' a' (.lst (sortK ks xs)), Ia.step (g' := s'.gens) (d' := s'.drawn) (t' := tk) (ch := [a', kS]) (fun b hb => ?_) (fun b o _ _ hc e _ => kp b o (nin hc).1 (nin hc).2 e) (fun b o _ _ hc e _ => ⟨o.slots, kp b o (nin hc).1 (nin hc).2 e⟩)
      (fun b o hc _ n => by rw [upd_ne (nin hc).1]; exact n) (fun b o hc e => ⟨o, kp b o (nin hc).1 (nin hc).2 e⟩) (fun b xs e => by rw [upd_ne (trk b _ e).1]; exact e) (fun b o u e => by rw [upd_ne (trk b _ e).1]; exact e) (fun b ps e => ⟨#[], by rw [upd_ne (trk b _ e).1, e]; simp⟩) (fun m hm => ?_) (fun b u e => ?_) Ia.bare,
      rfl, Wd H' (by rw [hlen, ← hsz]; exact hw) a' pa.2.1⟩
    · rcases List.mem_cons.mp hb with rfl | hb
      · exact ⟨.inr (Nat.le_trans I.sz (Nat.le_succ _)), pa.2.2.1, fun x c hc => (noC x c hc).2, fun p hp => Nat.ne_of_lt (Nat.lt_succ_of_lt (hpl p hp))⟩
      · have e : b = kS := by simpa using hb
        subst e
        exact ⟨.inr (Nat.le_trans I.sz hkS), pk.2.2.1, fun x c hc => (noC x c hc).1, fun p hp => Nat.ne_of_lt (Nat.lt_of_lt_of_le (hpl p hp) hkS)⟩
    · obtain ⟨o, es, ep, ho, r⟩ := hm
      exact ⟨o, es, ep, kp _ o (Ne.symm pa.2.2.1) (Ne.symm pk.2.2.1) ho, r⟩
    · by_cases hb : b = a'
      · rw [hb, upd_same] at e
        cases e
        rw [hb]
        exact ⟨lo, out, c, ro, hA'⟩
      · rw [upd_ne hb] at e
        refine (Ia.hok b u e).stay (fun d v hd q => ?_) (fun d q => by rw [upd_ne (trk d _ q).1]; exact q) fun d xs q => by rw [upd_ne (trk d _ q).1]; exact q
        rcases hd with z | z
        · rw [z] at q ⊢
          exact kp b v hb (trk b _ e).2 q
        · exact kp d v (trk d _ z).1 (trk d _ z).2 q
end
end Sk
set_option Elab.async false
set_option linter.all false
set_option maxRecDepth 100000
set_option maxHeartbeats 4000000
/-! ## S3. a lambda is made, all but its maker's table stays; the rule for sorted(e, key=lambda a: ..) -/
namespace Sk
open PySem PySem.Spec PyProof.Rows L2 LamX
/-- all but T's tables stay -/
def KT (T : List (Addr × Str)) (H H' : Hp) : Prop := ∀ b o, (∀ q, (b, q) ∉ T) → H b = some o → H' b = some o
/-- what a def's code and its table must be for its lambdas -/
structure LamM (X : Cx) (T : List (Addr × Str)) (q : Str) : Prop where
  ex : ∃ c P, X.env.code = .ref c ∧ TabB X.base X.mg c P ∧ (P, q) ∈ T ∧ ∀ p ∈ T, p.1 = P → p.2 = q
  nm : q = X.env.qual ++ "<lambda>"
section
variable {X : Cx} {pins : List (Addr × Obj)} {σ : L2.St} {H : Hp} {s : Shared}
theorem lam_mk {T : List (Addr × Str)} {q : Str} {params : Arguments} {body : Expr} {scope : Scope} {pos : Pos} {E : Value → Shared → Prop} {Q : Value → Shared → Prop} (I : Inv X pins σ H s) (M : LamM X T q) (hT : Tabs T H)
    (hdef : defaultsOf params X.env = ([], [])) (hfree : ∀ y ∈ scope.names, y.2 = .free → ∃ c, X.env.cells.lookup y.1 = some c)
    (h : ∀ (f c' : Addr) (pm ctv : Value) (H1 : Hp) (s' : Shared), Inv X pins σ H1 s' → KT T H H1 → Tabs T H1 →
      s'.heap.get? f = some (PySem.W.kla_obj "<lambda>" q params body scope (cloFrom X.env.cells scope.names []) pm c' ctv) → H1 f = none → f ∉ frs X.stack → H1 c' = some (CodeO c' q) → Q (.ref f) s') :
    wpAny (model X.prog X.w) X.A (eval (.Lambda params body scope pos) X.env) Q E s := by
  obtain ⟨⟨c, P, hcode, TB, hm, hu⟩, rfl⟩ := M
  have tP := hT _ hm
  obtain ⟨ps, hP, ht, ha⟩ := tP
  have oP : s.heap.get? P = some { cls := .none, data := .fields ps } := I.hok P _ hP
  have sP : P < s.heap.objs.size := Heap.lt_size oP
  have away : ∀ f, s.heap.objs.size ≤ f → f ∉ frs X.stack := fun f hf z => by
    rcases List.mem_cons.mp (I.stkSub _ z) with e | e
    · have h1 := I.lt
      rw [← e] at h1
      exact absurd (Nat.lt_of_lt_of_le h1 hf) (Nat.lt_irrefl _)
    · exact I.nofs hf e
  apply PySem.W.kla_eval hdef
  rcases hc : codeAmong pos ps.toList with _ | cv
  · apply PySem.W.kla_makeFunction (mg := X.mg) (c := c) (P := P) (ps := ps) (closure_ok hfree) I.ok.glob (I.mod.glob.keeps I.bk) hcode (TB.code.keeps I.bk) oP ht hc TB.gP (TB.bm.keeps I.bk)
    rintro c' ctv h' tk hx hge hlt ⟨c2, oc, vs, t, e2, hoc, hd, hv⟩ htb
    cases e2
    have nC : H c' = none := I.hok.fresh hge
    have nP : P ≠ c' := Nat.ne_of_lt (Nat.lt_of_lt_of_le sP hge)
    have J := inv_table (q := X.env.qual ++ "<lambda>") (t' := tk) (more := #[rawInt pos.line, rawInt pos.col, .ref c']) I hP (fun b o hb e => Heap.get?_push_of_some (PySem.W.kla_obj "<lambda>" (X.env.qual ++ "<lambda>") params body scope (cloFrom X.env.cells scope.names []) ((X.mg "__name__").getD .none) c' ctv) (hx b o hb e)) (Heap.get?_push_of_some _ htb) hge
      ⟨oc, vs, t, Heap.get?_push_of_some _ hoc, hd, hv⟩
    -- what stands where
    have same : ∀ b o, b ≠ P → H b = some o → upd (upd H P (.tbl (ps ++ #[rawInt pos.line, rawInt pos.col, .ref c']))) c' (CodeO c' (X.env.qual ++ "<lambda>")) b = some o := fun b o h1 e => by
      rw [upd_ne (ne_of_none e nC), upd_ne h1]; exact e
    have code_ne : ∀ c0 q0, H c0 = some (CodeO c0 q0) → c0 ≠ P := fun c0 q0 e z => by
      rw [z, hP] at e
      exact codeO_ne (c := P) (q := q0) ps (Option.some.inj e).symm
    have atP : upd (upd H P (.tbl (ps ++ #[rawInt pos.line, rawInt pos.col, .ref c']))) c' (CodeO c' (X.env.qual ++ "<lambda>")) P = some (.tbl (ps ++ #[rawInt pos.line, rawInt pos.col, .ref c'])) := by
      rw [upd_ne nP, upd_same]
    have list_ : (ps ++ #[rawInt pos.line, rawInt pos.col, .ref c']).toList = ps.toList ++ [rawInt pos.line, rawInt pos.col, .ref c'] := by simp
    have hsz : s.heap.objs.size ≤ h'.objs.size := Nat.le_trans hge (Nat.le_of_lt hlt)
    refine h _ c' _ ctv _ _ J (fun b o nb e => same b o (fun z => nb _ (z ▸ hm)) e) (fun p hp => ?_) (Heap.get?_push_size _ rfl) ?_ (away _ hsz) upd_same
    · by_cases hb : p.1 = P
      · have e2 := hu p hp hb
        rw [hb, e2]
        refine ⟨_, atP, by rw [list_]; exact PySem.TriplesOk_snoc _ _ _ _ ht, fun p' cv hcv => ?_⟩
        rw [list_] at hcv
        rcases among_app _ ht hcv with z | z
        · obtain ⟨c0, e3, e4⟩ := ha p' cv z
          exact ⟨c0, e3, same _ _ (code_ne _ _ e4) e4⟩
        · exact ⟨c', z, upd_same⟩
      · obtain ⟨ps', a1, a2, a3⟩ := hT p hp
        refine ⟨ps', same _ _ hb a1, a2, fun p' cv hcv => ?_⟩
        obtain ⟨c0, e3, e4⟩ := a3 p' cv hcv
        exact ⟨c0, e3, same _ _ (code_ne _ _ e4) e4⟩
    · rw [upd_ne (Nat.ne_of_gt hlt), upd_ne (Nat.ne_of_gt (Nat.lt_of_lt_of_le sP hsz))]
      exact I.hok.fresh hsz
  · obtain ⟨c', rfl, hco⟩ := ha pos cv hc
    apply PySem.W.kla_makeFunctionHit (mg := X.mg) (c := c) (P := P) (ps := ps) (closure_ok hfree) I.ok.glob (I.mod.glob.keeps I.bk) hcode (TB.code.keeps I.bk) oP ht hc (TB.bm.keeps I.bk)
    intro ctv h' tk hx hsz
    exact h _ c' _ ctv H _ (I.kept fun b o e => Heap.get?_push_of_some _ (hx b o e)) (fun _ _ _ e => e) hT (Heap.get?_push_size _ rfl) (I.hok.fresh hsz) (away _ hsz) hco
theorem sql_kt {T : List (Addr × Str)} {K : PySem.W.Frag} {H H' : Hp} {l : Addr} {xs : List V} (t : Tabs T H) (k : KT T H H') (h : SqL K H l xs) : SqL K H' l xs := by
  have nt : ∀ o, H l = some o → (∀ ps, o ≠ .tbl ps) → H' l = some o := fun o e n => k l o (fun q hq => by
    obtain ⟨ps, e2, _⟩ := t _ hq
    have e3 : H l = some (.tbl ps) := e2
    rw [e3] at e
    exact n ps (Option.some.inj e).symm) e
  rcases h with (h | ⟨o, h⟩) | h
  · exact .inl (.inl (nt _ h fun _ z => by cases z))
  · exact .inl (.inr ⟨o, nt _ h fun _ z => by cases z⟩)
  · exact .inr h
/-- sorted(e, key=lambda a: ..) -/
def tSortKey (K : PySem.W.Frag) (T : List (Addr × Str)) (q : Str) (cap : List (Str × Nat)) (te tb : TE) : TE := fun σ H Q => te σ H fun x H1 => ∃ l xs, x = .ref l ∧ SqL K H1 l xs ∧ Tabs T H1 ∧
  ∀ H2 c', KT T H1 H2 → Tabs T H2 → H2 c' = some (CodeO c' q) → ∃ (ks : List Int) (W : Nat → Hp → Prop), ks.length = xs.length ∧ (∀ i H', W i H' → H' c' = some (CodeO c' q)) ∧ W 0 H2 ∧
    (∀ i x j H', xs[i]? = some x → ks[i]? = some j → W i H' → tb (some x :: capt cap σ) H' fun v H'' => v = .int j ∧ W (i + 1) H'') ∧
    (∀ H', W xs.length H' → ∀ p, H' p = none → Q (.ref p) (upd H' p (.lst (sortK ks xs))))
theorem pe_sortkey {T : List (Addr × Str)} {q : Str} {e : Expr} {te tb : TE} {params : Arguments} {body : Expr} {scope : Scope} {a : Str} {cap : List (Str × Nat)} {k : Nat} {p lpos kpos pos : Pos} (hg : Gl X "sorted") (hm : X.mg "sorted" = none) (he : PE X e te)
    (M : LamM X T q) (hr : Room (k + 3) X.A) (L : LamP X.env.scope scope a) (hdef : defaultsOf params X.env = ([], []))
    (hbind : ∀ (q : Str) (cl : List (Str × Addr)) (pm cv ctv u : Value), bindArgs (PySem.W.kla_fn "<lambda>" q params body scope cl pm cv ctv) ⟨[u], []⟩ = pure [(a, u)])
    (hcap : ∀ p ∈ cap, X.N[p.2]? = some p.1 ∧ p.1 ≠ a)
    (hbody : ∀ (s : Shared) (H : Hp) (f c' : Addr), PE (lamCxP X X.A.in1.in1 X.stack s H scope f c' (capN a cap)) body tb)
    (na : starEach [e] X.env = (false, eval e X.env) :: starEach [] X.env := by rfl)
    (ne : backTo pos (starEach [e] X.env) = (false, eval e X.env) :: backTo pos (starEach [] X.env) := by rfl) (hpl : (backTo pos (starEach [e] X.env)).any (·.1) = false := by rfl) :
    PE X (.Call (.Name "sorted" p) [e] [⟨some "key", .Lambda params body scope lpos, kpos⟩] pos) (tSortKey X.K T q cap te tb) := by
  refine ⟨fun pins s σ H Q I h => ?_⟩
  refine wpAny_Call_Name_kw (ld_blt I hg hm boot_sorted ?_)
  let R : List V → Hp → Prop := fun vs H1 => match vs with
    | [x] => ∃ l xs, x = .ref l ∧ SqL X.K H1 l xs ∧ Tabs T H1 ∧
      ∀ H2 c', KT T H1 H2 → Tabs T H2 → H2 c' = some (CodeO c' q) → ∃ (ks : List Int) (W : Nat → Hp → Prop), ks.length = xs.length ∧ (∀ i H', W i H' → H' c' = some (CodeO c' q)) ∧ W 0 H2 ∧
        (∀ i x j H', xs[i]? = some x → ks[i]? = some j → W i H' → tb (some x :: capt cap σ) H' fun v H'' => v = .int j ∧ W (i + 1) H'') ∧
        (∀ H', W xs.length H' → ∀ p, H' p = none → Q (.ref p) (upd H' p (.lst (sortK ks xs))))
    | _ => False
  have h' : tCons te tNil σ H R := h
  refine PyProof.Rows.callWith_kw (thn ((pa_cons he pa_nil na).run pos pins s σ H R I h') fun us s1 hs => ?_) ne hpl
  obtain ⟨vs, H1, I1, r1, q1⟩ := hs
  match vs, r1, q1 with
  | [], _, q1 => exact False.elim q1
  | _ :: _ :: _, _, q1 => exact False.elim q1
  | [x], r1, q1 =>
    obtain ⟨l, xs, rfl, hs, hT, q1⟩ := q1
    obtain rfl := Vals.ref1 r1
    show wpAny _ _ (evalAll [do let v ← eval (.Lambda params body scope lpos) X.env; standAt pos; pure v]) _ _ s1
    refine wpAny_evalAll_cons (wpAny_bind (lam_mk I1 M hT hdef (L.has I.ok) fun f c' pm ctv H2 s2 I2 kt T2 hf hfn hfr hco => wpAny_bind (wpAny_standAt (wpAny_pure (wpAny_evalAll_nil ?_)))))
    obtain ⟨ks, W, hk, Wc, W0, Wt, Wd⟩ := q1 H2 c' kt T2 hco
    show wpAny _ _ (call (.builtin "sorted") [.ref l] [(Str.ofString "key", .ref f)]) _ _ s2
    exact sort_lam I2 L hcap hr (sql_kt hT kt hs) hk M.nm hf hfn hfr (fun u => hbind _ _ _ _ _ u) (fun s H => hbody s H f c') W Wc W0 Wt Wd
end
end Sk
set_option Elab.async false
set_option linter.all false
set_option maxRecDepth 100000
set_option maxHeartbeats 4000000
/-! ## DA. sorted(xs, key=lambda a: ..) over data -/
namespace Dl
open PySem PySem.Spec PyProof.Rows L2 Cm Sk
variable [Tb : Tbls]
theorem sortK_map {α β : Type} (f : α → β) (ks : List Int) (zs : List α) : sortK ks (zs.map f) = (sortK ks zs).map f := by
  unfold sortK
  have e : ks.zip (zs.map f) = (ks.zip zs).map (fun p => (p.1, f p.2)) := by
    rw [List.zip_map_right]
    rfl
  rw [e, ← List.map_mergeSort (r := fun (p q : Int × α) => decide (p.1 ≤ q.1)) (s := fun (p q : Int × β) => decide (p.1 ≤ q.1)) (f := fun p : Int × α => (p.1, f p.2)) (fun _ _ _ _ => rfl), List.map_map, List.map_map]
  rfl
theorem sortK_sub {α : Type} {ks : List Int} {zs : List α} {z : α} (h : z ∈ sortK ks zs) : z ∈ zs := by
  unfold sortK at h
  obtain ⟨p, hp, rfl⟩ := List.mem_map.mp h
  rw [List.mem_mergeSort] at hp
  exact (List.of_mem_zip (a := p.1) (b := p.2) hp).2
theorem sortK_length {α : Type} {ks : List Int} {zs : List α} (h : ks.length = zs.length) : (sortK ks zs).length = zs.length := by
  unfold sortK
  rw [List.length_map, List.length_mergeSort, List.length_zip, h, Nat.min_self]
section
variable {K : PySem.W.Frag} {N : Addr → Prop} {M : Ms} {H H' : Hp} {μ : Mu} {σ : L2.St} {ρ : Rho}
theorem IsAll.pairs {α : Type} {f : α → V} {g : α → D} : ∀ {zs : List α}, (∀ z ∈ zs, Is K N H (f z) (g z)) → IsAll K N H (zs.map f) (zs.map g)
  | [], _ => .nil
  | z :: zs, h => .cons (h z (.head _)) (IsAll.pairs fun y hy => h y (.tail _ hy))
theorem IsAll.zips : ∀ {vs : List V} {ds : List D}, IsAll K N H vs ds → (∀ z ∈ vs.zip ds, Is K N H z.1 z.2) ∧ (vs.zip ds).map (·.1) = vs ∧ (vs.zip ds).map (·.2) = ds
  | _, _, .nil => ⟨(fun _ z => by simp at z), rfl, rfl⟩
  | _, _, .cons (v := v) (d := d) (vs := vs) (ds := ds) a r => by
    obtain ⟨h1, h2, h3⟩ := IsAll.zips r
    refine ⟨fun z hz => ?_, ?_, ?_⟩
    · rw [List.zip_cons_cons] at hz
      rcases List.mem_cons.mp hz with rfl | hz
      · exact a
      · exact h1 z hz
    · rw [List.zip_cons_cons, List.map_cons, h2]
    · rw [List.zip_cons_cons, List.map_cons, h3]
theorem IsAll.sortK {ks : List Int} {vs : List V} {ds : List D} (h : IsAll K N H vs ds) : IsAll K N H (Sk.sortK ks vs) (Sk.sortK ks ds) := by
  obtain ⟨h1, h2, h3⟩ := h.zips
  have r := IsAll.pairs (K := K) (N := N) (H := H) (f := fun z : V × D => z.1) (g := fun z : V × D => z.2) (zs := Sk.sortK ks (vs.zip ds)) fun z hz => h1 z (sortK_sub hz)
  rw [← sortK_map, ← sortK_map, h2, h3] at r
  exact r
theorem StR.kt (s : StR K N M H μ) (k : KT Tb.ts H H') (t : LamX.Tabs Tb.ts H') : StR K N M H' μ ∧ Kp M H H' := by
  have kp : Kp M H H' := fun b o nb e => k b o (fun q hq => nb (.inr ⟨q, hq⟩)) e
  refine ⟨⟨s.len, s.sub, fun a z => ?_, fun j a e => ?_, s.inj, t⟩, kp⟩
  · obtain ⟨o, ho⟩ := s.trk a z
    by_cases q : inT a
    · obtain ⟨q, hq⟩ := q
      obtain ⟨ps, e, _⟩ := t _ hq
      exact ⟨_, e⟩
    · exact ⟨o, k a o (fun q' hq => q ⟨q', hq⟩) ho⟩
  · obtain ⟨c, h1, h2⟩ := s.cell j a e
    refine ⟨c, h1, h2.go (s.go kp) ?_⟩
    obtain ⟨o, ho⟩ := s.trk a (s.sub a (inM.of e))
    rw [ho]
    exact k a o (fun q hq => s.notT e ⟨q, hq⟩) ho
theorem StR.notCode {c : Addr} {q : Str} (s : StR K N M H μ) (h : H c = some (LamX.CodeO c q)) : ¬ inM M c := by
  rintro (z | ⟨q', hq⟩)
  · obtain ⟨j, hj⟩ := List.mem_iff_getElem?.mp z
    obtain ⟨cc, _, h2⟩ := s.cell j c hj
    cases cc with
    | lst ds => obtain ⟨vs, e, _⟩ := h2; rw [h] at e; unfold LamX.CodeO at e; cases e
    | obj C ns ds => obtain ⟨dx, vs, e, _⟩ := h2; rw [h] at e; unfold LamX.CodeO at e; cases e
  · obtain ⟨ps, e, _⟩ := s.tab _ hq
    have e2 : H c = some (.tbl ps) := e
    rw [h] at e2
    exact LamX.codeO_ne ps (Option.some.inj e2)
def captD (cap : List (Str × Nat)) (ρ : Rho) : Rho := cap.map fun p => (ρ[p.2]?).join
theorem EnvR.capt {cap : List (Str × Nat)} {v : V} {x : S} (e : EnvR K N M σ H ρ) (r : IsS K N M H v x) : EnvR K N M (some v :: Sk.capt cap σ) H (some x :: captD cap ρ) := by
  refine ⟨by simp [Sk.capt, captD], fun i s h => ?_⟩
  cases i with
  | zero => simp at h; subst h; exact ⟨v, rfl, r⟩
  | succ j =>
    have h : (captD cap ρ)[j]? = some (some s) := by simpa using h
    unfold captD at h
    rw [List.getElem?_map] at h
    cases hp : cap[j]? with
    | none => rw [hp] at h; cases h
    | some p =>
      rw [hp] at h
      have h' : (ρ[p.2]?).join = some s := Option.some.inj h
      have h2 : ρ[p.2]? = some (some s) := by
        cases q : ρ[p.2]? with
        | none => rw [q] at h'; cases h'
        | some z => rw [q] at h'; exact congrArg some h'
      obtain ⟨w, h3, h4⟩ := e.at_ p.2 s h2
      refine ⟨w, ?_, h4⟩
      show (Sk.capt cap σ)[j]? = _
      unfold Sk.capt
      rw [List.getElem?_map, hp]
      show some (σ[p.2]?).join = _
      rw [h3]; rfl
end
def dSortKey (cap : List (Str × Nat)) (A B : TD) : TNd := fun ρ μ Q => A ρ μ fun s μ1 => ∃ ds, lstS s μ1 = some ds ∧ ∃ ks : List Int, ks.length = ds.length ∧
  (∀ (i : Nat) (d : D) (j : Int), ds[i]? = some d → ks[i]? = some j → B (some (.d d) :: captD cap ρ) μ1 fun v μ' => v = .d (.int j) ∧ μ' = μ1) ∧ Q (sortK ks ds) μ1
instance sdn_sortkey {K : PySem.W.Frag} {q : Str} {cap : List (Str × Nat)} {te tb : TE} {A B : TD} [a : SdE K te A] [b : SdE K tb B] : SdN K (tSortKey K Tb.ts q cap te tb) (dSortKey cap A B) where
  go := by
    intro N M σ H ρ μ Qd Qv er h c
    refine a.go N M σ H ρ μ _ _ er h fun v H1 s μ1 k1 s1 r1 ⟨ds, es, ks, hk, hb, q⟩ => ?_
    obtain ⟨l, xs, rfl, hl, ra⟩ := lstS_inv s1 r1 es
    have hlen := ra.length
    refine ⟨l, xs, rfl, hl, s1.tab, fun H2 c' kt T2 hc => ?_⟩
    obtain ⟨s2, k2⟩ := s1.kt kt T2
    have nc := s2.notCode hc
    refine ⟨ks, fun i H' => StR K N M H' μ1 ∧ Kp M H2 H', by rw [hk, hlen], fun i H' hw => hw.2 c' _ nc hc, ⟨s2, Kp.refl⟩, fun i x j H' hx hj ⟨st, k⟩ => ?_, fun H' ⟨st, k⟩ p hp => ?_⟩
    · obtain ⟨d, hd, rd⟩ := ra.get hx
      have er' : ER K N M σ H' ρ μ1 := er.go (k1.trans (k2.trans k)) st
      have rd' : Is K N H' x d := rd.go ((s1.go k2).trans (s2.go k))
      refine b.go N M _ H' _ μ1 _ _ ⟨er'.env.capt (.d rd'), st⟩ (hb i d j hd hj) fun w H'' s'' μ'' k'' st'' r'' ⟨ev, em⟩ => ?_
      subst ev em
      exact ⟨r''.d_inv.int_inv, st'', k.trans k''⟩
    · exact (c.step er.st (k1.trans (k2.trans k)) st).put st (ra.go ((s1.go k2).trans (s2.go k))).sortK hp q
instance {K : PySem.W.Frag} {q : Str} {cap : List (Str × Nat)} {te tb : TE} {A B : TD} [SdE K te A] [SdE K tb B] : SdE K (tSortKey K Tb.ts q cap te tb) (dOfN (dSortKey cap A B)) := sde_of inferInstance
end Dl
set_option Elab.async false
set_option linter.all false
set_option maxRecDepth 100000
set_option maxHeartbeats 4000000
/-! ## DB. a law with tables of code objects; defs that make lambdas -/
namespace Cm
open PySem PySem.Spec PyProof.Rows L2 LamX
theorem law_goT {P : Program} {w : World} {K : PySem.W.Frag} {mg mb : Str → Option Value} {CX : CXT} {k : Nat} {fa a : Addr} {cs : List (Addr × Addr)} {fd : FuncData} {x : Str} {sp : Sp} {s₁ : Shared} {vs : List Value} {ns : List Int}
    (KX : K.In s₁.heap) (hns : s₁.heap.Ns mainGlobals mg) (hb : s₁.heap.Ns builtinsNs mb) (hbb : ∀ x : Str, x ≠ "__name__" → mb x = bootBuiltins x) (hlim : s₁.heap.NoLimit) (hg : s₁.gens = #[])
    (hT : ∀ p ∈ cs, PySem.W.CodeHd s₁.heap p.1 p.2 ∧ s₁.heap.get? p.2 = some (PySem.W.tabObj #[])) (nT : ∀ p ∈ cs, K.lookup p.2 = none)
    (hbm : ∃ (bm : Addr) (ob : Obj), mg "__builtins__" = some (.ref bm) ∧ bm ≠ builtinsNs ∧ s₁.heap.get? bm = some ob ∧ ob.cls = .type "module" ∧ ob.dict = some builtinsNs ∧ ob.data = .plain)
    (ha : s₁.heap.get? a = some { cls := .type "list", data := .seq vs.toArray }) (hi : IntsAre vs ns) (hl : ns.length ≤ sizeLine) (hr : Room k callerA)
    (F : ∀ base : Heap, K.In base → base.Ns mainGlobals mg → (∀ p ∈ cs, TabB base mg p.1 p.2) → Fg P w K mg base CX k fa fd [x] sp)
    (hbind : ∀ (s : Shared) (u : Value), BindsTo s fd ⟨[u], []⟩ [(x, u)])
    (hsp : ∀ H : Hp, (∀ p ∈ cs, H p.2 = some (.tbl #[])) → SqL K H a (ns.map V.int) → sp [.ref a] H (fun v _ => v = .bl true) fun _ _ _ => False)
    (hCX : ∀ H e s', CX [] H s₁ (fun _ _ _ => False) e s' → False) :
    codeAny (model P w) callerA (.call (.ref fa) ⟨[.ref a], []⟩)
      (fun r s' => r = .ok (.ret (.bool true)) ∧ OldK s₁.heap s'.heap ∧ s'.os = s₁.os ∧ AllBare s'.gens) s₁ := by
  have nums : Vals (ns.map V.int) vs := vals_ints hi
  have many := hi.length
  let tb : List Addr := cs.map (·.2)
  have inT : ∀ p ∈ cs, p.2 ∈ tb := fun p hp => List.mem_map.mpr ⟨p, hp, rfl⟩
  have ofT : ∀ b ∈ tb, ∃ p ∈ cs, p.2 = b := fun b hb => List.mem_map.mp hb
  have obT : ∀ b ∈ tb, s₁.heap.get? b = some (PySem.W.tabObj #[]) := fun b hb => by
    obtain ⟨p, hp, e⟩ := ofT b hb
    rw [← e]; exact (hT p hp).2
  have aT : a ∉ tb := fun z => by
    have e := (obT a z).symm.trans ha
    have e2 : Data.fields #[] = Data.seq vs.toArray _ := congrArg Obj.data (Option.some.inj e)
    cases e2
  have core : ∀ H : Hp, (∀ b ∈ tb, H b = some (.tbl #[])) → (∀ b, b ∉ tb → H b = none ∨ ∃ o xs, H b = some (.frz o (.lst xs))) → SqL K H a (ns.map V.int) → HOk P w H s₁.heap →
      (∀ b, b ∉ tb → H b ≠ none → b = a) → (H a ≠ none → K.lookup a = none) →
      codeAny (model P w) callerA (.call (.ref fa) ⟨[.ref a], []⟩)
        (fun r s' => r = .ok (.ret (.bool true)) ∧ OldK s₁.heap s'.heap ∧ s'.os = s₁.os ∧ AllBare s'.gens) s₁ := by
    intro H hH hO hS hok hA hK
    -- what is neither the script nor a table isn't tracked
    have free : ∀ {b : Addr} {o : Obj}, s₁.heap.get? b = some o → o ≠ { cls := .type "list", data := .seq vs.toArray } → o ≠ PySem.W.tabObj #[] → H b = none := by
      intro b o e n1 n2
      by_cases hb : b ∈ tb
      · have q := obT b hb
        rw [e] at q
        exact absurd (Option.some.inj q) n2
      · cases q : H b with
        | none => rfl
        | some u =>
          have same : b = a := hA b hb (by rw [q]; simp)
          rw [same, ha] at e
          exact absurd (Option.some.inj e).symm n1
    have base_ : ∀ {b : Addr} {o : Obj}, s₁.heap.get? b = some o → o ≠ { cls := .type "list", data := .seq vs.toArray } → o ≠ PySem.W.tabObj #[] → (hidT s₁.heap H).get? b = some o := fun e n1 n2 => hidT_get e (free e n1 n2)
    have nsB : ∀ {b : Addr} {m : Str → Option Value}, s₁.heap.Ns b m → (hidT s₁.heap H).Ns b m := by
      rintro b m ⟨o, es, ep, e, d, r⟩
      exact ⟨o, es, ep, base_ e (fun z => by rw [z] at d; cases d) (fun z => by rw [z] at d; cases d), d, r⟩
    have kb : K.In (hidT s₁.heap H) := by
      intro b o e
      refine hidT_get (KX b o e) ?_
      by_cases hb : b ∈ tb
      · obtain ⟨p, hp, ep⟩ := ofT b hb
        rw [← ep, nT p hp] at e
        cases e
      · cases q : H b with
        | none => rfl
        | some u =>
          have same : b = a := hA b hb (by rw [q]; simp)
          subst same
          rw [hK (by rw [q]; simp)] at e
          cases e
    have limit : (hidT s₁.heap H).NoLimit := by
      obtain ⟨mc, h1, h2⟩ := hlim
      exact ⟨mc, nsB h1, h2⟩
    have module_ : Mod K mg (hidT s₁.heap H) := ⟨kb, nsB hns, ⟨mb, nsB hb, hbb⟩, limit⟩
    have e0 : Env0 P w K mg (hidT s₁.heap H) callerA [] s₁ H :=
      ⟨rfl, module_, fun b o e => of_hidT e, Nat.le_of_eq (hidT_size _ _), trivial,
        fun b hb => absurd (show b ∈ ([] : List Addr) from hb) List.not_mem_nil, hok, .of_eq hg⟩
    have TB : ∀ p ∈ cs, TabB (hidT s₁.heap H) mg p.1 p.2 := by
      intro p hp
      obtain ⟨hC, hP⟩ := hT p hp
      refine ⟨?_, ?_, fun z => ?_⟩
      · obtain ⟨o, us, file, tf, flags, tg, inF, text, tt, e1, r1, r2, r⟩ := hC
        refine ⟨o, us, file, tf, flags, tg, inF, text, tt, base_ e1 (fun z => by rw [z] at r2; cases r2) (fun z => by rw [z] at r1; cases r1), r1, r2, r⟩
      · obtain ⟨bm, ob, b1, b2, b3, b4, b5, b6⟩ := hbm
        refine ⟨bm, ob, b1, b2, fun q => ?_, fun q => ?_, base_ b3 (fun z => by rw [z] at b6; cases b6) (fun z => by rw [z] at b6; cases b6), b4, b5, b6⟩
        · obtain ⟨o, es, ep, e, d, _⟩ := hns
          rw [q, e] at b3
          cases b3
          rw [d] at b6
          cases b6
        · rw [q, hP] at b3
          cases b3
          cases b6
      · obtain ⟨o, es, ep, e, d, _⟩ := hns
        rw [z, hP] at e
        cases e
        cases d
    have run := (F _ kb (nsB hns) TB).go callerA [] s₁ H ⟨[.ref a], []⟩ [.ref a] [.ref a] _ _ hr rfl e0
      (hbind s₁ (.ref a)) (.cons rfl .nil) (hsp H (fun p hp => hH _ (inT p hp)) hS)
    refine codeAny_mono run ?_
    intro r s' h
    match r, h with
    | .error e, h => exact (hCX H e s' h).elim
    | .ok (.ret u), h =>
      obtain ⟨v, H', os, bare, un, hok', r', q⟩ := h
      have isT : v = .bl true := q
      subst isT
      obtain rfl : u = Value.bool true := r'
      have stays : ∀ b o, b ∉ tb → s₁.heap.get? b = some o → s'.heap.get? b = some o := by
        intro b o hb e
        cases q : H b with
        | none => exact un.keep b o e q (fun z => absurd (show b ∈ ([] : List Addr) from z) List.not_mem_nil) List.not_mem_nil
        | some u =>
          rcases hO b hb with z | ⟨ob, xs, z⟩
          · rw [q] at z
            cases z
          · have later := un.frzs b ob _ z
            obtain ⟨e1, _⟩ := hok b _ z
            obtain ⟨e2, _⟩ := hok' b _ later
            rw [e] at e1
            cases e1
            exact e2
      have grows : ∀ b ∈ tb, ∃ more : Array Value, s'.heap.get? b = some { cls := .none, data := .fields more } := by
        intro b hb
        obtain ⟨more, z⟩ := un.tbls b #[] (hH b hb)
        exact ⟨_, hok' b _ z⟩
      refine ⟨rfl, ⟨fun b o e => ?_, fun b o e => ?_⟩, os, bare⟩
      · by_cases hb : b ∈ tb
        · obtain ⟨more, hm⟩ := grows b hb
          obtain ⟨p, hp, ep⟩ := ofT b hb
          obtain ⟨hC, hP⟩ := hT p hp
          rw [ep] at hP
          have e2 := hP.symm.trans e
          cases e2
          rw [← ep] at hP hm ⊢
          exact .inr (.inl ⟨(hC.tab hP).isCodeTable, rfl, #[], more, rfl, by rw [Array.empty_append]; exact hm⟩)
        · exact .inl (stays b o hb e)
      · by_cases hb : b ∈ tb
        · obtain ⟨more, hm⟩ := grows b hb
          exact ⟨_, hm⟩
        · exact ⟨o, stays b o hb e⟩
  cases hk : K.lookup a with
  | some o =>
    have e := KX a o hk
    rw [ha] at e
    cases e
    refine core (fun b => if b ∈ tb then some (.tbl #[]) else none) (fun b hb => if_pos hb) (fun b hb => .inl (if_neg hb))
      (.inr ⟨_, vs.toArray, _, hk, rfl, rfl, rfl, by rw [List.size_toArray, many]; exact hl, by simpa using nums⟩) (fun b u z => ?_) (fun b hb z => absurd (if_neg hb) z) (fun z => absurd (if_neg aT) z)
    by_cases hb : b ∈ tb
    · have z' := (if_pos hb).symm.trans z
      cases z'
      exact obT b hb
    · have z' := (if_neg hb).symm.trans z
      cases z'
  | none =>
    let S : Obj := { cls := .type "list", data := .seq vs.toArray }
    let H1 : Hp := fun b => if b = a then some (.frz S (.lst (ns.map V.int))) else if b ∈ tb then some (.tbl #[]) else none
    have at_a : H1 a = some (.frz S (.lst (ns.map V.int))) := if_pos rfl
    have at_t : ∀ b ∈ tb, H1 b = some (.tbl #[]) := fun b hb => (if_neg (fun (z : b = a) => aT (by rw [← z]; exact hb))).trans (if_pos hb)
    have off : ∀ b, b ≠ a → b ∉ tb → H1 b = none := fun b h1 h2 => (if_neg h1).trans (if_neg h2)
    refine core H1 at_t (fun b hb => ?_) (.inl (.inr ⟨S, at_a⟩)) ?_ ?_ (fun _ => hk)
    · by_cases e : b = a
      · exact .inr ⟨_, _, by rw [e]; exact at_a⟩
      · exact .inl (off b e hb)
    · intro b u z
      by_cases e : b = a
      · subst e
        rw [at_a] at z
        cases z
        exact ⟨ha, by rw [List.length_map]; exact hl, vs, _, nums, ha⟩
      · by_cases hb : b ∈ tb
        · rw [at_t b hb] at z
          cases z
          exact obT b hb
        · rw [off b e hb] at z
          cases z
    · intro b hb z
      by_cases e : b = a
      · exact e
      · exact absurd (off b e hb) z
end Cm
namespace Dl
open PySem PySem.Spec PyProof.Rows L2 Cm LamX
/-- what the head knows of the tables -/
def TabF (q : Program) (K : PySem.W.Frag) (h : Heap) : Prop := ∀ (x : Str) (c P : Addr), ((recsOf q).find? fun e => e.name == x).isSome = true → PySem.W.tabIn K x = some (c, P) → PySem.W.CodeHd h c P ∧ h.get? P = some (PySem.W.tabObj #[])
/-- what is to be known of the law at the head -/
def LawT (P : Program) (w : World) (K : PySem.W.Frag) (mg : Str → Option Value) (h : Heap) (fa : Addr) (k : Nat) (x : Str) : Prop :=
  ∃ (fd : FuncData) (cs : List (Addr × Addr)) (ts : List (Addr × Str)), (∀ (s : Shared) (u : Value), BindsTo s fd ⟨[u], []⟩ [(x, u)]) ∧ (∀ p ∈ cs, PySem.W.CodeHd h p.1 p.2 ∧ h.get? p.2 = some (PySem.W.tabObj #[])) ∧ (∀ p ∈ cs, K.lookup p.2 = none) ∧ (∀ p ∈ ts, ∃ p' ∈ cs, p'.2 = p.1) ∧
    ∀ base : Heap, K.In base → base.Ns mainGlobals mg → (∀ p ∈ cs, TabB base mg p.1 p.2) → Fg P w K mg base CX0 k fa fd [x] (@spD ⟨ts⟩ K 1 T_law)
theorem walkT {l : PySem.W.OpenLaw} {k : Nat} {q : Program} {loose : List Str} {XP : (Str → Option Value) → Heap → Prop} {YP : World → Heap → Prop} {d : DefRec} {K : Params → PySem.W.Frag} {x : Str}
    (hn : l.most = some 63) (hdf : d.params.defaults = []) (hr : Room k callerA) (hY : ∀ (w : World) (h : Heap), YP w h → (K w.params).In h)
    (F : ∀ (w : World) (mg : Str → Option Value) (fa : Addr) (h : Heap), (K w.params).In h → h.Ns mainGlobals mg → TabF q (K w.params) h → mg d.name = some (.ref fa) → LawT l.prog w (K w.params) mg h fa k x) :
    PySem.W.WalkO q loose XP YP l.row.toRowW d [] (fun f vs => PySem.call f vs) := by
  refine Att.attach_call hn hdf ?_
  intro w s₀ s₁ mg mb fa o pm cd doc a vs ns G Y ho hd hcd hmg hobj hints hlen hg
  have KX := hY w _ Y
  have TF : TabF q (K w.params) s₁.heap := fun x c P hf ht => by
    obtain ⟨d, hd⟩ := Option.isSome_iff_exists.mp hf
    exact PySem.W.tab_of G.T KX hd ht
  obtain ⟨fd, cs, ts, hb, hT, nT, hts, hF⟩ := F w mg fa _ KX G.T.g TF hmg
  exact Cm.law_goT KX G.T.g G.T.b G.T.builtins G.T.nolimit hg hT nT G.T.bmain hobj hints (Nat.le_trans hlen (by decide)) hr hF hb
    (fun H hH hS => @law_sp ⟨ts⟩ _ _ _ _ _ hlen (fun p hp => by
      obtain ⟨p', h1, h2⟩ := hts p hp
      rw [← h2]; exact hH p' h1) hS) (fun H e s' z => z)
end Dl
set_option Elab.async false
set_option linter.all false
set_option maxRecDepth 100000
set_option maxHeartbeats 4000000
/-! ## DC. a def that makes lambdas -/
namespace Dl
open PySem PySem.Spec PyProof.Rows L2 Cm LamX Sk
/-- a def of the text whose code object stands at c -/
structure FunT (K : PySem.W.Frag) (x qual : Str) (st : Stmt) (f : Addr) (fd : FuncData) (c : Addr) : Prop where
  ex : ∃ (oc : Value) (od : Option Addr) (kV doc pm : Value) (an : Option Addr) (ct : Value) (osl : Array (Option Value)),
    fd = PySem.W.fnOf x qual (defArgs st) (defBody st) (defScope st) .none kV doc pm an (.ref c) ct ∧ K.lookup f = some ⟨oc, od, .func fd, osl⟩ ∧ PySem.W.codeIn K (.ref c) qual = true
  kp : PySem.W.keepIn K (.ref f) = true
theorem funT_mk {K : PySem.W.Frag} {x qual : Str} {st : Stmt} {f c : Addr} {oc : Value} {od an : Option Addr} {osl : Array (Option Value)} {kV doc pm ct : Value}
    (l : K.lookup f = some ⟨oc, od, .func (PySem.W.fnOf x qual (defArgs st) (defBody st) (defScope st) .none kV doc pm an (.ref c) ct), osl⟩) (cd : PySem.W.codeIn K (.ref c) qual = true) (k : PySem.W.keepIn K (.ref f) = true) :
    FunT K x qual st f (PySem.W.fnOf x qual (defArgs st) (defBody st) (defScope st) .none kV doc pm an (.ref c) ct) c := ⟨⟨oc, od, kV, doc, pm, an, ct, osl, rfl, l, cd⟩, k⟩
theorem FunT.toFun {K : PySem.W.Frag} {x qual : Str} {st : Stmt} {f : Addr} {fd : FuncData} {c : Addr} (F : FunT K x qual st f fd c) : Fun K x qual st f fd := by
  obtain ⟨oc, od, kV, doc, pm, an, ct, osl, e, l, cd⟩ := F.ex
  exact ⟨⟨oc, od, kV, doc, pm, an, .ref c, ct, osl, e, l, cd⟩, F.kp⟩
theorem fg_ofT0 {P : Program} {w : World} {K : PySem.W.Frag} {mg : Str → Option Value} {base : Heap} {x qual : Str} {st : Stmt} {f : Addr} {fd : FuncData} {c : Addr}
    {N ps : List Str} {k : Nat} {sp : Sp} (F : FunT K x qual st f fd c)
    (S : FnScope N ps (defScope st)) (len : ∀ vs H Q E, sp vs H Q E → vs.length = ps.length)
    (hbody : ∀ (A : Around) (outer : List Env) (s : Shared) (H : Hp) (vs : List V) (Q : VK) (E : XK),
      Room k (A.deeper (envOfC qual (defScope st) s.heap.objs.size f (.ref c))) →
      A.guards = some [] → sp vs H Q E →
      ∃ t, PSs (cxOf CX0 P w K mg base N qual (defScope st) f (.ref c) A outer s H E).nox (defBody st) t ∧
        t { nx := fun _ H' => Q .non H', rt := Q } (start N vs) H) :
    Fg P w K mg base CX0 (k + 1) f fd ps sp := by
  obtain ⟨oc, od, kV, doc, pm, an, ct, osl, rfl, lk, hcd⟩ := F.ex
  refine ⟨len, ?_⟩
  intro A outer s H args us vs Q E hr hgd env hb r hsp
  have nvs : vs.length = ps.length := len _ _ _ _ hsp
  have old : ∀ b o, base.get? b = some o → s.heap.get? b = some o :=
    fun b o e => (env.bs b o e).1
  have KX : K.In s.heap := env.mod.kin.keeps old
  have lim : s.heap.NoLimit := env.mod.nolimit.keeps old
  have kinds : ∀ y ∈ ps.zip us, (defScope st).names.lookup y.1 = some .local ∨
      ((defScope st).names.lookup y.1 = some .cell ∧
        ((cellsFrom (s.heap.objs.size + 1) (defScope st).names []).lookup y.1).isSome = true) := by
    rintro ⟨n, v⟩ hy
    cases S.par n (List.of_mem_zip hy).1 with
    | inl q => exact .inl q
    | inr q => exact .inr ⟨q, PySem.W.cellsFrom_some _ _ _ (.inl q)⟩
  refine codeAny_call_function hr.depth (KX _ _ lk) rfl S.co S.gen rfl
    (PySem.W.codeRec_of KX hcd) (hb _ _ _ _ ?_)
  refine wpAny_newFunctionEnv_cells S.kind kinds ?_
  intro env' he s1 x
  subst he
  refine ⟨lim.keeps x.toInCall.keep, codeAny_func ?_⟩
  obtain ⟨t, ht, hq⟩ := hbody A outer s H vs Q E (hr.deeper _) hgd hsp
  have I := inv_start (CX := CX0) (P := P) (mg := mg) (E := E) S hr.hd env nvs r x
  have leave : ∀ {σ' : L2.St} {H' : Hp} {v : V} {u : Value} {s' : Shared},
      Inv (cxOf CX0 P w K mg base N qual (defScope st) f (.ref c) A outer s H E) [] σ' H' s' →
      RelV v u → Q v H' → CE outer P w H s Q u s' := by
    intro σ' H' v u s' J rv q
    exact ⟨v, H', J.os, J.bare, J.base, J.hok, rv, q⟩
  refine wpAny_mono (ht.nox.run [] s1 (start N vs) H _ I hq) ?_ (fun e s' hs => hs)
  intro fl s' hs
  match fl, hs with
  | .ret u, hs =>
    obtain ⟨v, σ', H', J, rv, q⟩ := hs
    exact leave J rv q
  | .next, hs =>
    obtain ⟨σ', H', J, q⟩ := hs
    exact leave (v := V.non) (u := Value.none) J rfl q
  | .brk, hs =>
    obtain ⟨_, _, _, q⟩ := hs
    exact False.elim q
  | .cont, hs =>
    obtain ⟨_, _, _, q⟩ := hs
    exact False.elim q
/-- what is known of a maker's table -/
def TabQ (T : List (Addr × Str)) (P : Addr) (q : Str) : Prop := (P, q) ∈ T ∧ ∀ p ∈ T, p.1 = P → p.2 = q
theorem lamM_of {X : Cx} {T : List (Addr × Str)} {q : Str} {c P : Addr} (h : X.env.code = .ref c) (TB : TabB X.base X.mg c P) (tq : TabQ T P q) (hq : q = X.env.qual ++ "<lambda>") : LamM X T q :=
  ⟨⟨c, P, h, TB, tq.1, tq.2⟩, hq⟩
theorem tabIn_of {K : PySem.W.Frag} {x : Str} {f c P : Addr} {oc oC : Value} {od oD : Option Addr} {osl slC : Array (Option Value)} {fd : FuncData} {vs : Array Value} (a : PySem.W.nsIn K mainGlobals x = some (some (.ref f))) (l : K.lookup f = some ⟨oc, od, .func fd, osl⟩)
    (hc : fd.code = .ref c) (lc : K.lookup c = some ⟨oC, oD, .fields vs, slC⟩) (hP : vs[11]? = some (.ref P)) : PySem.W.tabIn K x = some (c, P) := by
  unfold PySem.W.tabIn
  rw [a]
  simp only [l, hc, lc, hP]
theorem guards_in1 {A : Around} (h : A.guards = some []) : A.in1.in1.guards = some [] := h
end Dl
set_option Elab.async false
set_option linter.all false
set_option maxRecDepth 100000
set_option maxHeartbeats 4000000
/-! ## DE. texts with values, instances shown by their own def, written tuples; steps for instances, kinds, fields -/
namespace Dl
open PySem PySem.Spec PyProof.Rows L2 Cm Sk
variable [Tb : Tbls]
/-! ### f'..' -/
def fmtK (x : S) (μ : Mu) (Q : QD) : Prop := (∃ y : Str, x = .d (.str y) ∧ y.length ≤ 100000 ∧ Q (.d (.str y)) μ) ∨ ∃ i : Int, x = .d (.int i) ∧ i.natAbs < 2 ^ 200 ∧ Q (.d (.str (toString i))) μ
def dFmt (A : TD) : TD := fun ρ μ Q => A ρ μ fun x μ1 => fmtK x μ1 Q
instance {K : PySem.W.Frag} {te : TE} {A : TD} [a : SdE K te A] : SdE K (tFmt te) (dFmt A) where
  go := by
    intro N M σ H ρ μ Qd Qv er h c
    refine a.go N M σ H ρ μ _ _ er h fun v H1 x μ1 k1 s1 r1 h1 => ?_
    rcases h1 with ⟨y, rfl, hy, q⟩ | ⟨i, rfl, hi, q⟩
    · exact .inl ⟨y, r1.d_inv.str_inv, Nat.le_trans hy (by decide), (c.step k1).scal s1 (.str y) q⟩
    · exact r_fmtInt (P1 := fun y => _) hi ((c.step k1).scal s1 (.str _) q) |> fun z => by
        rw [r1.d_inv.int_inv]; exact z
def dJs : List TD → Str → Rho → Mu → (Str → Mu → Prop) → Prop
  | [], acc, _, μ, Q => Q acc μ
  | A :: As, acc, ρ, μ, Q => A ρ μ fun x μ1 => ∃ y : Str, x = .d (.str y) ∧ (acc ++ y).length ≤ 100000 ∧ dJs As (acc ++ y) ρ μ1 Q
class SdJ (K : PySem.W.Frag) (ts : List TE) (Ts : outParam (List TD)) : Prop where
  go : ∀ N M σ H ρ μ acc (Qd : Str → Mu → Prop) (Qv : Str → Hp → Prop), ER K N M σ H ρ μ → dJs Ts acc ρ μ Qd → (∀ z H' μ', Kp M H H' → StR K N M H' μ' → Qd z μ' → Qv z H') → tJs ts acc σ H Qv
instance {K : PySem.W.Frag} : SdJ K [] [] where
  go := fun N M σ H ρ μ acc Qd Qv er h c => c acc H μ Kp.refl er.st h
instance {K : PySem.W.Frag} {t : TE} {ts : List TE} {A : TD} {As : List TD} [a : SdE K t A] [b : SdJ K ts As] : SdJ K (t :: ts) (A :: As) where
  go := by
    intro N M σ H ρ μ acc Qd Qv er h c
    refine a.go N M σ H ρ μ _ _ er h fun v H1 x μ1 k1 s1 r1 ⟨y, ex, hy, h1⟩ => ?_
    subst ex
    exact ⟨y, r1.d_inv.str_inv, Nat.le_trans hy (by decide), b.go N M σ H1 ρ μ1 _ Qd Qv (er.go k1 s1) h1 fun z H' μ' k st q => c z H' μ' (k1.trans k) st q⟩
def tJoin (ts : List TE) : TE := fun σ H Q => tJs ts Str.empty σ H fun out H1 => Q (.str out) H1
theorem pe_joinedD {X : Cx} {v1 v2 : Expr} {rest : List Expr} {ts : List TE} {pos : Pos} (h : PJ X (v1 :: v2 :: rest) ts) : PE X (.JoinedStr (v1 :: v2 :: rest) pos) (tJoin ts) := pe_joined h
def dJoined (Ts : List TD) : TD := fun ρ μ Q => dJs Ts Str.empty ρ μ fun z μ1 => Q (.d (.str z)) μ1
instance {K : PySem.W.Frag} {ts : List TE} {Ts : List TD} [a : SdJ K ts Ts] : SdE K (tJoin ts) (dJoined Ts) where
  go := fun N M σ H ρ μ Qd Qv er h c => a.go N M σ H ρ μ _ _ _ er h fun z H' μ' k st q => (c.step k).scal st (.str z) q
/-! ### repr of an instance -/
def strK (μ : Mu) (Q : QD) : QD := fun s _ => ∃ y : Str, s = .d (.str y) ∧ Q (.d (.str y)) μ
def dReprO (C : Addr) (Tf : FnT) : RDl := fun ss μ Q => ∃ ns ds, ss = [.d (.ins C ns ds)] ∧ Tf [.d (.ins C ns ds)] [] (strK μ Q)
instance {K : PySem.W.Frag} {C : Addr} {Tf : FnT} {E : XK} : CallD K (rReprO C (spD K 1 Tf) E) (dReprO C Tf) where
  go := by
    intro N M H μ vs ss Qd Qv st r ⟨ns, ds, e, h⟩ c
    subst e
    have r' := r
    obtain ⟨v, rfl, r0⟩ := isSA1 r
    obtain ⟨a, dx, us, rfl, na, ha, l, ra⟩ := r0.d_inv.ins_inv
    refine ⟨a, dx, _, rfl, ha, rfl, ?_⟩
    refine ⟨N, [], [.d (.ins C ns ds)], [], _, st.none_, foot_nil r' rfl, h, ?_⟩
    intro v H' s' μ' k st' rs ⟨y, ey, q⟩
    subst ey
    have l0 : μ' = [] := List.eq_nil_of_length_eq_zero st'.len.symm
    subst l0
    exact ⟨y, rs.d_inv.str_inv, c v H' _ μ (k.less fun b z => .inr (inM_nil z)) (st.keepAll k st') (.d rs.d_inv) q⟩
/-! ### the frag, told -/
theorem pe_fldK {X : Cx} (K : PySem.W.Frag) {e : Expr} {te : TE} {f : Str} (hK : X.K = K) (h : PE X e (tFld X.K te f)) : PE X e (tFld K te f) := hK ▸ h
theorem ps_fldK {X : Cx} (K : PySem.W.Frag) {s : Stmt} {to te : TE} {f : Str} (hK : X.K = K) (h : PS X s (sFld X.K to te f)) : PS X s (sFld K to te f) := hK ▸ h
theorem pe_sortK {X : Cx} (K : PySem.W.Frag) {e : Expr} {T : List (Addr × Str)} {q : Str} {cap : List (Str × Nat)} {te tb : TE} (hK : X.K = K) (h : PE X e (tSortKey X.K T q cap te tb)) : PE X e (tSortKey K T q cap te tb) := hK ▸ h
theorem pg_tupK {X : Cx} (K : PySem.W.Frag) (n : Nat) {e : Expr} {K' : PySem.W.Frag} {m : Nat} {t : TGs} (hK : K' = K) (hn : m = n) (h : PG X e (gTup K' m t)) : PG X e (gTup K n t) := by subst hK hn; exact h
theorem pi_seqK {X : Cx} (K : PySem.W.Frag) {K' : PySem.W.Frag} {tg l : Expr} {tl : TE} (hK : K' = K) (h : PI X tg l (iSeq K' tl)) : PI X tg l (iSeq K tl) := hK ▸ h
theorem pe_bmK {X : Cx} (K : PySem.W.Frag) {e : Expr} {K' : PySem.W.Frag} {T : String} {r : V → List V → Hp → VK → Prop} {to : TE} {t : TA} (hK : K' = K) (h : PE X e (tBM K' T r to t)) : PE X e (tBM K T r to t) := hK ▸ h
theorem pe_bm0K {X : Cx} (K : PySem.W.Frag) {e : Expr} {K' : PySem.W.Frag} {T : String} {r : V → List V → Hp → VK → Prop} {to : TE} (hK : K' = K) (h : PE X e (tBM0 K' T r to)) : PE X e (tBM0 K T r to) := hK ▸ h
/-! ### a written tuple -/
def vDl : List V → Option (List D)
  | [] => some []
  | v :: r => match vD v, vDl r with
    | some d, some ds => some (d :: ds)
    | _, _ => none
theorem vDl_is {K : PySem.W.Frag} {N : Addr → Prop} {H : Hp} : ∀ {vs : List V} {ds : List D}, vDl vs = some ds → IsAll K N H vs ds
  | [], _, e => by simp only [vDl, Option.some.injEq] at e; subst e; exact .nil
  | v :: r, ds, e => by
    unfold vDl at e
    cases h1 : vD v with
    | none => rw [h1] at e; cases e
    | some d =>
      cases h2 : vDl r with
      | none => rw [h1, h2] at e; cases e
      | some es =>
        rw [h1, h2] at e
        cases e
        exact .cons (vD_is h1) (vDl_is h2)
def tCon (a : Addr) (vs : List V) : TE := tC (.ref a)
theorem pe_gcon {X : Cx} {x : Str} {a : Addr} {vs : List V} {pos : Pos} (hg : Gl X x) (hm : X.mg x = some (.ref a)) (hd : (x == ("__debug__" : Str)) = false := by decide) : PE X (.Name x pos) (tCon a vs) := pe_gref hg hm hd
def dCon (K : PySem.W.Frag) (a : Addr) (vs : List V) : TD := fun _ μ Q => ∃ ds, vDl vs = some ds ∧ WrT K a vs ∧ Q (.d (.con ds)) μ
instance {K : PySem.W.Frag} {a : Addr} {vs : List V} : SdE K (tCon a vs) (dCon K a vs) where
  go := by
    intro N M σ H ρ μ Qd Qv er h c
    obtain ⟨ds, e, w, q⟩ := h
    exact c.scal er.st (.con w (vDl_is e)) q
/-! ### steps -/
class VDl (vs : List V) (ds : outParam (List D)) : Prop where
  eq : vDl vs = some ds
instance : VDl [] [] := ⟨rfl⟩
instance {i : Int} {r : List V} {ds : List D} [h : VDl r ds] : VDl (.int i :: r) (.int i :: ds) := ⟨by simp only [vDl, vD, h.eq]⟩
instance {i : Str} {r : List V} {ds : List D} [h : VDl r ds] : VDl (.str i :: r) (.str i :: ds) := ⟨by simp only [vDl, vD, h.eq]⟩
section
variable {K : PySem.W.Frag} {ρ ρ' : Rho} {μ μ' : Mu} {Q : QD} {A B : TD} {TA : TAd}
instance {a : Addr} {vs : List V} {ds : List D} [h : VDl vs ds] : Stp (dCon K a vs ρ μ Q) (WrT K a vs ∧ Q (.d (.con ds)) μ) := ⟨fun z => ⟨ds, h.eq, z⟩⟩
instance : Stp (dFmt A ρ μ Q) (A ρ μ fun x μ1 => fmtK x μ1 Q) := ⟨id⟩
instance {i : Int} : Stp (fmtK (.d (.int i)) μ Q) (i.natAbs < 2 ^ 200 ∧ Q (.d (.str (toString i))) μ) := ⟨fun z => .inr ⟨i, rfl, z⟩⟩
instance {y : Str} : Stp (fmtK (.d (.str y)) μ Q) (y.length ≤ 100000 ∧ Q (.d (.str y)) μ) := ⟨fun z => .inl ⟨y, rfl, z⟩⟩
instance {Ts : List TD} : Stp (dJoined Ts ρ μ Q) (dJs Ts Str.empty ρ μ fun z μ1 => Q (.d (.str z)) μ1) := ⟨id⟩
/-- one part more -/
def jsK (As : List TD) (acc : Str) (ρ : Rho) (Q : Str → Mu → Prop) (x : S) (μ1 : Mu) : Prop := ∃ y : Str, x = .d (.str y) ∧ (acc ++ y).length ≤ 100000 ∧ dJs As (acc ++ y) ρ μ1 Q
instance {acc : Str} {Q : Str → Mu → Prop} : Stp (dJs [] acc ρ μ Q) (Q acc μ) := ⟨id⟩
instance {As : List TD} {acc : Str} {Q : Str → Mu → Prop} : Stp (dJs (A :: As) acc ρ μ Q) (A ρ μ (jsK As acc ρ Q)) := ⟨id⟩
instance {As : List TD} {acc y : Str} {Q : Str → Mu → Prop} : Stp (jsK As acc ρ Q (.d (.str y)) μ) ((acc ++ y).length ≤ 100000 ∧ dJs As (acc ++ y) ρ μ Q) := ⟨fun z => ⟨y, rfl, z⟩⟩
instance {C : Addr} {Tf : FnT} {ns : List Str} {ds : List D} : Stp (dReprO C Tf [.d (.ins C ns ds)] μ Q) (Tf [.d (.ins C ns ds)] [] (strK μ Q)) := ⟨fun z => ⟨ns, ds, rfl, z⟩⟩
instance {y : Str} {ν : Mu} : Stp (strK μ Q (.d (.str y)) ν) (Q (.d (.str y)) μ) := ⟨fun z => ⟨y, rfl, z⟩⟩
class NotB (b : Bool) (b' : outParam Bool) : Prop where
  eq : (!b) = b'
instance : NotB true false := ⟨rfl⟩
instance : NotB false true := ⟨rfl⟩
instance {P R : Prop} : Stp (if (!true) = true then P else R) R := ⟨fun z => by rw [if_neg (by decide)]; exact z⟩
instance {P R : Prop} : Stp (if (!false) = true then P else R) P := ⟨fun z => by rw [if_pos (by decide)]; exact z⟩
/-! kinds -/
class KnD (T : String) (d : D) (b : outParam Bool) : Prop where
  eq : isK T d = b
  ok : T = "int" ∨ T = "bool" ∨ T = "str" ∨ T = "tuple" ∨ T = "list" ∨ T = "dict"
instance {i : Int} : KnD "int" (.int i) true := ⟨rfl, by decide⟩
instance {i : Int} : KnD "bool" (.int i) false := ⟨rfl, by decide⟩
instance {i : Int} : KnD "str" (.int i) false := ⟨rfl, by decide⟩
instance {i : Int} : KnD "tuple" (.int i) false := ⟨rfl, by decide⟩
instance {b : Bool} : KnD "int" (.bl b) true := ⟨rfl, by decide⟩
instance {b : Bool} : KnD "bool" (.bl b) true := ⟨rfl, by decide⟩
instance {b : Bool} : KnD "str" (.bl b) false := ⟨rfl, by decide⟩
instance {b : Bool} : KnD "tuple" (.bl b) false := ⟨rfl, by decide⟩
instance {i : Str} : KnD "int" (.str i) false := ⟨rfl, by decide⟩
instance {i : Str} : KnD "bool" (.str i) false := ⟨rfl, by decide⟩
instance {i : Str} : KnD "str" (.str i) true := ⟨rfl, by decide⟩
instance {i : Str} : KnD "tuple" (.str i) false := ⟨rfl, by decide⟩
instance : KnD "int" .non false := ⟨rfl, by decide⟩
instance : KnD "bool" .non false := ⟨rfl, by decide⟩
instance : KnD "str" .non false := ⟨rfl, by decide⟩
instance : KnD "tuple" .non false := ⟨rfl, by decide⟩
instance {ds : List D} : KnD "int" (.tup ds) false := ⟨rfl, by decide⟩
instance {ds : List D} : KnD "bool" (.tup ds) false := ⟨rfl, by decide⟩
instance {ds : List D} : KnD "str" (.tup ds) false := ⟨rfl, by decide⟩
instance {ds : List D} : KnD "tuple" (.tup ds) true := ⟨rfl, by decide⟩
instance {ds : List D} : KnD "int" (.lst ds) false := ⟨rfl, by decide⟩
instance {ds : List D} : KnD "bool" (.lst ds) false := ⟨rfl, by decide⟩
instance {ds : List D} : KnD "str" (.lst ds) false := ⟨rfl, by decide⟩
instance {ds : List D} : KnD "tuple" (.lst ds) false := ⟨rfl, by decide⟩
instance {T : String} {d : D} {b : Bool} [h : KnD T d b] : Stp (dIsi K [.d d, .d (.ty T)] μ Q) (kdB d = true ∧ Q (.d (.bl b)) μ) := ⟨fun z => .inl ⟨d, .inl ⟨T, rfl, z.1, h.ok, by rw [h.eq]; exact z.2⟩⟩⟩
instance {C : Addr} {ns : List Str} {ds : List D} : Stp (dIsi K [.d (.ins C ns ds), .d (.ref C)] μ Q) (IsiC K C ∧ Q (.d (.bl true)) μ) := ⟨fun z => .inl ⟨_, .inr ⟨C, rfl, z.1, .inr ⟨ns, ds, rfl, z.2⟩⟩⟩⟩
instance {k : Nat} {ds : List D} [g : LGet k μ (some (.lst ds))] : Stp (dIsi K [.cel k, .d (.ty "list")] μ Q) (Q (.d (.bl true)) μ) := ⟨fun z => .inr ⟨k, ds, "list", rfl, g.eq, by decide, z⟩⟩
instance (priority := low) {C : Addr} {d : D} : Stp (dIsi K [.d d, .d (.ref C)] μ Q) (IsiC K C ∧ kdB d = true ∧ Q (.d (.bl false)) μ) := ⟨fun z => .inl ⟨_, .inr ⟨C, rfl, z.1, .inl z.2⟩⟩⟩
instance (priority := 10) pickD {i : Int} {ds : List D} : Stp (dIx (.d (.lst ds)) (.d (.int i)) μ Q) (0 ≤ i ∧ i < ds.length ∧ ∀ d, d ∈ ds → Q (.d d) μ) := ⟨fun ⟨h0, h1, q⟩ => pick_of h0 h1 q⟩
/-! None or not, known -/
class IsNo (x : D) (b : outParam Bool) : Prop where
  eq : isNon (.d x) = b
instance : IsNo .non true := ⟨rfl⟩
instance {i : Int} : IsNo (.int i) false := ⟨rfl⟩
instance {i : Bool} : IsNo (.bl i) false := ⟨rfl⟩
instance {i : Str} : IsNo (.str i) false := ⟨rfl⟩
instance {ds : List D} : IsNo (.tup ds) false := ⟨rfl⟩
instance {ds : List D} : IsNo (.lst ds) false := ⟨rfl⟩
instance (priority := 2000) {x : D} {b : Bool} [h : IsNo x b] : Stp (dIsN (.d x) (.d .non) μ Q) (Q (.d (.bl b)) μ) := ⟨fun z => ⟨rfl, by rw [h.eq]; exact z⟩⟩
instance (priority := 2000) {x : D} {b b' : Bool} [h : IsNo x b] [n : NotB b b'] : Stp (dNotN (.d x) (.d .non) μ Q) (Q (.d (.bl b')) μ) := ⟨fun z => ⟨rfl, by rw [h.eq, n.eq]; exact z⟩⟩
instance {α β : Type} {f : α → β} {l : List α} : LLen (l.map f) l.length := ⟨List.length_map ..⟩
instance (priority := 2000) {x : S} {ds : List D} {n : Nat} [g : SeqS x μ ds] [l : LLen ds n] : Stp (dLen [x] μ Q) (Q (.d (.int n)) μ) := ⟨fun z => ⟨x, rfl, .inl ⟨ds, g.eq, by rw [l.eq]; exact z⟩⟩⟩
instance {a : D} : AtI [a] (-1) a := ⟨rfl⟩
instance {a b : D} : AtI [a, b] (-1) b := ⟨rfl⟩
instance {a b c : D} : AtI [a, b, c] (-1) c := ⟨rfl⟩
instance {a : D} : AtI [a] (((1 : Nat) : Int) - 1) a := ⟨rfl⟩
instance {a b : D} : AtI [a, b] (((2 : Nat) : Int) - 1) b := ⟨rfl⟩
instance {a b c : D} : AtI [a, b, c] (((3 : Nat) : Int) - 1) c := ⟨rfl⟩
instance (priority := 2000) {k : Nat} {ds ds' : List D} {d : D} [g : LGet k μ (some (.lst ds))] [a : LAdd ds d ds'] [h : LSet k (some (.lst ds')) μ μ'] : Stp (dAppend (.cel k) [.d d] μ Q) (ds.length < 1000 ∧ Q (.d .non) μ') := ⟨fun z => ⟨k, ds, d, rfl, rfl, g.eq, z.1, by rw [a.eq, h.eq]; exact z.2⟩⟩
theorem eqD_tup_str {ds : List D} {z : Str} : eqD (.tup ds) (.str z) = false := rfl
theorem eqOk_str {z : Str} (h : PyData.strOk z = true) : eqOk (.str z) := ⟨rfl, rfl, by
  unfold SeqAt.shaped py
  simp [PyData.canLay0, PyData.depth, h]⟩
instance (priority := 2000) {ds : List D} {z : Str} : Stp (dEq (.d (.tup ds)) (.d (.str z)) μ Q) (eqOk (.tup ds) ∧ PyData.strOk z = true ∧ Q (.d (.bl false)) μ) := ⟨fun w => ⟨_, _, rfl, rfl, .inr ⟨w.1, eqOk_str w.2.1, w.2.2⟩⟩⟩
/-! fields -/
class LookD (f : Str) (ns : List Str) (ds : List D) (d : outParam D) : Prop where
  eq : lookD ns ds f = some d
def fldK (K : PySem.W.Frag) (f : Str) (Q : QD) : S → Mu → Prop := fun x μ1 => ∃ C ns ds d, (x = .d (.ins C ns ds) ∨ ∃ k, x = .cel k ∧ μ1[k]? = some (some (.obj C ns ds))) ∧ Cls K C ∧ NoAttr K C f ∧ lookD ns ds f = some d ∧ Q (.d d) μ1
instance {f : Str} : Stp (dFld K A f ρ μ Q) (A ρ μ (fldK K f Q)) := ⟨id⟩
instance {f : Str} {C : Addr} {ns : List Str} {ds : List D} {d : D} [h : LookD f ns ds d] : Stp (fldK K f Q (.d (.ins C ns ds)) μ) (Cls K C ∧ NoAttr K C f ∧ Q (.d d) μ) := ⟨fun z => ⟨C, ns, ds, d, .inl rfl, z.1, z.2.1, h.eq, z.2.2⟩⟩
def sfldK (K : PySem.W.Frag) (f : Str) (ρ : Rho) (k : NxD) (x y : S) (μ2 : Mu) : Prop := ∃ j C ns ds d, x = .cel j ∧ y = .d d ∧ μ2[j]? = some (some (.obj C ns ds)) ∧ Cls K C ∧ NoAttr K C f ∧ ns.contains f = false ∧ ns.length < 100 ∧ ns.length = ds.length ∧
  k ρ (μ2.set j (some (.obj C (ns ++ [f]) (ds ++ [d]))))
instance {f : Str} {D : EndsD} : Stp (dSFld K A B f D ρ μ) (B ρ μ fun y μ1 => A ρ μ1 fun x μ2 => sfldK K f ρ D.nx x y μ2) := ⟨id⟩
instance {f : Str} {k : NxD} {j : Nat} {C : Addr} {ns ns' : List Str} {ds ds' : List D} {d : D} [g : LGet j μ (some (.obj C ns ds))] [a : LAdd ns f ns'] [b : LAdd ds d ds'] [s : LSet j (some (.obj C ns' ds')) μ μ'] :
    Stp (sfldK K f ρ k (.cel j) (.d d) μ) (Cls K C ∧ NoAttr K C f ∧ ns.contains f = false ∧ ns.length < 100 ∧ ns.length = ds.length ∧ k ρ μ') := ⟨fun ⟨h1, h2, h3, h4, h5, q⟩ => ⟨j, C, ns, ds, d, rfl, rfl, g.eq, h1, h2, h3, h4, h5, by rw [a.eq, b.eq, s.eq]; exact q⟩⟩
/-! in -/
instance {neg : Bool} {a : D} {ds : List D} : Stp (dIn neg (.d a) (.d (.con ds)) μ Q) (flD a = true ∧ ds.all flD = true ∧ Q (.d (.bl (if neg then !inD a ds else inD a ds))) μ) := ⟨fun z => ⟨a, _, ds, rfl, rfl, rfl, z⟩⟩
instance {neg : Bool} {a : D} {ds : List D} : Stp (dIn neg (.d a) (.d (.tup ds)) μ Q) (flD a = true ∧ ds.all flD = true ∧ Q (.d (.bl (if neg then !inD a ds else inD a ds))) μ) := ⟨fun z => ⟨a, _, ds, rfl, rfl, rfl, z⟩⟩
instance {neg : Bool} {a : D} {ds : List D} : Stp (dIn neg (.d a) (.d (.lst ds)) μ Q) (flD a = true ∧ ds.all flD = true ∧ Q (.d (.bl (if neg then !inD a ds else inD a ds))) μ) := ⟨fun z => ⟨a, _, ds, rfl, rfl, rfl, z⟩⟩
/-! walks over written rows -/
instance {G : TGd} {C : TTd} {QL : List D → Mu → Prop} {acc : List D} : Stp (dLcL G C A ρ QL [] acc μ) (QL acc μ) := ⟨id⟩
def lcK (G : TGd) (C : TTd) (A : TD) (ρ : Rho) (QL : List D → Mu → Prop) (xs acc : List D) : QD := fun y μ4 => ∃ d, y = .d d ∧ acc.length < 1000 ∧ dLcL G C A ρ QL xs (acc ++ [d]) μ4
instance {G : TGd} {C : TTd} {QL : List D → Mu → Prop} {x : D} {xs acc : List D} : Stp (dLcL G C A ρ QL (x :: xs) acc μ) (G (.d x) ρ μ fun ρ2 μ2 => C ρ2 μ2 fun b μ3 => if b = true then A ρ2 μ3 (lcK G C A ρ QL xs acc) else dLcL G C A ρ QL xs acc μ3) := ⟨id⟩
instance {G : TGd} {C : TTd} {QL : List D → Mu → Prop} {d : D} {xs acc acc' : List D} [h : LAdd acc d acc'] : Stp (lcK G C A ρ QL xs acc (.d d) μ) (acc.length < 1000 ∧ dLcL G C A ρ QL xs acc' μ) := ⟨fun z => ⟨d, rfl, z.1, by rw [h.eq]; exact z.2⟩⟩
class WipA (vs : List Nat) (ρ : Rho) (ρ' : outParam Rho) : Prop where
  eq : wipeD ρ vs = ρ'
class Set0 (i : Nat) (l : Rho) (l' : outParam Rho) : Prop where
  eq : l.set i none = l'
instance {i : Nat} : Set0 i [] [] := ⟨rfl⟩
instance {y : Option S} {l : Rho} : Set0 0 (y :: l) (none :: l) := ⟨rfl⟩
instance {y : Option S} {l l' : Rho} {i : Nat} [h : Set0 i l l'] : Set0 (i + 1) (y :: l) (y :: l') := ⟨by rw [List.set_cons_succ, h.eq]⟩
instance : WipA [] ρ ρ := ⟨rfl⟩
instance {i : Nat} {vs : List Nat} {ρ1 : Rho} [g : WipA vs ρ ρ1] [h : Set0 i ρ1 ρ'] : WipA (i :: vs) ρ ρ' := ⟨by
  unfold wipeD
  rw [g.eq]
  exact h.eq⟩
instance : WipA (List.map (fun x : Str × Nat => x.2) []) ρ ρ := ⟨rfl⟩
instance {n : Str} {i : Nat} {r : List (Str × Nat)} {ρ1 : Rho} [g : WipA (List.map (fun x : Str × Nat => x.2) r) ρ ρ1] [h : Set0 i ρ1 ρ'] : WipA (List.map (fun x : Str × Nat => x.2) ((n, i) :: r)) ρ ρ' := ⟨by
  rw [List.map_cons]
  unfold wipeD
  rw [g.eq]
  exact h.eq⟩
instance (priority := 2000) {i : Nat} {s : S} {vs : List Nat} {k : NxD} {ρ1 : Rho} [w : WipA vs ρ ρ1] [h : LSet i (some s) ρ1 ρ'] : Stp (dName i s (wipeD ρ vs) μ k) (k ρ' μ) := ⟨fun z => by unfold dName; rw [w.eq, h.eq]; exact z⟩
instance (priority := low) {x : D} {P : D → Prop} : Stp (∃ e, S.d x = .d e ∧ P e) (P x) := ⟨fun z => ⟨x, rfl, z⟩⟩
theorem zip_key {α : Type} (f : α → Int) : ∀ xs : List α, ∀ p ∈ (xs.map f).zip xs, p.1 = f p.2
  | [], p, h => by simp at h
  | x :: xs, p, h => by
    rw [List.map_cons, List.zip_cons_cons] at h
    rcases List.mem_cons.mp h with rfl | h
    · rfl
    · exact zip_key f xs p h
theorem sortK_pw {α : Type} (f : α → Int) (xs : List α) : ((sortK (xs.map f) xs).map f).Pairwise (· ≤ ·) := by
  unfold sortK
  have h := List.pairwise_mergeSort (le := fun p q : Int × α => decide (p.1 ≤ q.1)) (fun a b c h1 h2 => by simp only [decide_eq_true_eq] at *; omega) (fun a b => by simp only [Bool.or_eq_true, decide_eq_true_eq]; omega) ((xs.map f).zip xs)
  rw [List.map_map, List.pairwise_map]
  refine h.imp_of_mem fun {a b} ha hb hab => ?_
  rw [List.mem_mergeSort] at ha hb
  have ea := zip_key f xs a ha
  have eb := zip_key f xs b hb
  show f a.2 ≤ f b.2
  rw [← ea, ← eb]
  simpa only [decide_eq_true_eq] using hab
instance {i k : Nat} {T : TSd} {nx bk ct : NxD} {rt : S → Mu → Prop} {rtN : List D → Mu → Prop} {bs : Nat} [g : LGet i ρ (some (.cel k))] : Stp (dFrz i T ⟨nx, rt, rtN, bs, bk, ct⟩ ρ μ) (bs ≤ k ∧ setl k (T ⟨nx, rt, rtN, bs, bk, ct⟩) ρ μ) := ⟨fun z => ⟨k, g.eq, z⟩⟩
instance {G : TGd} {S : TSd} {Dd : EndsD} {b : Nat} : Stp (dLoop G S Dd b [] ρ μ) (Dd.nx ρ μ) := ⟨id⟩
instance {G : TGd} {S : TSd} {Dd : EndsD} {b : Nat} {x : D} {xs : List D} : Stp (dLoop G S Dd b (x :: xs) ρ μ) (G (.d x) ρ μ fun ρ1 μ1 => S ⟨setl b (dLoop G S Dd b xs), Dd.rt, Dd.rtN, b, setl b Dd.nx, setl b (dLoop G S Dd b xs)⟩ ρ1 μ1) := ⟨fun z => by unfold dLoop; exact z⟩
/-! sorted by keys -/
def skK (cap : List (Str × Nat)) (B : TD) (ρ : Rho) (QL : List D → Mu → Prop) : QD := fun s μ1 => ∃ ds, lstS s μ1 = some ds ∧ ∃ ks : List Int, ks.length = ds.length ∧
  (∀ (i : Nat) (d : D) (j : Int), ds[i]? = some d → ks[i]? = some j → B (some (.d d) :: captD cap ρ) μ1 fun v μ' => v = .d (.int j) ∧ μ' = μ1) ∧ QL (sortK ks ds) μ1
instance {cap : List (Str × Nat)} {QL : List D → Mu → Prop} : Stp (dSortKey cap A B ρ μ QL) (A ρ μ (skK cap B ρ QL)) := ⟨id⟩
end
end Dl
set_option Elab.async false
set_option linter.all false
set_option maxRecDepth 100000
set_option maxHeartbeats 4000000
/-! ## DF. or, and by truth; calls by keywords with some left out -/
namespace Dl
open PySem PySem.Spec PyProof.Rows L2 Cm
variable [Tb : Tbls]
section
variable {X : Cx} {CX : CXT} {k n : Nat} {f C : Addr} {fd : FuncData} {ps ks : List Str} {sp : Sp} {E : XK} {x : Str} {p pos : Pos}
  {e : Expr} {es : List Expr} {kws : List Keyword} {t tk : TA} {gV : List V → List V → List V}
omit Tb in
theorem pg_makeN0G (M : Mk X.K C f) (F : Fg X.prog X.w X.K X.mg X.base CX k f fd ps sp) (hr : Room (k + 1) X.A) (hgd : X.A.guards = some [])
    (hg : Gl X x) (hm : X.mg x = some (.ref C)) (hb : ∃ g, KBn X.K fd ps 1 ks g gV) (hx : Passes CX X E) (hkw : PK X kws tk)
    (hall : (backToKw pos (keywordEach kws X.env)).all (·.1.isSome) = true := by rfl)
    (hks : (backToKw pos (keywordEach kws X.env)).filterMap (·.1) = ks := by rfl)
    (hdb : (x == ("__debug__" : Str)) = false := by decide)
    (hpl : ((backTo pos (starEach [] X.env)).any (·.1) || (backToKw pos (keywordEach kws X.env)).any (·.1.isNone)) = false := by rfl) :
    PE X (.Call (.Name x p) [] kws pos) (tMakeN C 0 ks.length sp gV E tNil tk) := by
  obtain ⟨g, hb⟩ := hb
  exact pg_makeN0 M F hr hgd hg hm hb hx hkw hall hks hdb hpl
omit Tb in
theorem pg_makeNG (M : Mk X.K C f) (F : Fg X.prog X.w X.K X.mg X.base CX k f fd ps sp) (hr : Room (k + 1) X.A) (hgd : X.A.guards = some [])
    (hg : Gl X x) (hm : X.mg x = some (.ref C)) (hb : ∃ g, KBn X.K fd ps (n + 1) ks g gV) (hx : Passes CX X E) (ha : PA X (e :: es) t) (hkw : PK X kws tk)
    (hall : (backToKw pos (keywordEach kws X.env)).all (·.1.isSome) = true := by rfl)
    (hks : (backToKw pos (keywordEach kws X.env)).filterMap (·.1) = ks := by rfl)
    (hdb : (x == ("__debug__" : Str)) = false := by decide)
    (he : starEach (e :: es) X.env = (false, eval e X.env) :: starEach es X.env := by rfl)
    (hpl : ((backTo pos (starEach (e :: es) X.env)).any (·.1) || (backToKw pos (keywordEach kws X.env)).any (·.1.isNone)) = false := by rfl) :
    PE X (.Call (.Name x p) (e :: es) kws pos) (tMakeN C n ks.length sp gV E t tk) := by
  obtain ⟨g, hb⟩ := hb
  exact pg_makeN M F hr hgd hg hm hb hx ha hkw hall hks hdb he hpl
omit Tb in
theorem pg_callNG (F : Fg X.prog X.w X.K X.mg X.base CX k f fd ps sp) (hr : Room k X.A)
    (hgd : X.A.guards = some []) (hg : Gl X x) (hm : X.mg x = some (.ref f))
    (hk : PySem.W.keepIn X.K (.ref f) = true) (hb : ∃ g, KBn X.K fd ps n ks g gV)
    (hx : Passes CX X E) (ha : PA X (e :: es) t) (hkw : PK X kws tk)
    (hall : (backToKw pos (keywordEach kws X.env)).all (·.1.isSome) = true := by rfl)
    (hks : (backToKw pos (keywordEach kws X.env)).filterMap (·.1) = ks := by rfl)
    (hdb : (x == ("__debug__" : Str)) = false := by decide)
    (he : starEach (e :: es) X.env = (false, eval e X.env) :: starEach es X.env := by rfl)
    (hpl : ((backTo pos (starEach (e :: es) X.env)).any (·.1) || (backToKw pos (keywordEach kws X.env)).any (·.1.isNone)) = false := by rfl) :
    PE X (.Call (.Name x p) (e :: es) kws pos) (tCallN n ks.length sp gV E t tk) := by
  obtain ⟨g, hb⟩ := hb
  exact pg_callN F hr hgd hg hm hk hb hx ha hkw hall hks hdb he hpl
omit Tb in
theorem pg_callN0G (F : Fg X.prog X.w X.K X.mg X.base CX k f fd ps sp) (hr : Room k X.A)
    (hgd : X.A.guards = some []) (hg : Gl X x) (hm : X.mg x = some (.ref f))
    (hk : PySem.W.keepIn X.K (.ref f) = true) (hb : ∃ g, KBn X.K fd ps 0 ks g gV)
    (hx : Passes CX X E) (hkw : PK X kws tk)
    (hall : (backToKw pos (keywordEach kws X.env)).all (·.1.isSome) = true := by rfl)
    (hks : (backToKw pos (keywordEach kws X.env)).filterMap (·.1) = ks := by rfl)
    (hdb : (x == ("__debug__" : Str)) = false := by decide)
    (hpl : ((backTo pos (starEach [] X.env)).any (·.1) || (backToKw pos (keywordEach kws X.env)).any (·.1.isNone)) = false := by rfl) :
    PE X (.Call (.Name x p) [] kws pos) (tCallN 0 ks.length sp gV E tNil tk) := by
  obtain ⟨g, hb⟩ := hb
  exact pg_callN0 F hr hgd hg hm hk hb hx hkw hall hks hdb hpl
omit Tb in
theorem pe_orTK {ta tb : TE} (K : PySem.W.Frag) (hK : X.K = K) (h : PE X e (tOrT X.K ta tb)) : PE X e (tOrT K ta tb) := hK ▸ h
omit Tb in
theorem pe_andTK {ta tb : TE} (K : PySem.W.Frag) (hK : X.K = K) (h : PE X e (tAndT X.K ta tb)) : PE X e (tAndT K ta tb) := hK ▸ h
end
/-! ### truth -/
def truD : D → Option Bool
  | .non => some false
  | .bl b => some b
  | .int i => some (i != 0)
  | .tup ds => some (!ds.isEmpty)
  | .lst ds => some (!ds.isEmpty)
  | .con ds => some (!ds.isEmpty)
  | _ => none
omit Tb in
theorem IsAll.isEmpty {K : PySem.W.Frag} {N : Addr → Prop} {H : Hp} {vs : List V} {ds : List D} (h : IsAll K N H vs ds) : vs.isEmpty = ds.isEmpty := by
  cases h <;> rfl
omit Tb in
theorem Is.tru {K : PySem.W.Frag} {N : Addr → Prop} {H : Hp} {v : V} {d : D} {b : Bool} (h : Is K N H v d) (e : truD d = some b) : TruV K v H b := by
  cases d with
  | non => cases h.non_inv; cases e; rfl
  | bl c => cases h.bl_inv; cases e; rfl
  | int i => cases h.int_inv; cases e; rfl
  | tup ds =>
    obtain ⟨a, vs, rfl, _, h1, r⟩ := h.tup_inv
    cases e
    exact .inr (.inl ⟨vs, SqT.of h1, by rw [r.isEmpty]⟩)
  | lst ds =>
    obtain ⟨a, vs, rfl, _, h1, r⟩ := h.lst_inv
    cases e
    exact .inl ⟨vs, SqL.of h1, by rw [r.isEmpty]⟩
  | con ds =>
    obtain ⟨a, vs, rfl, h1, r⟩ := h.con_inv
    cases e
    exact .inr (.inl ⟨vs, h1, by rw [r.isEmpty]⟩)
  | _ => cases e
section
variable {K : PySem.W.Frag}
def dOrT (A B : TD) : TD := fun ρ μ Q => A ρ μ fun s μ1 => ∃ d b, s = .d d ∧ truD d = some b ∧ if b = true then Q s μ1 else B ρ μ1 Q
instance {t u : TE} {A B : TD} [a : SdE K t A] [b : SdE K u B] : SdE K (tOrT K t u) (dOrT A B) where
  go := by
    intro N M σ H ρ μ Qd Qv er h c
    refine a.go N M σ H ρ μ _ _ er h fun v H1 x μ1 k1 s1 r1 ⟨d, k, e, e2, q⟩ => ?_
    subst e
    refine ⟨k, r1.d_inv.tru e2, ?_⟩
    cases k with
    | false => exact b.go N M σ H1 ρ μ1 _ _ (er.go k1 s1) q (c.step k1)
    | true => exact (c.step k1).same s1 r1 q
def dAndT (A B : TD) : TD := fun ρ μ Q => A ρ μ fun s μ1 => ∃ d b, s = .d d ∧ truD d = some b ∧ if b = true then B ρ μ1 Q else Q s μ1
instance {t u : TE} {A B : TD} [a : SdE K t A] [b : SdE K u B] : SdE K (tAndT K t u) (dAndT A B) where
  go := by
    intro N M σ H ρ μ Qd Qv er h c
    refine a.go N M σ H ρ μ _ _ er h fun v H1 x μ1 k1 s1 r1 ⟨d, k, e, e2, q⟩ => ?_
    subst e
    refine ⟨k, r1.d_inv.tru e2, ?_⟩
    cases k with
    | true => exact b.go N M σ H1 ρ μ1 _ _ (er.go k1 s1) q (c.step k1)
    | false => exact (c.step k1).same s1 r1 q
end
section
variable {ρ : Rho} {μ : Mu} {Q : QD} {A B : TD} {P R : Prop}
class TruD (d : D) (b : outParam Bool) : Prop where
  eq : truD d = some b
instance : TruD .non false := ⟨rfl⟩
instance {b : Bool} : TruD (.bl b) b := ⟨rfl⟩
instance : TruD (.tup []) false := ⟨rfl⟩
instance {x : D} {r : List D} : TruD (.tup (x :: r)) true := ⟨rfl⟩
instance : TruD (.lst []) false := ⟨rfl⟩
instance {x : D} {r : List D} : TruD (.lst (x :: r)) true := ⟨rfl⟩
def orK (B : TD) (ρ : Rho) (Q : QD) : S → Mu → Prop := fun s μ1 => ∃ d b, s = .d d ∧ truD d = some b ∧ if b = true then Q s μ1 else B ρ μ1 Q
def andK (B : TD) (ρ : Rho) (Q : QD) : S → Mu → Prop := fun s μ1 => ∃ d b, s = .d d ∧ truD d = some b ∧ if b = true then B ρ μ1 Q else Q s μ1
instance : Stp (dOrT A B ρ μ Q) (A ρ μ (orK B ρ Q)) := ⟨id⟩
instance : Stp (dAndT A B ρ μ Q) (A ρ μ (andK B ρ Q)) := ⟨id⟩
instance {d : D} {b : Bool} [h : TruD d b] : Stp (orK B ρ Q (.d d) μ) (if b = true then Q (.d d) μ else B ρ μ Q) := ⟨fun z => ⟨d, b, rfl, h.eq, z⟩⟩
instance {d : D} {b : Bool} [h : TruD d b] : Stp (andK B ρ Q (.d d) μ) (if b = true then B ρ μ Q else Q (.d d) μ) := ⟨fun z => ⟨d, b, rfl, h.eq, z⟩⟩
/-! parts of short rows -/
class CutD (ds : List D) (lo hi : Option Int) (r : outParam (List D)) : Prop where
  eq : cutD ds lo hi = r
instance {a : D} : CutD [a] none (some (-1)) [] := ⟨by unfold cutD; rfl⟩
instance {a b : D} : CutD [a, b] none (some (-1)) [a] := ⟨by unfold cutD; rfl⟩
instance {a b c : D} : CutD [a, b, c] none (some (-1)) [a, b] := ⟨by unfold cutD; rfl⟩
instance (priority := 2000) {ds r : List D} {lo hi : Option Int} [h : CutD ds lo hi r] : Stp (dCut (.d (.tup ds)) lo hi μ Q) (Q (.d (.tup r)) μ) := ⟨fun z => .inl ⟨ds, rfl, by rw [h.eq]; exact z⟩⟩
end
end Dl
namespace Dl
open PySem PySem.Spec PyProof.Rows L2 Cm
variable [Tb : Tbls]
/-! ### draws: a row of three numbers -/
def IsSt3 (c : Cell) : Prop := ∃ a b e : Int, c = .lst [.int a, .int b, .int e] ∧ 0 ≤ a ∧ 0 ≤ b ∧ b < 2 ^ 40
def T3_state : FnTN := fun ss μ Q => ∃ ns k, ss = [.d (.scr ns), .d (.int k)] ∧ μ = [] ∧ 0 ≤ k ∧ ∀ ds, IsSt3 (.lst ds) → Q ds []
def T__law_choice : FnT := fun ss μ Q => ∃ c n, ss = [.cel 0, .d (.int n)] ∧ μ = [some c] ∧ IsSt3 c ∧ 0 < n ∧ n < 2 ^ 100 ∧ ∀ r c', 0 ≤ r → r < n → IsSt3 c' → Q (.d (.int r)) [some c']
instance {ns : List Int} {k : Int} {Q : List D → Mu → Prop} : Stp (T3_state [.d (.scr ns), .d (.int k)] [] Q) (0 ≤ k ∧ ∀ ds, IsSt3 (.lst ds) → Q ds []) := ⟨fun z => ⟨ns, k, rfl, rfl, z⟩⟩
instance {c : Cell} {n : Int} {Q : QD} : Stp (T__law_choice [.cel 0, .d (.int n)] [some c] Q) (IsSt3 c ∧ 0 < n ∧ n < 2 ^ 100 ∧ ∀ r c', 0 ≤ r → r < n → IsSt3 c' → Q (.d (.int r)) [some c']) := ⟨fun z => ⟨c, n, rfl, rfl, z⟩⟩
end Dl
set_option Elab.async false
set_option linter.all false
set_option maxRecDepth 100000
set_option maxHeartbeats 4000000
/-! ## S4. sorted(range(n), key=lambda a: ..) -/
namespace Sk
open PySem PySem.Spec PyProof.Rows L2 LamX PySem.Calls
open PySem.W (EachIs KeyedOut)
section
variable {X : Cx} {pins : List (Addr × Obj)} {σ : L2.St} {H : Hp} {s : Shared}
theorem sort_core {a' kS e1 tk2 : Nat} {h2 : Heap} {its : List Value} {E' : Value → Shared → Prop} {scope : Scope} {params : Arguments} {body : Expr} {f c' : Addr} {xs : List V} {ks : List Int} {pm ctv : Value} {q : Str} {a : Str} {cap : List (Str × Nat)} {k : Nat} {tb : TE} {Q : VK} (I : Inv X pins σ H s) (L : LamP X.env.scope scope a)
    (hcap : ∀ p ∈ cap, X.N[p.2]? = some p.1 ∧ p.1 ≠ a) (hr : Room (k + 3) X.A) (rv : Vals xs its) (hz : xs.length ≤ sizeLine) (hk : ks.length = xs.length) (hq : q = X.env.qual ++ "<lambda>")
    (hf : s.heap.get? f = some (PySem.W.kla_obj "<lambda>" q params body scope (cloFrom X.env.cells scope.names []) pm c' ctv)) (hfn : H f = none) (hfr : f ∉ frs X.stack)
    (hbind : ∀ u, bindArgs (PySem.W.kla_fn "<lambda>" q params body scope (cloFrom X.env.cells scope.names []) pm (.ref c') ctv) ⟨[u], []⟩ = pure [(a, u)])
    (hbody : ∀ (s : Shared) (H : Hp), PE (lamCxP X X.A.in1.in1 X.stack s H scope f c' (capN a cap)) body tb)
    (W : Nat → Hp → Prop) (Wc : ∀ i H', W i H' → H' c' = some (CodeO c' q)) (W0 : W 0 H)
    (Wt : ∀ i x j H', xs[i]? = some x → ks[i]? = some j → W i H' → tb (some x :: capt cap σ) H' fun v H'' => v = .int j ∧ W (i + 1) H'')
    (Wd : ∀ H', W xs.length H' → ∀ p, H' p = none → Q (.ref p) (upd H' p (.lst (sortK ks xs))))
    (ha' : s.heap.objs.size ≤ a') (hkS : s.heap.objs.size ≤ kS) (hka : kS ≠ a') (keep : ∀ b o, s.heap.get? b = some o → h2.get? b = some o) (nk : h2.get? kS = some (seqObj "list" #[] 0)) (na : h2.get? a' = some (seqObj "list" #[] e1)) :
    wpAny (model X.prog X.w) X.A.in1.in1 (ksk_rest a' (.ref f) false its.toArray e1 (.ref kS)) (fun r s' => r = .done (.ret .none) ∧ EP X pins σ Q (.ref a') s') E' { s with heap := h2, toks := tk2 } := by
  have hlen := rv.length
  have I2 : Inv X pins σ H { s with heap := h2, toks := tk2 } := I.kept (t' := tk2) keep
  have hL := I.lt
  have hA0 : H a' = none := I.hok.fresh ha'
  have hpl : ∀ p ∈ X.pn ++ pins, p.1 < s.heap.objs.size := fun p hp => Heap.lt_size (I.pin p hp).1
  have hfl : f < s.heap.objs.size := Heap.lt_size hf
  have hfs : f ∉ X.fs := fun z => hfr (by
    rcases I.ok.stk with e | ⟨e, hfe⟩
    · rw [e]; exact z
    · rw [e]
      unfold frs
      rw [List.filterMap_cons, hfe]
      exact List.mem_cons_of_mem _ z)
  have hfL : f ≠ X.env.locals := fun z => by
    obtain ⟨m, ⟨o, es, ep, ho, hd, _⟩, _⟩ := I.loc
    rw [← z, hf] at ho
    cases ho
    cases hd
  let fo : Obj := PySem.W.kla_obj "<lambda>" q params body scope (cloFrom X.env.cells scope.names []) pm c' ctv
  let pn (kA : Array Value) (e : Nat) : List (Addr × Obj) := (kS, seqObj "list" kA e) :: (a', seqObj "list" #[] e1) :: (f, fo) :: pins
  refine keyJ_rest (J := fun kA s' => ∃ H' e, Inv X (pn kA e) σ H' s' ∧ W kA.size H') (J1 := fun kA s' => ∃ H' e, Inv X (pn kA e) σ H' s' ∧ W (kA.size + 1) H') (ks := ks)
    hka (by rw [← hlen]; exact hz) (by rw [hk, hlen]) (show X.A.units + 1 + 1 < cLine by have := hr.un; omega) ?J0 ?at_ ?turn ?at1 ?push ?fin
  case J0 =>
    refine ⟨H, 0, I2.pins_of fun p hp => ?_, W0⟩
    rcases List.mem_cons.mp hp with rfl | hp
    · exact ⟨nk, I.hok.fresh hkS, Nat.ne_of_gt (Nat.lt_of_lt_of_le hL hkS), I.nofs hkS, fun v z => by cases z⟩
    rcases List.mem_cons.mp hp with rfl | hp
    · exact ⟨na, hA0, Nat.ne_of_gt (Nat.lt_of_lt_of_le hL ha'), I.nofs ha', fun v z => by cases z⟩
    rcases List.mem_cons.mp hp with rfl | hp
    · exact ⟨keep _ _ hf, hfn, hfL, hfs, fun v z => by cases z⟩
    · exact I2.pin p (List.mem_append_right _ hp)
  case at_ =>
    rintro kA s' ⟨H', e, I', _⟩
    exact ⟨⟨e, (I'.pin (kS, _) (List.mem_append_right _ (.head _))).1⟩, (I'.pin (a', _) (List.mem_append_right _ (.tail _ (.head _)))).1⟩
  case at1 =>
    rintro kA s' ⟨H', e, I', _⟩
    exact ⟨e, (I'.pin (kS, _) (List.mem_append_right _ (.head _))).1⟩
  case turn =>
    rintro i u j hu hj kA s' hsz ⟨H', e, I', hw⟩
    subst hsz
    obtain ⟨x, hx, rx⟩ := vals_get rv hu
    have hf' : s'.heap.get? f = some fo := (I'.pin (f, fo) (List.mem_append_right _ (.tail _ (.tail _ (.head _))))).1
    have hr' : Room (k + 1) X.A.in1.in1 := (hr.in1).in1
    refine wpAny_mono (lamP_call (A := X.A.in1.in1) I' L hcap I'.env0.in1.in1 hr' hq hf' (Wc _ _ hw) (hbind u) (hbody s' H') rx (Wt _ x j H' hx hj hw)) (fun v s'' hs => ?_) fun _ _ z => z
    obtain ⟨v', H'', I'', rv', ev, hw'⟩ := hs
    subst ev
    exact ⟨rv', H'', e, I'', hw'⟩
  case push =>
    rintro kA s' u ⟨H', e, I', hw⟩
    have pk := I'.pin (kS, _) (List.mem_append_right _ (.head _))
    have s1 := Heap.SameBut.update s'.heap kS (Obj.mapSeq (·.push u))
    obtain ⟨c2, hc2⟩ : ∃ c2, (s'.heap.update kS (Obj.mapSeq (·.push u))).get? kS = some (seqObj "list" (kA.push u) c2) := ⟨_, get?_update_seq pk.1 (·.push u)⟩
    have Ia : Inv X ((a', seqObj "list" #[] e1) :: (f, fo) :: pins) σ H' s' := I'.pins_of fun p hp => I'.pin p (List.mem_append_right _ (.tail _ hp))
    have low : ∀ p ∈ X.pn ++ ((a', seqObj "list" #[] e1) :: (f, fo) :: pins), p.1 ≠ kS := fun p hp => by
      rcases List.mem_append.mp hp with hp | hp
      · exact Nat.ne_of_lt (Nat.lt_of_lt_of_le (hpl p (List.mem_append_left _ hp)) hkS)
      rcases List.mem_cons.mp hp with rfl | hp
      · exact hka.symm
      rcases List.mem_cons.mp hp with rfl | hp
      · exact Nat.ne_of_lt (Nat.lt_of_lt_of_le hfl hkS)
      · exact Nat.ne_of_lt (Nat.lt_of_lt_of_le (hpl p (List.mem_append_right _ hp)) hkS)
    have Ib := Ia.turned (it := kS) (t' := s'.toks) (h' := s'.heap.update kS (Obj.mapSeq (·.push u))) (fun b o hb e => (s1.2 b hb).trans e) pk.2.1 pk.2.2.1 (.inr (Nat.le_trans I.sz hkS)) (fun x c hc z => by
      obtain ⟨v, o, ho, hd⟩ := I'.cell x c hc
      rw [z, pk.1] at ho
      cases ho
      cases hd) low
    refine ⟨H', c2, Ib.pins_of fun p hp => ?_, by rw [Array.size_push]; exact hw⟩
    rcases List.mem_cons.mp hp with rfl | hp
    · exact ⟨hc2, pk.2.1, pk.2.2.1, pk.2.2.2.1, fun v z => by cases z⟩
    · exact Ib.pin p (List.mem_append_right _ hp)
  case fin =>
    rintro kA s' h' tk out c hsz ⟨H', e, I', hw⟩ kp hA' ko
    have pk := I'.pin (kS, _) (List.mem_append_right _ (.head _))
    have pa := I'.pin (a', _) (List.mem_append_right _ (.tail _ (.head _)))
    have ro := sorted_vals rv hk ko
    have lo : (sortK ks xs).length ≤ sizeLine := by
      unfold sortK
      rw [List.length_map, List.length_mergeSort, List.length_zip, hk, Nat.min_self]
      exact hz
    have noC : ∀ x c, X.env.cells.lookup x = some c → c ≠ kS ∧ c ≠ a' := fun x c hc => by
      obtain ⟨v, o, ho, hd⟩ := I'.cell x c hc
      refine ⟨fun z => ?_, fun z => ?_⟩
      · rw [z, pk.1] at ho
        cases ho
        cases hd
      · rw [z, pa.1] at ho
        cases ho
        cases hd
    have nin : ∀ {b : Addr}, b ∉ ([a', kS] : List Addr) → b ≠ a' ∧ b ≠ kS := fun {b} z => ⟨fun q => z (by rw [q]; exact .head _), fun q => z (by rw [q]; exact .tail _ (.head _))⟩
    have trk : ∀ b u, H' b = some u → b ≠ a' ∧ b ≠ kS := fun b u e => ⟨(fun z => by rw [z, pa.2.1] at e; cases e), (fun z => by rw [z, pk.2.1] at e; cases e)⟩
    have Ia : Inv X pins σ H' s' := I'.pins_of fun p hp => I'.pin p (List.mem_append_right _ (.tail _ (.tail _ (.tail _ hp))))
    refine ⟨rfl, .ref a', upd H' a' (.lst (sortK ks xs)), Ia.step (g' := s'.gens) (d' := s'.drawn) (t' := tk) (ch := [a', kS]) (fun b hb => ?_) (fun b o _ _ hc e _ => kp b o (nin hc).1 (nin hc).2 e) (fun b o _ _ hc e _ => ⟨o.slots, kp b o (nin hc).1 (nin hc).2 e⟩)
      (fun b o hc _ n => by rw [upd_ne (nin hc).1]; exact n) (fun b o hc e => ⟨o, kp b o (nin hc).1 (nin hc).2 e⟩) (fun b xs e => by rw [upd_ne (trk b _ e).1]; exact e) (fun b o u e => by rw [upd_ne (trk b _ e).1]; exact e) (fun b ps e => ⟨#[], by rw [upd_ne (trk b _ e).1, e]; simp⟩) (fun m hm => ?_) (fun b u e => ?_) Ia.bare,
      rfl, Wd H' (by rw [hlen, ← hsz]; exact hw) a' pa.2.1⟩
    · rcases List.mem_cons.mp hb with rfl | hb
      · exact ⟨.inr (Nat.le_trans I.sz ha'), pa.2.2.1, fun x c hc => (noC x c hc).2, fun p hp => Nat.ne_of_lt (Nat.lt_of_lt_of_le (hpl p hp) ha')⟩
      · have e : b = kS := by simpa using hb
        subst e
        exact ⟨.inr (Nat.le_trans I.sz hkS), pk.2.2.1, fun x c hc => (noC x c hc).1, fun p hp => Nat.ne_of_lt (Nat.lt_of_lt_of_le (hpl p hp) hkS)⟩
    · obtain ⟨o, es, ep, ho, r⟩ := hm
      exact ⟨o, es, ep, kp _ o (Ne.symm pa.2.2.1) (Ne.symm pk.2.2.1) ho, r⟩
    · by_cases hb : b = a'
      · rw [hb, upd_same] at e
        cases e
        rw [hb]
        exact ⟨lo, out, c, ro, hA'⟩
      · rw [upd_ne hb] at e
        refine (Ia.hok b u e).stay (fun d v hd q => ?_) (fun d q => by rw [upd_ne (trk d _ q).1]; exact q) fun d xs q => by rw [upd_ne (trk d _ q).1]; exact q
        rcases hd with z | z
        · rw [z] at q ⊢
          exact kp b v hb (trk b _ e).2 q
        · exact kp d v (trk d _ z).1 (trk d _ z).2 q
end
end Sk
namespace Sk
open PySem PySem.W PySem.Calls PyProof.Rows PySem.Spec
section
variable {prog : Program} {w : World} {A : Around} {E : Value → Shared → Prop} {s : Shared}
theorem enter_rng {r q : Addr} {x y : Int} {t u v : Tok} {Q : Value → Shared → Prop} (hh : A.handled = none) (hr : IsRange s.heap r x y 1 t u v) (ok : L2.RgOk x y)
    (h : ∀ (E' : Value → Shared → Prop) (h' h2 : Heap) (a' kS e1 tk : Nat) (acc : Array Value), (∀ b o, s.heap.get? b = some o → h'.get? b = some o) → ItemsOf (fun i v => ∃ t, v = .int (x + i * 1) t) acc (y - x).toNat → h'.objs.size ≤ a' → h'.objs.size ≤ kS → kS ≠ a' → (∀ b o, h'.get? b = some o → h2.get? b = some o) →
      h2.get? kS = some (seqObj "list" #[] 0) → h2.get? a' = some (seqObj "list" #[] e1) →
      wpAny (model prog w) A.in1.in1 (ksk_rest a' (.ref q) false acc e1 (.ref kS)) (fun r s' => r = .done (.ret .none) ∧ Q (.ref a') s') E' { s with heap := h2, toks := tk }) :
    wpAny (model prog w) A (call (.builtin "sorted") [.ref r] [(Str.ofString "key", .ref q)]) Q E s := by
  obtain ⟨b1, b2, b3, b4, b5⟩ := ok
  refine call_function_entry_kw kind_sorted plain_sorted entry_sorted (ksk_s1 _ _) ?_
  unfold Builtin.«sorted»
  refine wpAny_bind (m := checkCount "sorted" 1 1 _) (wpAny_pure ?_)
  refine wpAny_bind (L2.collect_range (A := A.in1) (n := (y - x).toNat) hh hr (small_one b1 b2 b3 b4) (rangeSize_nat x y) b5 fun h' tk acc hk hi => ?_)
  have hL : acc.toList.length ≤ sizeLine := by
    rw [Array.length_toList, hi.1, sizeLine_eq]; omega
  refine wpAny_bind (wpAny_newList ?_ hL)
  have ho : (h'.push (seqObj "list" acc.toList.toArray 0)).get? h'.objs.size = some (seqObj "list" acc.toList.toArray 0) := Heap.get?_push_size _ rfl
  refine wpAny_bind (wpAny_holding (wpAny_call_entry_kw slot_list_sort ⟨_, ho, rfl⟩ entry_list_sort ?body (ksk_l1 _ _)))
  case body =>
    show wpAny (model prog w) A.in1.in1 (Builtin.«list.sort» ⟨[.ref h'.objs.size], [(Str.ofString "key", .ref q)]⟩) _ _ _
    rw [ksk_t1]
    obtain ⟨e1, ho1⟩ : ∃ e1, ((h'.push (seqObj "list" acc.toList.toArray 0)).update h'.objs.size (Obj.mapSeq fun _ => (#[] : Array Value))).get? h'.objs.size = some (seqObj "list" #[] e1) := ⟨_, get?_update_seq ho fun _ => #[]⟩
    unfold ksk_tree
    have hL2 : acc.toList.toArray.size ≤ sizeLine := by rw [List.size_toArray]; exact hL
    refine wpAny_bind (listItems_at ho rfl ?_)
    refine wpAny_bind (listUpdate_at ho rfl ?_ hL2 (Nat.zero_le _))
    refine wpAny_bind (seqEpoch_at ho1 rfl ?_)
    refine wpAny_bind (wpAny_newTuple ?_ (by show acc.toList.toArray.toList.length ≤ _; rw [Array.length_toList]; exact hL2))
    refine wpAny_bind (wpAny_newList ?_ (Nat.zero_le _))
    refine wpAny_holding ?_
    have hsz : (((h'.push (seqObj "list" acc.toList.toArray 0)).update h'.objs.size (Obj.mapSeq fun _ => (#[] : Array Value))).push (seqObj "tuple" acc.toList.toArray.toList.toArray 0)).objs.size = h'.objs.size + 2 := by
      rw [size_push', Heap.size_update, size_push']
    refine wpAny_mono (h _ h' _ h'.objs.size _ e1 tk acc hk hi (Nat.le_refl _) (by rw [hsz]; omega) (by rw [hsz]; omega) (fun b o e => ?_) (Heap.get?_push_size _ rfl) (Heap.get?_push_of_some _ (Heap.get?_push_of_some _ ho1))) (fun f s' hf => ?_) fun _ _ z => z
    · have e0 := Heap.get?_push_of_some (seqObj "list" acc.toList.toArray 0) e
      have hne : b ≠ h'.objs.size := Nat.ne_of_lt (Heap.lt_size e)
      exact Heap.get?_push_of_some _ (Heap.get?_push_of_some _ (((Heap.SameBut.update _ _ _).2 b hne).trans e0))
    · obtain ⟨rfl, hq⟩ := hf
      exact ⟨_, rfl, wpAny_pure ⟨_, rfl, hq⟩⟩
end
end Sk
namespace Sk
open PySem PySem.Spec PyProof.Rows L2 LamX PySem.Calls
section
variable {X : Cx} {pins : List (Addr × Obj)} {σ : L2.St} {H : Hp} {s : Shared}
/-- range(n) as a value -/
def rRng1 : List V → Hp → VK → Prop := fun vs H Q => ∃ i, vs = [V.int i] ∧ ∀ p, H p = none → Q (.ref p) (upd H p (.rng 0 i))
theorem cr_rng1 : CallR X (.type "range") rRng1 := by
  intro pins s σ H vs us Q I r h
  obtain ⟨i, rfl, q⟩ := h
  obtain ⟨u1, rfl, ri⟩ : ∃ u, us = [u] ∧ RelV (.int i) u := by
    cases r with
    | cons a r => cases r; exact ⟨_, rfl, a⟩
  obtain ⟨t, rfl⟩ := ri
  refine call_range_1 ⟨.ref s.heap.objs.size, upd H s.heap.objs.size (.rng 0 i), I.laid (t' := s.toks + 2) (fun b o e => Heap.get?_push_of_some _ e) (Nat.le_refl _) ?_, rfl, q _ (I.hok.fresh (Nat.le_refl _))⟩
  exact ⟨_, t, _, Heap.get?_push_size _ rfl⟩
/-- sorted(range(..), key=lambda a: e) -/
def tSortKeyR (K : PySem.W.Frag) (T : List (Addr × Str)) (q : Str) (cap : List (Str × Nat)) (te : TE) (tb : TE) : TE := fun σ H Q => te σ H fun v H1 => ∃ r x y, v = .ref r ∧ H1 r = some (.rng x y) ∧ RgOk x y ∧ Tabs T H1 ∧
  ∀ H2 c', KT T H1 H2 → Tabs T H2 → H2 c' = some (CodeO c' q) → ∃ (ks : List Int) (W : Nat → Hp → Prop), ks.length = (rgV x y).length ∧ (∀ i H', W i H' → H' c' = some (CodeO c' q)) ∧ W 0 H2 ∧
    (∀ i x' j H', (rgV x y)[i]? = some x' → ks[i]? = some j → W i H' → tb (some x' :: capt cap σ) H' fun v H'' => v = .int j ∧ W (i + 1) H'') ∧
    (∀ H', W (rgV x y).length H' → ∀ p, H' p = none → Q (.ref p) (upd H' p (.lst (sortK ks (rgV x y)))))
theorem pe_sortkeyR {T : List (Addr × Str)} {q : Str} {e : Expr} {te tb : TE} {params : Arguments} {body : Expr} {scope : Scope} {a : Str} {cap : List (Str × Nat)} {k : Nat} {p lpos kpos pos : Pos} (hc : X.calm = true) (hg : Gl X "sorted") (hm : X.mg "sorted" = none) (he : PE X e te)
    (M : LamM X T q) (hr : Room (k + 3) X.A) (L : LamP X.env.scope scope a) (hdef : defaultsOf params X.env = ([], []))
    (hbind : ∀ (q : Str) (cl : List (Str × Addr)) (pm cv ctv u : Value), bindArgs (PySem.W.kla_fn "<lambda>" q params body scope cl pm cv ctv) ⟨[u], []⟩ = pure [(a, u)])
    (hcap : ∀ p ∈ cap, X.N[p.2]? = some p.1 ∧ p.1 ≠ a)
    (hbody : ∀ (s : Shared) (H : Hp) (f c' : Addr), PE (lamCxP X X.A.in1.in1 X.stack s H scope f c' (capN a cap)) body tb)
    (na : starEach [e] X.env = (false, eval e X.env) :: starEach [] X.env := by rfl)
    (ne : backTo pos (starEach [e] X.env) = (false, eval e X.env) :: backTo pos (starEach [] X.env) := by rfl) (hpl : (backTo pos (starEach [e] X.env)).any (·.1) = false := by rfl) :
    PE X (.Call (.Name "sorted" p) [e] [⟨some "key", .Lambda params body scope lpos, kpos⟩] pos) (tSortKeyR X.K T q cap te tb) := by
  refine ⟨fun pins s σ H Q I h => ?_⟩
  refine wpAny_Call_Name_kw (ld_blt I hg hm boot_sorted ?_)
  refine PyProof.Rows.callWith_kw (args_cons (thn (he.run pins s σ H _ I h) fun x s1 ⟨vx, H1, I1, rx, r, x1, y1, ex, hr1, ok, hT, q1⟩ => args_nil ?_) na) ne hpl
  subst ex
  obtain rfl : x = .ref r := rx
  show wpAny _ _ (evalAll [do let v ← eval (.Lambda params body scope lpos) X.env; standAt pos; pure v]) _ _ s1
  refine wpAny_evalAll_cons (wpAny_bind (lam_mk I1 M hT hdef (L.has I.ok) fun f c' pm ctv H2 s2 I2 kt T2 hf hfn hfr hco => wpAny_bind (wpAny_standAt (wpAny_pure (wpAny_evalAll_nil ?_)))))
  obtain ⟨ks, W, hk, Wc, W0, Wt, Wd⟩ := q1 H2 c' kt T2 hco
  show wpAny _ _ (call (.builtin "sorted") [.ref r] [(Str.ofString "key", .ref f)]) _ _ s2
  have hr0 : H2 r = some (.rng x1 y1) := kt r _ (fun q hq => by
    obtain ⟨ps, e2, _⟩ := hT _ hq
    have e3 : H1 r = some (.tbl ps) := e2
    rw [hr1] at e3
    cases e3) hr1
  obtain ⟨t, u, v, hr2⟩ := I2.hok r _ hr0
  refine enter_rng (I2.ok.hd hc) hr2 ok fun E' h' h2 a' kS e1 tk acc hk' hi ha' hkS hka keep nk na' => ?_
  have I3 : Inv X pins σ H2 { s2 with heap := h', toks := tk } := I2.kept (t' := tk) hk'
  have rv := vals_rg hi
  have e0 : acc.toList.toArray = acc := by simp
  rw [← e0]
  exact sort_core (s := { s2 with heap := h', toks := tk }) I3 L hcap hr rv (by rw [rgV_length, sizeLine_eq]; have := ok.2.2.2.2; omega) hk M.nm (hk' _ _ hf) hfn hfr (fun u => hbind _ _ _ _ _ u) (fun s H => hbody s H f c') W Wc W0 Wt Wd ha' hkS hka keep nk na'
end
end Sk
set_option Elab.async false
set_option linter.all false
set_option maxRecDepth 100000
set_option maxHeartbeats 4000000
/-! ## DG. enumerate of a tuple; sorted of a range by a key; list and tuple of a range; own == and != -/
namespace PySem
open Sem (wp)
set_option maxHeartbeats 4000000
/-- the iterator of the tuple at t -/
def tupIt (t : Addr) : Obj := { cls := .type "tuple_iterator", data := .fields #[.ref t, .int 0 0] }
theorem meets_enumT (t : Addr) (items : Array Value) :
    Meets (Builtin.«enumerate.__new__» ⟨[.type "enumerate", .ref t], []⟩) (fun _ R s => s.heap.IsTuple t items ∧
      R (.ok (.ret (.ref (s.heap.push (tupIt t)).objs.size))) { s with heap := (s.heap.push (tupIt t)).push { cls := .type "enumerate", data := .fields #[.none, .bool false, .ref s.heap.objs.size, rawInt 0, .none, .none] } }) :=
  .of_wp fun prog w A R s h => by
    obtain ⟨hp, g, d, tk, os⟩ := s
    obtain ⟨h1, h⟩ := h
    have hsub := sub_enumerate
    have q1 : ∀ {A' : Around} {E : Value → Shared → Prop} {Q : Value → Shared → Prop}, Q (.ref hp.objs.size) ⟨hp.push (tupIt t), g, d, tk, os⟩ → wpAny (model prog w) A' (pyIter (.ref t)) Q E ⟨hp, g, d, tk, os⟩ :=
      fun q => wpAny_pyIter_tuple (s := ⟨hp, g, d, tk, os⟩) h1 q
    wp_walk using q1
    refine wpAny_stack_any fun st => wpAny_pure ?_
    split
    · rename_i c _ _ _ _ _
      cases (c == Value.type "enumerate")
      · wp_walk using q1
        exact ⟨_, rfl, h⟩
      · wp_walk using q1
        exact ⟨_, rfl, h⟩
    · wp_walk using q1
      exact ⟨_, rfl, h⟩
theorem call_enumT {prog : Program} {w : World} {A : Around} {E : Value → Shared → Prop} {s : Shared} {t : Addr} {items : Array Value} {Q : Value → Shared → Prop} (hL : s.heap.IsTuple t items)
    (h : ∀ h', IsEnum h' (s.heap.objs.size + 1) s.heap.objs.size 0 .none → h'.IsTupleIter s.heap.objs.size t 0 → h'.objs.size = s.heap.objs.size + 2 →
      (∀ b o, s.heap.get? b = some o → h'.get? b = some o) → Q (.ref (s.heap.objs.size + 1)) { s with heap := h' }) :
    wpAny (model prog w) A (call (.type "enumerate") [.ref t]) Q E s := by
  refine callType_new F.called_enumerate (by decide) (F.typeCall_enumerate_1 _) (F.newCall_enumerate_1 _) (fun obj => F.args_object_init_2 obj _) F.entry_enumerate_new (meets_enumT t items) ⟨hL, ?_⟩
  have hz : (s.heap.push (tupIt t)).objs.size = s.heap.objs.size + 1 := Heap.size_push ..
  show _ ∧ _
  rw [hz]
  have he : IsEnum ((s.heap.push (tupIt t)).push { cls := .type "enumerate", data := .fields #[.none, .bool false, .ref s.heap.objs.size, rawInt 0, .none, .none] }) (s.heap.objs.size + 1) s.heap.objs.size 0 .none := by
    have q := Heap.get?_push_size (s.heap.push (tupIt t)) (o := { cls := .type "enumerate", data := .fields #[.none, .bool false, .ref s.heap.objs.size, rawInt 0, .none, .none] }) rfl
    rw [hz] at q
    exact q
  exact ⟨⟨_, he, rfl⟩, h _ he ⟨_, Heap.get?_push_of_some _ (Heap.get?_push_size _ rfl), rfl, rfl⟩ (by rw [Heap.size_push, hz]) fun b o x => Heap.get?_push_of_some _ (Heap.get?_push_of_some _ x)⟩
end PySem
namespace Dl
open PySem PySem.Spec PyProof.Rows L2 Cm
section
/-- the tuple at a, of m items, each item in a new pair -/
def IteT (K : PySem.W.Frag) (a : Addr) (m : Nat) : It :=
  ⟨fun i H => ∃ (xs : List V) (x : V), SqT K H a xs ∧ xs.length = m ∧ xs[i]? = some x,
    fun i H v H' => ∃ T x, v = .ref T ∧ H T = none ∧ H' = upd H T (.tup [.int (i : Nat), x]) ∧ ∀ xs, SqT K H a xs → xs[i]? = some x,
    fun i H => ∃ xs : List V, SqT K H a xs ∧ xs.length = m ∧ m ≤ i⟩
theorem turn_enumT {P : Program} {w : World} {K : PySem.W.Frag} {elts : List Expr} {kk : Nat} {tpos : Pos} (a e it : Addr) (m : Nat) :
    Turn P w K (.Tuple elts kk tpos) (IteT K a m) [e, it] e (fun i h => (∃ old, IsEnum h e it ((i : Nat) : Int) old) ∧ h.IsTupleIter it a i ∧ e ≠ it ∧ i ≤ m) where
  mem := .head _
  obj := fun i h st b hb => by
    obtain ⟨⟨old, he⟩, ⟨o, ho, hc, hd⟩, _⟩ := st
    rcases List.mem_cons.mp hb with z | z
    · exact ⟨_, z ▸ he, fun v q => by cases q⟩
    · rw [List.mem_singleton.mp z]; exact ⟨o, ho, fun v q => by rw [hd] at q; cases q⟩
  keep := fun i h h' st k => by
    obtain ⟨⟨old, he⟩, hi, hne, hm⟩ := st
    exact ⟨⟨old, k e (.head _) _ he⟩, hi.at fun o q => k it (.tail _ (.head _)) o q, hne, hm⟩
  item := by
    intro X hP hw hK hc i pins s σ H E I hf st hg
    subst hP hw hK
    obtain ⟨⟨old, he⟩, hit, hne, hm⟩ := st
    obtain ⟨xs, x, hq, hl, hx⟩ := hg
    obtain ⟨its, rv, p, hz⟩ := I.tuple hq
    have pt : s.heap.IsTuple a its.toArray := p
    have hln := rv.length
    obtain ⟨u, hu, ru⟩ := rv.get hx
    have hlt : i < its.toArray.size := by
      rw [List.size_toArray]
      exact (List.getElem?_eq_some_iff.mp hu).1
    have hea : e ≠ a := fun z => by
      obtain ⟨o, ho, hcl, _⟩ := pt
      rw [← z] at ho
      have he' : s.heap.get? e = _ := he
      rw [he'] at ho; cases ho; simp at hcl
    have hta : a ≠ it := fun z => by
      obtain ⟨o, ho, hcl, _⟩ := pt
      obtain ⟨o2, ho2, hc2, _⟩ := hit
      rw [z, ho2] at ho; cases ho
      rw [hc2] at hcl; simp at hcl
    have hel : e < s.heap.objs.size := Heap.lt_size he
    have hil : it < s.heap.objs.size := by obtain ⟨_, q, _⟩ := hit; exact Heap.lt_size q
    refine wpAny_pyNext_enum_itemD (Draws.tuple (A := X.A.in1) (I.ok.hd hc) it a hta its.toArray) he ⟨hit, pt⟩ hlt hne (fun z => ?_) fun v h' tk hP ho hst hT hsz hk => ?_
    · rcases List.mem_cons.mp z with z | z
      · exact hne z
      · exact hea (List.mem_singleton.mp z)
    have ev : v = u := by
      have : its[i]? = some v := by rw [← hP, List.getElem?_toArray]
      rw [hu] at this
      exact (Option.some.inj this).symm
    subst ev
    refine ⟨_, rfl, wpAny_letOwnedTupleGo_enum (s := { s with heap := h', toks := tk + 1 }) ho fun h'' he' sb => ?_⟩
    have hT2 : h''.get? s.heap.objs.size = some { cls := .type "tuple", data := .seq #[.int i tk, v] } := (sb.2 _ (Nat.ne_of_gt hel)).trans hT
    have new : ObjOk X.prog X.w (upd H s.heap.objs.size (.tup [.int (i : Nat), x])) h'' s.heap.objs.size (.tup [.int (i : Nat), x]) :=
      ⟨by show 2 ≤ sizeLine; decide, [.int i tk, v], .cons ⟨_, rfl⟩ (.cons ru .nil), ⟨_, hT2, rfl, _, rfl⟩⟩
    have I1 : Inv X pins σ (upd H s.heap.objs.size (.tup [.int (i : Nat), x])) { s with heap := h'', toks := tk + 1 } := by
      refine I.turnedNew (ch := [e, it]) (fun b ob hb q => ?_) hf (Nat.le_refl _) new
      have h1 : b ≠ e := fun z => hb (z ▸ .head _)
      have h2 : b ≠ it := fun z => hb (z ▸ .tail _ (.head _))
      exact (sb.2 b h1).trans (hk b ob h1 h2 q)
    refine ⟨.ref s.heap.objs.size, _, I1, rfl, ⟨_, x, rfl, I.hok.fresh (Nat.le_refl _), rfl, fun ys hy => ?_⟩, ⟨⟨v, ?_⟩, ?_, hne, ?_⟩, fun b hb => ?_⟩
    · rw [I.tuple_inj hy hq]; exact hx
    · rw [show ((i + 1 : Nat) : Int) = (i : Int) + 1 by omega]; exact he'
    · exact hst.1.at fun o q => (sb.2 it (Ne.symm hne)).trans q
    · rw [List.size_toArray] at hlt; omega
    · have hb' : b < s.heap.objs.size := by
        rcases List.mem_cons.mp hb with z | z
        · rw [z]; exact hel
        · rw [List.mem_singleton.mp z]; exact hil
      rw [upd_ne (Nat.ne_of_lt hb')]
      exact (hf b hb).1
  done := by
    intro X hP hw hK hc i pins s σ H E I hf st hg
    subst hP hw hK
    obtain ⟨⟨old, he⟩, hit, hne, hm⟩ := st
    obtain ⟨xs, hq, hl, hx⟩ := hg
    obtain ⟨its, rv, p, hz⟩ := I.tuple hq
    have pt : s.heap.IsTuple a its.toArray := p
    have hln := rv.length
    obtain ⟨f0, f1, f2, f3, f4, f5⟩ := hf it (.tail _ (.head _))
    have hta : a ≠ it := fun z => by
      obtain ⟨o, ho, hcl, _⟩ := pt
      obtain ⟨o2, ho2, hc2, _⟩ := hit
      rw [z, ho2] at ho; cases ho
      rw [hc2] at hcl; simp at hcl
    have ei : i = its.toArray.size := by rw [List.size_toArray]; omega
    refine wpAny_pyNext_enum_endD (Draws.tuple (A := X.A.in1) (I.ok.hd hc) it a hta its.toArray) he ⟨ei ▸ hit, pt⟩ fun h' eb => ⟨rfl, I.turned (t' := s.toks) (fun b o hb q => eb b o hb q) f0 f1 f3 f4 f5⟩
  self := fun A i s Q E st h => let ⟨⟨_, he⟩, _⟩ := st; wpAny_pyIter_enum he h
/-- enumerate(a tuple) -/
def iEnumT (K : PySem.W.Frag) (ta : TE) : TI := fun σ H R => ta σ H fun x H1 => ∃ a xs, x = .ref a ∧ SqT K H1 a xs ∧ R (IteT K a xs.length) H1
theorem pi_enumT {X : Cx} (K : PySem.W.Frag) {e : Expr} {ta : TE} {p pos tpos : Pos} {elts : List Expr} {kk : Nat} (hK : X.K = K) (hg : Gl X "enumerate") (hm : X.mg "enumerate" = none) (ha : PE X e ta) (hs : starEach [e] X.env = (false, eval e X.env) :: starEach [] X.env := by rfl) :
    PI X (.Tuple elts kk tpos) (.Call (.Name "enumerate" p) [e] [] pos) (iEnumT K ta) := by
  subst hK
  refine ⟨fun pins s σ H R I h => ?_⟩
  refine Call_ (ld_blt I hg hm boot_enumerate (PyProof.Rows.callWith_type1 (thn ((pa_cons ha pa_nil hs).run pos pins s σ H (fun vs H1 => match vs with | [x] => ∃ a xs, x = .ref a ∧ SqT X.K H1 a xs ∧ R (IteT X.K a xs.length) H1 | _ => False) I ?_) fun us s1 ⟨vs, H1, I1, r1, q1⟩ => ?_) hs rfl))
  · exact h
  match vs, r1, q1 with
  | [], _, q1 => exact False.elim q1
  | _ :: _ :: _, _, q1 => exact False.elim q1
  | [x], r1, q1 =>
    obtain ⟨a, xs, rfl, hq, q⟩ := q1
    obtain rfl := Vals.ref1 r1
    obtain ⟨its, rv, p', hz⟩ := I1.tuple hq
    have hln := rv.length
    refine call_enumT (items := its.toArray) p' fun h' he hit hsz hk => wpAny_pyIter_enum he ?_
    have I2 : Inv X pins σ H1 { s1 with heap := h' } := I1.kept (t' := s1.toks) hk
    refine ⟨s1.heap.objs.size + 1, [s1.heap.objs.size + 1, s1.heap.objs.size], _, _, H1, rfl, I2, turn_enumT a (s1.heap.objs.size + 1) s1.heap.objs.size xs.length, ⟨⟨.none, he⟩, hit, Nat.succ_ne_self _, Nat.zero_le _⟩, fun b hb => ?_, q⟩
    have hle : s1.heap.objs.size ≤ b := by
      rcases List.mem_cons.mp hb with z | z
      · rw [z]; exact Nat.le_succ _
      · rw [List.mem_singleton.mp z]; exact Nat.le_refl _
    exact I1.fpOk hle (I1.hok.fresh hle)
end
end Dl
namespace Dl
open PySem PySem.Spec PyProof.Rows L2 Cm
variable [Tb : Tbls]
/-! ### the data readings -/
/-- the items with their numbers -/
def enD : Nat → List D → List D
  | _, [] => []
  | k, d :: r => .tup [.int (k : Nat), d] :: enD (k + 1) r
omit Tb in
theorem enD_length : ∀ (k : Nat) (ds : List D), (enD k ds).length = ds.length
  | _, [] => rfl
  | k, d :: r => by unfold enD; rw [List.length_cons, enD_length (k + 1) r, List.length_cons]
omit Tb in
theorem enD_get : ∀ {k : Nat} {ds : List D} {i : Nat} {d : D}, (enD k ds)[i]? = some d → ∃ x, ds[i]? = some x ∧ d = .tup [.int ((k + i : Nat) : Int), x]
  | _, [], _, _, e => by unfold enD at e; simp at e
  | k, x :: r, 0, d, e => by
    unfold enD at e
    simp at e
    exact ⟨x, rfl, e.symm⟩
  | k, x :: r, i + 1, d, e => by
    unfold enD at e
    rw [List.getElem?_cons_succ] at e
    obtain ⟨y, h1, h2⟩ := enD_get e
    exact ⟨y, by rw [List.getElem?_cons_succ]; exact h1, by rw [h2, show k + 1 + i = k + (i + 1) by omega]⟩
section
variable {K : PySem.W.Frag}
theorem itok_e {N : Addr → Prop} {M : Ms} {H1 : Hp} {μ : Mu} {a : Addr} {vs : List V} {ds : List D} (r : IsAll K N H1 vs ds) (q : ∀ {N' : Addr → Prop} {H' : Hp}, Go N H1 N' H' → SqT K H' a vs) : ItOk K N M H1 (IteT K a vs.length) (enD 0 ds) := by
  intro N' H μ' g st'
  have h := q g
  refine ⟨fun i hi => ⟨vs, h, rfl, by rw [enD_length] at hi; rw [r.length]; exact hi⟩, fun i d e => ?_⟩
  obtain ⟨x, hx, rfl⟩ := enD_get e
  obtain ⟨v, hv, rv⟩ := r.getD hx
  refine ⟨⟨vs, v, h, rfl, hv⟩, fun y H' z => ?_⟩
  obtain ⟨T, w, ey, hn, eH, hw⟩ := z
  subst ey eH
  have := hw vs h
  rw [hv] at this
  cases this
  obtain ⟨s2, k2, nT⟩ := st'.new (o := .tup [.int (i : Nat), v]) hn
  refine ⟨k2, s2, .tup nT upd_same (.cons ?_ (.cons ((rv.go g).go (st'.go k2)) .nil))⟩
  rw [Nat.zero_add]
  exact .int _
def dItE (A : TD) : TId := fun ρ μ Q => A ρ μ fun s μ1 => ∃ ds, s = .d (.tup ds) ∧ Q (enD 0 ds) μ1
instance {te : TE} {A : TD} [a : SdE K te A] : SdI K (iEnumT K te) (dItE A) where
  go := by
    intro N M σ H ρ μ Qd Qv er h c
    refine a.go N M σ H ρ μ _ _ er h fun v H1 x μ1 k1 s1 r1 ⟨ds, e, q⟩ => ?_
    subst e
    obtain ⟨p, vs, rfl, np, hp, ra⟩ := r1.d_inv.tup_inv
    refine ⟨p, vs, rfl, SqT.of hp, c _ _ _ _ k1 s1 (itok_e (μ := μ1) ra fun g => SqT.of (g p _ np hp).2) q⟩
/-! list(range(n)), tuple(range(n)) -/
omit Tb in
theorem rgV_is {N : Addr → Prop} {H : Hp} {n : Int} : IsAll K N H (rgV 0 n) (rngD 0 n.toNat) := by
  have e1 : rgV 0 n = ((List.range n.toNat).map fun i => (0 + (i : Nat) : Int)).map V.int := by
    unfold rgV
    rw [show n - 0 = n by omega, List.map_map]; rfl
  have e2 : rngD 0 n.toNat = ((List.range n.toNat).map fun i => (0 + (i : Nat) : Int)).map D.int := by
    unfold rngD
    rw [List.map_map]; rfl
  rw [e1, e2]
  exact IsAll.ints _
def dLstRg (A : TD) : TNd := fun ρ μ Q => A ρ μ fun s μ1 => ∃ n, s = .d (.int n) ∧ 0 ≤ n ∧ n ≤ 1000 ∧ Q (rngD 0 n.toNat) μ1
instance sdn_lstrg {te : TE} {A : TD} [a : SdE K te A] : SdN K (tLstRg (tRg1 te)) (dLstRg A) where
  go := by
    intro N M σ H ρ μ Qd Qv er h c
    refine a.go N M σ H ρ μ _ _ er h fun v H1 x μ1 k1 s1 r1 ⟨n, e, h0, h1, q⟩ => ?_
    subst e
    exact ⟨n, r1.int_inv, RgOk.of_le (by omega) (by omega) (by omega) (by omega), fun l hl => (c.step er.st k1 s1).put s1 rgV_is hl q⟩
instance {te : TE} {A : TD} [SdE K te A] : SdE K (tLstRg (tRg1 te)) (dOfN (dLstRg A)) := sde_of inferInstance
def dTupRg (A : TD) : TD := fun ρ μ Q => A ρ μ fun s μ1 => ∃ n, s = .d (.int n) ∧ 0 ≤ n ∧ n ≤ 1000 ∧ Q (.d (.tup (rngD 0 n.toNat))) μ1
instance {te : TE} {A : TD} [a : SdE K te A] : SdE K (tTupRg (tRg1 te)) (dTupRg A) where
  go := by
    intro N M σ H ρ μ Qd Qv er h c
    refine a.go N M σ H ρ μ _ _ er h fun v H1 x μ1 k1 s1 r1 ⟨n, e, h0, h1, q⟩ => ?_
    subst e
    exact ⟨n, r1.int_inv, RgOk.of_le (by omega) (by omega) (by omega) (by omega), fun l hl => (c.step k1).tup s1 rgV_is hl q⟩
/-! sorted(range(n), key=..) -/
def dSortKeyR (cap : List (Str × Nat)) (A : TD) (B : TD) : TNd := fun ρ μ Q => A ρ μ fun s μ1 => ∃ n, s = .d (.int n) ∧ 0 ≤ n ∧ n ≤ 1000 ∧ ∃ ks : List Int, ks.length = n.toNat ∧
  (∀ (i : Nat) (j : Int), i < n.toNat → ks[i]? = some j → B (some (.d (.int (0 + (i : Nat)))) :: captD cap ρ) μ1 fun v μ' => v = .d (.int j) ∧ μ' = μ1) ∧ Q (Sk.sortK ks (rngD 0 n.toNat)) μ1
instance sdn_sortkeyR {q : Str} {cap : List (Str × Nat)} {te tb : TE} {A B : TD} [a : SdE K te A] [b : SdE K tb B] : SdN K (Sk.tSortKeyR K Tb.ts q cap (tCB Sk.rRng1 (tCons te tNil)) tb) (dSortKeyR cap A B) where
  go := by
    intro N M σ H ρ μ Qd Qv er h c
    refine a.go N M σ H ρ μ _ _ er h fun v H1 s μ1 k1 s1 r1 ⟨n, e, h0, h1, ks, hk, hb, q⟩ => ?_
    subst e
    refine ⟨n, by rw [r1.int_inv], fun p hp => ?_⟩
    obtain ⟨s1', kp', np'⟩ := s1.new (o := .rng 0 n) hp
    refine ⟨p, 0, n, rfl, upd_same, RgOk.of_le (by omega) (by omega) (by omega) (by omega), s1'.tab, fun H2 c' kt T2 hc => ?_⟩
    obtain ⟨s2, k2⟩ := s1'.kt kt T2
    have nc := s2.notCode hc
    have ra : IsAll K N H2 (rgV 0 n) (rngD 0 n.toNat) := rgV_is
    refine ⟨ks, fun i H' => StR K N M H' μ1 ∧ Kp M H2 H', by rw [hk, ra.length, rngD_length], fun i H' hw => hw.2 c' _ nc hc, ⟨s2, Kp.refl⟩, fun i x j H' hx hj ⟨st, k⟩ => ?_, fun H' ⟨st, k⟩ p2 hp2 => ?_⟩
    · obtain ⟨d, hd, rd⟩ := ra.get hx
      obtain ⟨hi, rfl⟩ := rngD_get hd
      have er' : ER K N M σ H' ρ μ1 := er.go (((k1.trans kp').trans k2).trans k) st
      refine b.go N M _ H' _ μ1 _ _ ⟨er'.env.capt (.d (rd.go (s2.go k))), st⟩ (hb i j hi hj) fun w H'' s'' μ'' k'' st'' r'' ⟨ev, em⟩ => ?_
      subst ev em
      exact ⟨r''.d_inv.int_inv, st'', k.trans k''⟩
    · exact (c.step er.st (((k1.trans kp').trans k2).trans k) st).put st (ra.go (s2.go k)).sortK hp2 q
instance {q : Str} {cap : List (Str × Nat)} {te tb : TE} {A B : TD} [SdE K te A] [SdE K tb B] : SdE K (Sk.tSortKeyR K Tb.ts q cap (tCB Sk.rRng1 (tCons te tNil)) tb) (dOfN (dSortKeyR cap A B)) := sde_of inferInstance
omit Tb in
theorem pe_sortKR {X : Cx} (K : PySem.W.Frag) {e : Expr} {T : List (Addr × Str)} {q : Str} {cap : List (Str × Nat)} {te tb : TE} (hK : X.K = K) (h : PE X e (Sk.tSortKeyR X.K T q cap te tb)) : PE X e (Sk.tSortKeyR K T q cap te tb) := hK ▸ h
/-! own == and != -/
def othD (C : Addr) : D → Prop
  | .ins C' _ _ => C' = C
  | .non => True
  | .bl _ => True
  | .int _ => True
  | .str _ => True
  | _ => False
def boolK (μ : Mu) (f : Bool → Bool) (Q : QD) : QD := fun s _ => ∃ c, s = .d (.bl c) ∧ Q (.d (.bl (f c))) μ
def dOwnEq (C : Addr) (Tf : FnT) : RD2 := fun x y μ Q => ∃ ns ds b, x = .d (.ins C ns ds) ∧ y = .d b ∧ othD C b ∧ Tf [.d (.ins C ns ds), .d b] [] (boolK μ id Q)
def dOwnNe (C : Addr) (Tf : FnT) : RD2 := fun x y μ Q => ∃ ns ds b, x = .d (.ins C ns ds) ∧ y = .d b ∧ othD C b ∧ Tf [.d (.ins C ns ds), .d b] [] (boolK μ not Q)
omit Tb in
theorem oth_of {N : Addr → Prop} {H : Hp} {w : V} {b : D} {C : Addr} (r : Is K N H w b) (o : othD C b) : Oth H C w := by
  cases b with
  | ins C' ns ds =>
    have e : C' = C := o
    subst e
    obtain ⟨a, dx, us, rfl, na, ha, l, ra⟩ := r.ins_inv
    exact .inl ⟨a, dx, _, rfl, ha⟩
  | non => cases r.non_inv; exact .inr ⟨0, _, .non⟩
  | bl b => cases r.bl_inv; exact .inr ⟨0, _, .bl b⟩
  | int b => cases r.int_inv; exact .inr ⟨0, _, .int b⟩
  | str b => cases r.str_inv; exact .inr ⟨0, _, .str b⟩
  | _ => exact o.elim
theorem own_sp {N : Addr → Prop} {M : Ms} {H : Hp} {μ : Mu} {Tf : FnT} {E : XK} {v w : V} {x b : D} {Qd : QD} {Qv : VK} {f : Bool → Bool} (st : StR K N M H μ) (r1 : IsS K N M H v (.d x)) (r2 : IsS K N M H w (.d b))
    (h : Tf [.d x, .d b] [] (boolK μ f Qd)) (c : Ct K N M H Qd Qv) : spD K 2 Tf [v, w] H (fun z H' => ∃ c, z = .bl c ∧ Qv (.bl (f c)) H') E := by
  refine ⟨rfl, N, [], [.d x, .d b], [], _, st.none_, .cons (.d r1.d_inv) (.cons (.d r2.d_inv) .nil), h, ?_⟩
  intro u H' s' μ' k st' rs ⟨y, ey, q⟩
  subst ey
  have l0 : μ' = [] := List.eq_nil_of_length_eq_zero st'.len.symm
  subst l0
  exact ⟨y, rs.d_inv.bl_inv, c _ H' _ μ (k.less fun b z => .inr (inM_nil z)) (st.keepAll k st') (.d (.bl _)) q⟩
theorem own_sp1 {N : Addr → Prop} {M : Ms} {H : Hp} {μ : Mu} {Tf : FnT} {E : XK} {v w : V} {x b : D} {Qd : QD} {Qv : VK} (st : StR K N M H μ) (r1 : IsS K N M H v (.d x)) (r2 : IsS K N M H w (.d b))
    (h : Tf [.d x, .d b] [] (boolK μ id Qd)) (c : Ct K N M H Qd Qv) : spD K 2 Tf [v, w] H (fun z H' => ∃ c, z = .bl c ∧ Qv z H') E := by
  refine ⟨rfl, N, [], [.d x, .d b], [], _, st.none_, .cons (.d r1.d_inv) (.cons (.d r2.d_inv) .nil), h, ?_⟩
  intro u H' s' μ' k st' rs ⟨y, ey, q⟩
  subst ey
  have l0 : μ' = [] := List.eq_nil_of_length_eq_zero st'.len.symm
  subst l0
  exact ⟨y, rs.d_inv.bl_inv, by rw [rs.d_inv.bl_inv]; exact c _ H' _ μ (k.less fun b z => .inr (inM_nil z)) (st.keepAll k st') (.d (.bl _)) q⟩
instance {C : Addr} {Tf : FnT} {E : XK} : OpD K (rOwnEq C (spD K 2 Tf) E) (dOwnEq C Tf) where
  go := by
    intro N M H μ v w x y Qd Qv st r1 r2 ⟨ns, ds, b, e1, e2, o, h⟩ c
    subst e1 e2
    obtain ⟨a, dx, us, e, na, ha, l, ra⟩ := r1.d_inv.ins_inv
    exact .inl ⟨a, dx, _, e, ha, oth_of r2.d_inv o, own_sp1 st r1 r2 h c⟩
instance {C : Addr} {Tf : FnT} {E : XK} : OpD K (rOwnNe C (spD K 2 Tf) E) (dOwnNe C Tf) where
  go := by
    intro N M H μ v w x y Qd Qv st r1 r2 ⟨ns, ds, b, e1, e2, o, h⟩ c
    subst e1 e2
    obtain ⟨a, dx, us, e, na, ha, l, ra⟩ := r1.d_inv.ins_inv
    exact ⟨a, dx, _, e, ha, oth_of r2.d_inv o, own_sp st r1 r2 h c⟩
end
section
variable {K : PySem.W.Frag} {ρ : Rho} {μ : Mu} {Q : QD} {A B : TD} {P R : Prop}
instance {QL : List D → Mu → Prop} : Stp (dItE A ρ μ QL) (A ρ μ fun s μ1 => ∃ ds, s = .d (.tup ds) ∧ QL (enD 0 ds) μ1) := ⟨id⟩
instance {ds : List D} {QL : List D → Prop} : Stp (∃ es, S.d (.tup ds) = .d (.tup es) ∧ QL (enD 0 es)) (QL (enD 0 ds)) := ⟨fun z => ⟨ds, rfl, z⟩⟩
def rgK (k : Int → Mu → Prop) : S → Mu → Prop := fun s μ1 => ∃ n, s = .d (.int n) ∧ 0 ≤ n ∧ n ≤ 1000 ∧ k n μ1
instance {QL : List D → Mu → Prop} : Stp (dLstRg A ρ μ QL) (A ρ μ (rgK fun n μ1 => QL (rngD 0 n.toNat) μ1)) := ⟨id⟩
instance : Stp (dTupRg A ρ μ Q) (A ρ μ (rgK fun n μ1 => Q (.d (.tup (rngD 0 n.toNat))) μ1)) := ⟨id⟩
instance {cap : List (Str × Nat)} {QL : List D → Mu → Prop} : Stp (dSortKeyR cap A B ρ μ QL) (A ρ μ (rgK fun n μ1 => ∃ ks : List Int, ks.length = n.toNat ∧
  (∀ (i : Nat) (j : Int), i < n.toNat → ks[i]? = some j → B (some (.d (.int (0 + (i : Nat)))) :: captD cap ρ) μ1 fun v μ' => v = .d (.int j) ∧ μ' = μ1) ∧ QL (Sk.sortK ks (rngD 0 n.toNat)) μ1)) := ⟨id⟩
instance {n : Int} {k : Int → Mu → Prop} : Stp (rgK k (.d (.int n)) μ) (0 ≤ n ∧ n ≤ 1000 ∧ k n μ) := ⟨fun z => ⟨n, rfl, z⟩⟩
instance {C : Addr} {Tf : FnT} {ns : List Str} {ds : List D} {b : D} : Stp (dOwnEq C Tf (.d (.ins C ns ds)) (.d b) μ Q) (othD C b ∧ Tf [.d (.ins C ns ds), .d b] [] (boolK μ id Q)) := ⟨fun z => ⟨ns, ds, b, rfl, rfl, z⟩⟩
instance {C : Addr} {Tf : FnT} {ns : List Str} {ds : List D} {b : D} : Stp (dOwnNe C Tf (.d (.ins C ns ds)) (.d b) μ Q) (othD C b ∧ Tf [.d (.ins C ns ds), .d b] [] (boolK μ not Q)) := ⟨fun z => ⟨ns, ds, b, rfl, rfl, z⟩⟩
instance {b : Bool} {ν : Mu} : Stp (boolK μ id Q (.d (.bl b)) ν) (Q (.d (.bl b)) μ) := ⟨fun z => ⟨b, rfl, z⟩⟩
instance {b : Bool} {ν : Mu} : Stp (boolK μ not Q (.d (.bl b)) ν) (Q (.d (.bl (!b))) μ) := ⟨fun z => ⟨b, rfl, z⟩⟩
end
end Dl
set_option Elab.async false
set_option linter.all false
set_option maxRecDepth 100000
set_option maxHeartbeats 4000000
/-! ## DH. sorted(set(t)) of a tuple of ints; is, is not of truths; parts by places; comprehensions over numbers -/
namespace Dl
open PySem PySem.Spec PyProof.Rows L2 Cm
section
variable {X : Cx}
/-- set(t) of a tuple of ints -/
def rSetTup (w : World) (K : PySem.W.Frag) : List V → Hp → VK → Prop := fun vs H Q => ∃ (p : Addr) (ns : List Int), vs = [.ref p] ∧ SqT K H p (ns.map V.int) ∧ ns.length ≤ 1000 ∧
  ∀ (q : Addr) (c : Nat), c ≤ ns.length → H q = none → Q (.ref q) (upd H q (SetO w q (fun j => decide (j ∈ ns)) c))
theorem cr_setTup (hc : X.calm = true) : CallR X (.type "set") (rSetTup X.w X.K) := by
  intro pins s σ H vs us Q I r h
  obtain ⟨p, ns, rfl, hq, hl, q⟩ := h
  obtain ⟨its, rv, pt, hz⟩ := I.tuple hq
  rw [Vals.ref1 r]
  refine call_set_tupI ns (I.ok.hd hc) (show s.heap.IsTuple p its.toArray from pt) (ints_of_vals rv) (by unfold scanBound; omega) fun h' tk c R1 hcn k => ?_
  exact ⟨.ref _, upd H s.heap.objs.size (SetO X.w _ _ c), I.laid (t' := tk) k (Nat.le_refl _) (setO_new R1), rfl, q _ c hcn (I.hok.fresh (Nat.le_refl _))⟩
def tSortSet (w : World) (K : PySem.W.Frag) (te : TE) : TE := tCB (rSortedSet w) (tCons (tCB (rSetTup w K) (tCons te tNil)) tNil)
theorem pe_sortSet (K : PySem.W.Frag) (w : World) {e : Expr} {te : TE} (hK : X.K = K) (hw : X.w = w) (h : PE X e (tCB (rSortedSet X.w) (tCons (tCB (rSetTup X.w X.K) (tCons te tNil)) tNil))) : PE X e (tSortSet w K te) := hK ▸ hw ▸ h
end
variable [Tb : Tbls]
section
variable {K : PySem.W.Frag}
def dSortSet (A : TD) : TNd := fun ρ μ Q => A ρ μ fun s μ1 => ∃ ns : List Int, s = .d (.tup (ns.map .int)) ∧ ns.length < 64 ∧ ∀ ms : List Int, ms.Pairwise (· < ·) → (∀ k, k ∈ ms ↔ k ∈ ns) → Q (ms.map .int) μ1
instance sdn_sortset {w : World} {te : TE} {A : TD} [a : SdE K te A] : SdN K (tSortSet w K te) (dSortSet A) where
  go := by
    intro N M σ H ρ μ Qd Qv er h c
    refine a.go N M σ H ρ μ _ _ er h fun v H1 x μ1 k1 s1 r1 ⟨ns, e, hl, q⟩ => ?_
    subst e
    obtain ⟨p, vs, rfl, np, hp, ra⟩ := r1.d_inv.tup_inv
    have e := ra.ints_inv
    subst e
    refine ⟨p, ns, rfl, SqT.of hp, by omega, fun q2 n hn hq => ?_⟩
    obtain ⟨s2, k2, n2⟩ := s1.new (o := SetO w q2 (fun j => decide (j ∈ ns)) n) hq
    exact ⟨q2, _, n, rfl, upd_same, by omega, fun ms p2 hs hm hl2 hp2 => (c.step er.st (k1.trans k2) s2).put s2 (IsAll.ints ms) hp2 (q ms hs fun k => by rw [hm k, decide_eq_true_eq])⟩
instance {w : World} {te : TE} {A : TD} [SdE K te A] : SdE K (tSortSet w K te) (dOfN (dSortSet A)) := sde_of inferInstance
def dIsB : RD2 := fun x y μ Q => ∃ a b : Bool, x = .d (.bl a) ∧ y = .d (.bl b) ∧ Q (.d (.bl (decide (a = b)))) μ
def dNotB : RD2 := fun x y μ Q => ∃ a b : Bool, x = .d (.bl a) ∧ y = .d (.bl b) ∧ Q (.d (.bl (!decide (a = b)))) μ
instance : OpD K rIsB dIsB where
  go := by
    intro N M H μ v w x y Qd Qv st r1 r2 ⟨a, b, e1, e2, q⟩ c
    subst e1 e2
    exact ⟨a, b, r1.d_inv.bl_inv, r2.d_inv.bl_inv, c.scal st (.bl _) q⟩
instance : OpD K rNotB dNotB where
  go := by
    intro N M H μ v w x y Qd Qv st r1 r2 ⟨a, b, e1, e2, q⟩ c
    subst e1 e2
    exact ⟨a, b, r1.d_inv.bl_inv, r2.d_inv.bl_inv, c.scal st (.bl _) q⟩
end
section
variable {ρ : Rho} {μ : Mu} {Q : QD} {A : TD} {QL : List D → Mu → Prop}
def stK (QL : List D → Mu → Prop) : S → Mu → Prop := fun s μ1 => ∃ ns : List Int, s = .d (.tup (ns.map .int)) ∧ ns.length < 64 ∧ ∀ ms : List Int, ms.Pairwise (· < ·) → (∀ k, k ∈ ms ↔ k ∈ ns) → QL (ms.map .int) μ1
instance : Stp (dSortSet A ρ μ QL) (A ρ μ (stK QL)) := ⟨id⟩
instance {ds : List D} {ns : List Int} [h : IntsD ds ns] : Stp (stK QL (.d (.tup ds)) μ) (ns.length < 64 ∧ ∀ ms : List Int, ms.Pairwise (· < ·) → (∀ k, k ∈ ms ↔ k ∈ ns) → QL (ms.map .int) μ) := ⟨fun z => ⟨ns, by rw [h.eq], z⟩⟩
instance {a b : Bool} : Stp (dIsB (.d (.bl a)) (.d (.bl b)) μ Q) (Q (.d (.bl (decide (a = b)))) μ) := ⟨fun z => ⟨a, b, rfl, rfl, z⟩⟩
instance {a b : Bool} : Stp (dNotB (.d (.bl a)) (.d (.bl b)) μ Q) (Q (.d (.bl (!decide (a = b)))) μ) := ⟨fun z => ⟨a, b, rfl, rfl, z⟩⟩
omit Tb in
theorem cutD_take {ds : List D} {m : Int} (h : 0 ≤ m) : cutD ds none (some m) = ds.take m.toNat := by
  unfold cutD
  have e1 : HT.sIx ds.length 0 none = 0 := rfl
  have e2 : HT.sIx ds.length ds.length (some m) = min m.toNat ds.length := by
    simp only [HT.sIx]
    split <;> (try split) <;> omega
  rw [e1, e2, List.drop_zero, Nat.sub_zero, List.take_eq_take_iff]
  omega
omit Tb in
theorem cutD_drop {ds : List D} {m : Int} (h : 0 ≤ m) : cutD ds (some m) none = ds.drop m.toNat := by
  unfold cutD
  have e1 : HT.sIx ds.length 0 (some m) = min m.toNat ds.length := by
    simp only [HT.sIx]
    split <;> (try split) <;> omega
  have e2 : HT.sIx ds.length ds.length none = ds.length := rfl
  rw [e1, e2]
  by_cases z : m.toNat ≤ ds.length
  · rw [Nat.min_eq_left z, List.take_of_length_le (by rw [List.length_drop]; exact Nat.le_refl _)]
  · rw [Nat.min_eq_right (by omega), List.drop_length, List.drop_of_length_le (by omega), List.take_nil]
/-- a comprehension over told items -/
theorem lc_of {α : Type} {G : TGd} {C : TTd} {xs : List α} {QL : List D → Mu → Prop} (g f : α → D) (hl : xs.length ≤ 1000)
    (hs : ∀ (x : α) (acc : List D) (q : List D → Mu → Prop), x ∈ xs → acc.length < 1000 → q (acc ++ [f x]) μ →
      G (.d (g x)) ρ μ fun ρ2 μ2 => C ρ2 μ2 fun b μ3 => if b = true then A ρ2 μ3 fun y μ4 => ∃ e, y = .d e ∧ acc.length < 1000 ∧ q (acc ++ [e]) μ4 else q acc μ3)
    (hd : QL (xs.map f) μ) : dLcL G C A ρ QL (xs.map g) [] μ := by
  refine lc_ind (fun i acc μ' => i ≤ xs.length ∧ acc = (xs.take i).map f ∧ μ' = μ) ⟨Nat.zero_le _, rfl, rfl⟩ (fun i d acc μ' k e ⟨hi, h1, h2⟩ ih => ?_) fun acc μ' ⟨_, h1, h2⟩ => ?_
  · subst h1 h2
    rw [List.getElem?_map, Option.map_eq_some_iff] at e
    obtain ⟨x, hx, rfl⟩ := e
    have hlt : i < xs.length := (List.getElem?_eq_some_iff.mp hx).1
    have he : xs[i] = x := (List.getElem?_eq_some_iff.mp hx).2
    refine hs x _ k (List.mem_of_getElem? hx) (by rw [List.length_map, List.length_take]; omega) (ih _ _ ⟨hlt, ?_, rfl⟩)
    rw [List.take_succ_eq_append_getElem hlt, List.map_append, he]
    rfl
  · subst h1 h2
    rw [List.length_map, List.take_length]
    exact hd
theorem lc_fof {α : Type} {G : TGd} {C : TTd} {xs : List α} {QL : List D → Mu → Prop} (g f : α → D) (p : α → Bool) (hl : xs.length ≤ 1000)
    (hs : ∀ (x : α) (acc : List D) (q : List D → Mu → Prop), x ∈ xs → acc.length < 1000 → (p x = true → q (acc ++ [f x]) μ) → (p x = false → q acc μ) →
      G (.d (g x)) ρ μ fun ρ2 μ2 => C ρ2 μ2 fun b μ3 => if b = true then A ρ2 μ3 fun y μ4 => ∃ e, y = .d e ∧ acc.length < 1000 ∧ q (acc ++ [e]) μ4 else q acc μ3)
    (hd : QL ((xs.filter p).map f) μ) : dLcL G C A ρ QL (xs.map g) [] μ := by
  refine lc_ind (fun i acc μ' => i ≤ xs.length ∧ acc = ((xs.take i).filter p).map f ∧ μ' = μ) ⟨Nat.zero_le _, rfl, rfl⟩ (fun i d acc μ' k e ⟨hi, h1, h2⟩ ih => ?_) fun acc μ' ⟨_, h1, h2⟩ => ?_
  · subst h1 h2
    rw [List.getElem?_map, Option.map_eq_some_iff] at e
    obtain ⟨x, hx, rfl⟩ := e
    have hlt : i < xs.length := (List.getElem?_eq_some_iff.mp hx).1
    have he : xs[i] = x := (List.getElem?_eq_some_iff.mp hx).2
    have ll : (((xs.take i).filter p).map f).length < 1000 := by
      have := List.length_filter_le p (xs.take i)
      rw [List.length_take] at this
      rw [List.length_map]; omega
    refine hs x _ k (List.mem_of_getElem? hx) ll (fun hp => ih _ _ ⟨hlt, ?_, rfl⟩) fun hp => ih _ _ ⟨hlt, ?_, rfl⟩
    · rw [List.take_succ_eq_append_getElem hlt, List.filter_append, List.map_append, he]
      simp [hp]
    · rw [List.take_succ_eq_append_getElem hlt, List.filter_append, List.map_append, he]
      simp [hp]
  · subst h1 h2
    rw [List.length_map, List.take_length]
    exact hd
omit Tb in
theorem enD_of {α : Type} (g : α → D) : ∀ (k : Nat) (xs : List α), enD k (xs.map g) = (xs.zipIdx k).map fun p => D.tup [.int (p.2 : Nat), g p.1]
  | _, [] => rfl
  | k, x :: xs => by
    rw [List.map_cons, List.zipIdx_cons, List.map_cons]
    unfold enD
    rw [enD_of g (k + 1) xs]
omit Tb in
theorem inD_ints {i : Int} : ∀ ns : List Int, inD (.int i) (ns.map .int) = decide (i ∈ ns)
  | [] => by simp [inD, inV]
  | n :: ns => by
    have ih := inD_ints (i := i) ns
    unfold inD inV at ih ⊢
    rw [List.map_cons, List.map_cons, List.any_cons, ih]
    have e : eqV (fV (D.int n)) (fV (D.int i)) = decide (n = i) := by simp only [fV, eqV]; exact Bool.beq_eq_decide_eq n i
    rw [e]
    by_cases z : n = i
    · subst z; simp
    · have z' : ¬ i = n := fun y => z y.symm
      simp [z, z']
omit Tb in
theorem flD_ints (ns : List Int) : (ns.map D.int).all flD = true := by
  rw [List.all_map, List.all_eq_true]; intro x _; rfl
instance (priority := 3000) {i : Int} {ds : List D} {ns : List Int} [h : IntsD ds ns] : Stp (dIn true (.d (.int i)) (.d (.tup ds)) μ Q) (Q (.d (.bl (!decide (i ∈ ns)))) μ) := ⟨fun z => ⟨_, _, ds, rfl, rfl, rfl, rfl, by rw [h.eq]; exact flD_ints ns, by rw [h.eq, inD_ints, if_pos rfl]; exact z⟩⟩
instance (priority := 3000) {i : Int} {ds : List D} {ns : List Int} [h : IntsD ds ns] : Stp (dIn false (.d (.int i)) (.d (.tup ds)) μ Q) (Q (.d (.bl (decide (i ∈ ns)))) μ) := ⟨fun z => ⟨_, _, ds, rfl, rfl, rfl, rfl, by rw [h.eq]; exact flD_ints ns, by rw [h.eq, inD_ints, if_neg Bool.false_ne_true]; exact z⟩⟩
instance (priority := 3000) {i : Int} {ds : List D} {ns : List Int} [h : IntsD ds ns] : Stp (dIn true (.d (.int i)) (.d (.lst ds)) μ Q) (Q (.d (.bl (!decide (i ∈ ns)))) μ) := ⟨fun z => ⟨_, _, ds, rfl, rfl, rfl, rfl, by rw [h.eq]; exact flD_ints ns, by rw [h.eq, inD_ints, if_pos rfl]; exact z⟩⟩
instance (priority := 3000) {i : Int} {ds : List D} {ns : List Int} [h : IntsD ds ns] : Stp (dIn false (.d (.int i)) (.d (.lst ds)) μ Q) (Q (.d (.bl (decide (i ∈ ns)))) μ) := ⟨fun z => ⟨_, _, ds, rfl, rfl, rfl, rfl, by rw [h.eq]; exact flD_ints ns, by rw [h.eq, inD_ints, if_neg Bool.false_ne_true]; exact z⟩⟩
end

section
variable {K : PySem.W.Frag}
def dRevT (A : TD) : TD := fun ρ μ Q => A ρ μ fun s μ1 => ∃ ds, s = .d (.tup ds) ∧ Q (.d (.tup ds.reverse)) μ1
instance {te : TE} {A : TD} [a : SdE K te A] : SdE K (tRevT te) (dRevT A) where
  go := by
    intro N M σ H ρ μ Qd Qv er h c
    refine a.go N M σ H ρ μ _ _ er h fun v H1 x μ1 k1 s1 r1 ⟨ds, e, q⟩ => ?_
    subst e
    obtain ⟨p, vs, rfl, np, hp, ra⟩ := r1.d_inv.tup_inv
    exact ⟨p, vs, rfl, hp, fun l hl => (c.step k1).tup s1 ra.reverse hl q⟩
end
section
variable {ρ : Rho} {μ μ' : Mu} {Q : QD} {A : TD}
instance : Stp (dRevT A ρ μ Q) (A ρ μ fun s μ1 => ∃ ds, s = .d (.tup ds) ∧ Q (.d (.tup ds.reverse)) μ1) := ⟨id⟩
instance {ds : List D} {P : List D → Prop} : Stp (∃ es, S.d (.tup ds) = .d (.tup es) ∧ P es) (P ds) := ⟨fun z => ⟨ds, rfl, z⟩⟩
omit Tb in
theorem eraseIdx_ints : ∀ (ns : List Int) (i : Nat), (ns.map D.int).eraseIdx i = (ns.eraseIdx i).map D.int
  | [], _ => rfl
  | n :: ns, 0 => rfl
  | n :: ns, i + 1 => by rw [List.map_cons, List.eraseIdx_cons_succ, List.eraseIdx_cons_succ, List.map_cons, eraseIdx_ints ns i]
/-- one of numbers is taken out -/
instance {k : Nat} {ds : List D} {ns : List Int} {i : Int} [g : LGet k μ (some (.lst ds))] [h : IntsD ds ns] [m : LSet k (some (.lst ((ns.eraseIdx i.toNat).map .int))) μ μ'] : Stp (dPopAt (.cel k) [.d (.int i)] μ Q) (0 ≤ i ∧ i < ns.length ∧ i < 2 ^ 63 ∧ ∀ z, ns[i.toNat]? = some z → Q (.d (.int z)) μ') := ⟨fun ⟨h0, h1, h2, q⟩ => by
  have hlt : i.toNat < ns.length := by omega
  have hd : ds[i.toNat]? = some (.int ns[i.toNat]) := by rw [h.eq, List.getElem?_map, List.getElem?_eq_getElem hlt]; rfl
  refine ⟨k, ds, i, _, rfl, rfl, g.eq, h0, h2, hd, ?_⟩
  have := q _ (List.getElem?_eq_getElem hlt)
  rw [h.eq, eraseIdx_ints, m.eq]
  exact this⟩
end
/-! ### equality of data -/
def shp : Nat → D → Bool
  | _, .non => true
  | _, .bl _ => true
  | _, .int _ => true
  | _, .str z => PyData.canLay0 (.str z)
  | n + 1, .tup ds => ds.all (shp n)
  | n + 1, .lst ds => ds.all (shp n)
  | _, _ => false
omit Tb in
theorem shp_ok : ∀ (n : Nat) (d : D), shp n d = true → plain d = true ∧ noDct d = true ∧ (py d).canLay0 = true ∧ (py d).depth ≤ n := by
  have go : ∀ (n : Nat), (∀ d : D, shp n d = true → plain d = true ∧ noDct d = true ∧ (py d).canLay0 = true ∧ (py d).depth ≤ n) →
      ∀ ds : List D, ds.all (shp n) = true → plainAll ds = true ∧ noDctAll ds = true ∧ PyData.canLayAll0 (pyAll ds) = true ∧ PyData.depthAll (pyAll ds) ≤ n := by
    intro n ih ds
    induction ds with
    | nil => intro _; exact ⟨rfl, rfl, rfl, Nat.zero_le _⟩
    | cons d ds ihd =>
      intro h
      rw [List.all_cons, Bool.and_eq_true] at h
      obtain ⟨a1, a2, a3, a4⟩ := ih d h.1
      obtain ⟨b1, b2, b3, b4⟩ := ihd h.2
      refine ⟨?_, ?_, ?_, ?_⟩
      · unfold plainAll; rw [a1, b1]; rfl
      · unfold noDctAll; rw [a2, b2]; rfl
      · unfold pyAll PyData.canLayAll0; rw [a3, b3]; rfl
      · unfold pyAll PyData.depthAll; exact Nat.max_le.mpr ⟨a4, b4⟩
  intro n
  induction n with
  | zero =>
    intro d h
    cases d <;> first | exact ⟨rfl, rfl, rfl, Nat.zero_le _⟩ | (unfold shp at h; exact absurd h (by decide)) | (unfold shp at h; exact ⟨rfl, rfl, h, Nat.zero_le _⟩)
  | succ n ih =>
    intro d h
    cases d with
    | tup ds =>
      unfold shp at h
      obtain ⟨a1, a2, a3, a4⟩ := go n ih ds h
      exact ⟨by unfold plain; exact a1, by unfold noDct; exact a2, by unfold py PyData.canLay0; exact a3, by unfold py PyData.depth; exact Nat.succ_le_succ a4⟩
    | lst ds =>
      unfold shp at h
      obtain ⟨a1, a2, a3, a4⟩ := go n ih ds h
      exact ⟨by unfold plain; exact a1, by unfold noDct; exact a2, by unfold py PyData.canLay0; exact a3, by unfold py PyData.depth; exact Nat.succ_le_succ a4⟩
    | _ => first | exact ⟨rfl, rfl, rfl, Nat.zero_le _⟩ | (unfold shp at h; exact absurd h (by decide)) | (unfold shp at h; exact ⟨rfl, rfl, h, Nat.zero_le _⟩)
omit Tb in
theorem eqOk_shp {n : Nat} {d : D} (h : shp n d = true) (hn : n ≤ 64 := by decide) : eqOk d := by
  obtain ⟨a1, a2, a3, a4⟩ := shp_ok n d h
  refine ⟨a1, a2, ?_⟩
  unfold SeqAt.shaped
  rw [a3, Bool.true_and]
  exact decide_eq_true (by omega)
omit Tb in
theorem eqD_refl : ∀ (n : Nat) (d : D), shp n d = true → eqD d d = true := by
  have go : ∀ (n : Nat), (∀ d : D, shp n d = true → eqD d d = true) → ∀ ds : List D, ds.all (shp n) = true → PyData.eqvAll (pyAll ds) (pyAll ds) = true := by
    intro n ih ds
    induction ds with
    | nil => intro _; rfl
    | cons d ds ihd =>
      intro h
      rw [List.all_cons, Bool.and_eq_true] at h
      unfold pyAll PyData.eqvAll
      have := ih d h.1
      unfold eqD at this
      rw [this, ihd h.2]; rfl
  intro n
  induction n with
  | zero => intro d h; cases d <;> first | (unfold shp at h; exact absurd h (by decide)) | (unfold eqD py; simp [PyData.eqv])
  | succ n ih =>
    intro d h
    cases d with
    | tup ds => unfold shp at h; unfold eqD py; simp only [PyData.eqv]; exact go n ih ds h
    | lst ds => unfold shp at h; unfold eqD py; simp only [PyData.eqv]; exact go n ih ds h
    | _ => first | (unfold shp at h; exact absurd h (by decide)) | (unfold eqD py; simp [PyData.eqv])
/-- .. without truths -/
def nbl : Nat → D → Bool
  | _, .non => true
  | _, .int _ => true
  | _, .str _ => true
  | n + 1, .tup ds => ds.all (nbl n)
  | n + 1, .lst ds => ds.all (nbl n)
  | _, _ => false
omit Tb in
theorem eqD_nbl : ∀ (n : Nat) (a b : D), nbl n a = true → nbl n b = true → eqD a b = true → a = b := by
  have go : ∀ (n : Nat), (∀ a b : D, nbl n a = true → nbl n b = true → eqD a b = true → a = b) → ∀ as bs : List D, as.all (nbl n) = true → bs.all (nbl n) = true → PyData.eqvAll (pyAll as) (pyAll bs) = true → as = bs := by
    intro n ih as
    induction as with
    | nil =>
      intro bs _ _ h
      cases bs with
      | nil => rfl
      | cons b bs => simp [pyAll, PyData.eqvAll] at h
    | cons a as iha =>
      intro bs h1 h2 h
      cases bs with
      | nil => simp [pyAll, PyData.eqvAll] at h
      | cons b bs =>
        rw [List.all_cons, Bool.and_eq_true] at h1 h2
        unfold pyAll PyData.eqvAll at h
        rw [Bool.and_eq_true] at h
        rw [ih a b h1.1 h2.1 h.1, iha bs h1.2 h2.2 h.2]
  have base : ∀ (a b : D), nbl 0 a = true → nbl 0 b = true → eqD a b = true → a = b := by
    intro a b h1 h2 h
    cases a <;> cases b <;> first | rfl | (unfold nbl at h1; exact absurd h1 (by decide)) | (unfold nbl at h2; exact absurd h2 (by decide)) | (simp [eqD, py, PyData.eqv] at h; done) | (simp [eqD, py, PyData.eqv] at h; rw [h])
  intro n
  induction n with
  | zero => exact base
  | succ n ih =>
    intro a b h1 h2 h
    cases a <;> cases b <;> first
      | rfl
      | (unfold nbl at h1; exact absurd h1 (by decide))
      | (unfold nbl at h2; exact absurd h2 (by decide))
      | (simp [eqD, py, PyData.eqv] at h; done)
      | (unfold nbl at h1 h2; unfold eqD py at h; simp only [PyData.eqv] at h; rw [go n ih _ _ h1 h2 h])
      | (simp [eqD, py, PyData.eqv] at h; rw [h])
omit Tb in
theorem shp_ints (n : Nat) (ns : List Int) : (ns.map D.int).all (shp n) = true := by
  rw [List.all_map, List.all_eq_true]; intro x _; cases n <;> rfl
omit Tb in
theorem nbl_ints (n : Nat) (ns : List Int) : (ns.map D.int).all (nbl n) = true := by
  rw [List.all_map, List.all_eq_true]; intro x _; cases n <;> rfl
end Dl
set_option Elab.async false
set_option linter.all false
set_option maxRecDepth 100000
set_option maxHeartbeats 4000000
/-! ## KM. Dropping: of rows those are kept whose mark is greatest -/
namespace Km
open Sk
abbrev Row := Int × Int
def rp (rows : List Row) (k : Int) : Int := (rows.getD k.toNat (0, 0)).1
def rq (rows : List Row) (k : Int) : Int := (rows.getD k.toNat (0, 0)).2
def sp (rows : List Row) (ks : List Int) : Int := (ks.map (rp rows)).sum
def sq (rows : List Row) (ks : List Int) : Int := (ks.map (rq rows)).sum
def lf (rows : List Row) (P M k : Int) : Int := M * rp rows k - P * rq rows k
def Rng (n : Nat) (k : Int) : Prop := 0 ≤ k ∧ k < n
structure Lot (n m : Nat) (ks : List Int) : Prop where
  len : ks.length = m
  nd : ks.Nodup
  rg : ∀ k ∈ ks, Rng n k
/-- a is ahead of b -/
def Bef (f : Int → Int) (a b : Int) : Prop := f b < f a ∨ f a = f b ∧ a < b
def Top (n : Nat) (f : Int → Int) (ks : List Int) : Prop := ∀ a ∈ ks, ∀ b, Rng n b → b ∉ ks → Bef f a b
theorem sum_perm {l l' : List Int} (h : l.Perm l') : l.sum = l'.sum := by
  induction h with
  | nil => rfl
  | cons x _ ih => rw [List.sum_cons, List.sum_cons, ih]
  | swap x y l => simp only [List.sum_cons]; omega
  | trans _ _ a b => exact a.trans b
theorem sum_on (h : Int → Int) : ∀ (S A : List Int), S.Nodup → (∀ k ∈ A, 0 ≤ h k) → (S.map fun k => if k ∈ A then h k else 0).sum ≤ (A.map h).sum
  | [], A, _, p => by
    rw [List.map_nil, List.sum_nil]
    induction A with
    | nil => exact Int.le_refl _
    | cons a A ih =>
      have h1 := p a (by simp)
      have h2 := ih fun k hk => p k (by simp [hk])
      rw [List.map_cons, List.sum_cons]; omega
  | k :: S, A, nd, p => by
    have nk : k ∉ S := (List.nodup_cons.mp nd).1
    have nS := (List.nodup_cons.mp nd).2
    rw [List.map_cons, List.sum_cons]
    by_cases hk : k ∈ A
    · have e1 : (A.map h).sum = h k + ((A.erase k).map h).sum := by
        rw [sum_perm ((List.perm_cons_erase hk).map h), List.map_cons, List.sum_cons]
      have e2 : (S.map fun j => if j ∈ A then h j else 0) = S.map fun j => if j ∈ A.erase k then h j else 0 := by
        refine List.map_congr_left fun j hj => ?_
        have hne : j ≠ k := fun z => nk (z ▸ hj)
        have := @List.mem_erase_of_ne _ _ _ j k A hne
        by_cases z : j ∈ A
        · rw [if_pos z, if_pos (this.mpr z)]
        · rw [if_neg z, if_neg fun y => z (this.mp y)]
      have ih := sum_on h S (A.erase k) nS fun j hj => p j (List.mem_of_mem_erase hj)
      rw [if_pos hk, e1, e2]; omega
    · have ih := sum_on h S A nS p
      rw [if_neg hk]; omega
theorem sum_sub (f : Int → Int) (t : Int) : ∀ ks : List Int, (ks.map fun k => f k - t).sum = (ks.map f).sum - ks.length * t
  | [] => by simp
  | k :: ks => by
    rw [List.map_cons, List.sum_cons, sum_sub f t ks, List.map_cons, List.sum_cons, List.length_cons, Int.natCast_succ, Int.add_mul, Int.one_mul]
    omega
theorem sum_le_of (f g : Int → Int) : ∀ ks : List Int, (∀ k ∈ ks, f k ≤ g k) → (ks.map f).sum ≤ (ks.map g).sum
  | [], _ => Int.le_refl _
  | k :: ks, h => by
    have h1 := h k (by simp)
    have h2 := sum_le_of f g ks fun j hj => h j (by simp [hj])
    rw [List.map_cons, List.sum_cons, List.map_cons, List.sum_cons]; omega
theorem exists_least (f : Int → Int) : ∀ {ks : List Int}, ks ≠ [] → ∃ a ∈ ks, ∀ b ∈ ks, f a ≤ f b
  | [], h => absurd rfl h
  | [k], _ => ⟨k, by simp, by simp⟩
  | k :: j :: ks, _ => by
    obtain ⟨a, ha, hm⟩ := exists_least f (ks := j :: ks) (by simp)
    by_cases z : f k ≤ f a
    · refine ⟨k, by simp, fun b hb => ?_⟩
      rcases List.mem_cons.mp hb with e | e
      · rw [e]; exact Int.le_refl _
      · exact Int.le_trans z (hm b e)
    · refine ⟨a, by simp [List.mem_cons.mp ha], fun b hb => ?_⟩
      rcases List.mem_cons.mp hb with e | e
      · rw [e]; omega
      · exact hm b e
/-- what lifts most: no other lot of as many lifts more -/
theorem top_best {n m : Nat} {f : Int → Int} {A S : List Int} (hA : Lot n m A) (hS : Lot n m S) (hm : 1 ≤ m) (ht : ∀ a ∈ A, ∀ b, Rng n b → b ∉ A → f b ≤ f a) : (S.map f).sum ≤ (A.map f).sum := by
  obtain ⟨a0, h0, hl⟩ := exists_least f (ks := A) (fun e => by have := hA.len; rw [e] at this; simp at this; omega)
  have h1 := sum_sub f (f a0) S
  have h2 := sum_sub f (f a0) A
  have h3 := sum_on (fun k => f k - f a0) S A hS.nd fun k hk => by have := hl k hk; show 0 ≤ f k - f a0; omega
  have h4 := sum_le_of (fun k => f k - f a0) (fun k => if k ∈ A then f k - f a0 else 0) S fun k hk => by
    show f k - f a0 ≤ if k ∈ A then f k - f a0 else 0
    by_cases z : k ∈ A
    · rw [if_pos z]; exact Int.le_refl _
    · rw [if_neg z]
      have := ht a0 h0 k (hS.rg k hk) z
      omega
  rw [hS.len] at h1
  rw [hA.len] at h2
  omega
theorem Top.le {n : Nat} {f : Int → Int} {A : List Int} (h : Top n f A) : ∀ a ∈ A, ∀ b, Rng n b → b ∉ A → f b ≤ f a := fun a ha b hb hn => by
  rcases h a ha b hb hn with z | ⟨z, _⟩ <;> omega
theorem lf_sum (rows : List Row) (P M : Int) : ∀ ks : List Int, (ks.map (lf rows P M)).sum = M * sp rows ks - P * sq rows ks
  | [] => by simp [sp, sq]
  | k :: ks => by
    rw [List.map_cons, List.sum_cons, lf_sum rows P M ks]
    unfold sp sq lf
    rw [List.map_cons, List.map_cons, List.sum_cons, List.sum_cons, Int.mul_add, Int.mul_add]
    omega
/-! ### the rows that lift most -/
def rng (n : Nat) : List Int := (List.range n).map fun i => (0 + (i : Nat) : Int)
theorem rng_mem {n : Nat} {k : Int} : k ∈ rng n ↔ Rng n k := by
  unfold rng Rng
  rw [List.mem_map]
  constructor
  · rintro ⟨i, hi, rfl⟩
    have := List.mem_range.mp hi
    omega
  · rintro ⟨h0, h1⟩
    exact ⟨k.toNat, List.mem_range.mpr (by omega), by omega⟩
theorem rng_lt (n : Nat) : (rng n).Pairwise (· < ·) := by
  unfold rng
  rw [List.pairwise_map]
  exact List.pairwise_lt_range.imp fun h => by omega
theorem rng_nodup (n : Nat) : (rng n).Nodup := (rng_lt n).imp fun h => by omega
theorem rng_length (n : Nat) : (rng n).length = n := by simp [rng]
def leK (p q : Int × Int) : Bool := decide (p.1 ≤ q.1)
theorem leK_trans (a b c : Int × Int) : leK a b = true → leK b c = true → leK a c = true := by
  unfold leK; simp only [decide_eq_true_eq]; omega
theorem leK_total (a b : Int × Int) : (leK a b || leK b a) = true := by
  unfold leK; simp only [Bool.or_eq_true, decide_eq_true_eq]; omega
theorem sort_eq (f : Int → Int) (n : Nat) : sortK ((rng n).map f) (rng n) = (((rng n).map fun k => (f k, k)).mergeSort leK).map (·.2) := by
  unfold sortK
  have e : ((rng n).map f).zip (rng n) = (rng n).map fun k => (f k, k) := by
    have h := List.zip_map' (f := f) (g := fun k : Int => k) (l := rng n)
    rwa [List.map_id'] at h
  rw [e]
  rfl
theorem sort_perm (f : Int → Int) (n : Nat) : (sortK ((rng n).map f) (rng n)).Perm (rng n) := by
  rw [sort_eq]
  have h := (List.mergeSort_perm ((rng n).map fun k => (f k, k)) leK).map (·.2)
  rw [List.map_map] at h
  have e : ((fun x : Int × Int => x.2) ∘ fun k => (f k, k)) = fun k => k := rfl
  rw [e, List.map_id'] at h
  exact h
theorem sort_order (f : Int → Int) (n : Nat) : (sortK ((rng n).map f) (rng n)).Pairwise fun a b => f a < f b ∨ f a = f b ∧ a < b := by
  have nd : (((rng n).map fun k => (f k, k)).mergeSort leK).Nodup := by
    rw [(List.mergeSort_perm _ leK).nodup_iff]
    exact List.pairwise_map.mpr ((rng_nodup n).imp fun h e => h (Prod.mk.inj e).2)
  have mem : ∀ p ∈ ((rng n).map fun k => (f k, k)).mergeSort leK, p = (f p.2, p.2) ∧ p.2 ∈ rng n := fun p hp => by
    obtain ⟨k, hk, rfl⟩ := List.mem_map.mp ((List.mergeSort_perm _ leK).mem_iff.mp hp)
    exact ⟨rfl, hk⟩
  rw [sort_eq, List.pairwise_map]
  have pw := List.pairwise_mergeSort (le := leK) leK_trans leK_total ((rng n).map fun k => (f k, k))
  rw [List.pairwise_iff_forall_sublist]
  intro p q hs
  have hle : leK p q = true := (List.pairwise_iff_forall_sublist.mp pw) hs
  have hp := mem p (hs.subset (by simp))
  have hq := mem q (hs.subset (by simp))
  have hle : f p.2 ≤ f q.2 := by
    rw [hp.1, hq.1] at hle
    exact of_decide_eq_true hle
  have hne : p ≠ q := fun e => by
    have := nd.sublist hs
    rw [e] at this
    simp at this
  have hne2 : p.2 ≠ q.2 := fun e => hne (by rw [hp.1, hq.1, e])
  by_cases z : f p.2 < f q.2
  · exact .inl z
  · refine .inr ⟨by omega, ?_⟩
    rcases Int.lt_or_gt_of_ne hne2 with w | w
    · exact w
    · exfalso
      have s1 : List.Sublist [q, p] ((rng n).map fun k => (f k, k)) := by
        have s0 : List.Sublist [q.2, p.2] (rng n) := by
          have : ∀ {l : List Int} {a b : Int}, l.Pairwise (· < ·) → a ∈ l → b ∈ l → a < b → List.Sublist [a, b] l := by
            intro l
            induction l with
            | nil => intro a b _ ha; cases ha
            | cons x l ih =>
              intro a b pw ha hb hab
              obtain ⟨p1, p2⟩ := List.pairwise_cons.mp pw
              rcases List.mem_cons.mp ha with e | e
              · subst e
                rcases List.mem_cons.mp hb with e2 | e2
                · omega
                · exact (List.singleton_sublist.mpr e2).cons_cons _
              · rcases List.mem_cons.mp hb with e2 | e2
                · have := p1 a e
                  omega
                · exact (ih p2 e e2 hab).cons _
          exact this (rng_lt n) hq.2 hp.2 w
        have := s0.map fun k => (f k, k)
        rw [List.map_cons, List.map_cons, List.map_nil] at this
        rwa [← hq.1, ← hp.1] at this
      have s2 := List.pair_sublist_mergeSort (le := leK) leK_trans leK_total (a := q) (b := p) (by rw [hp.1, hq.1]; exact decide_eq_true (by show f q.2 ≤ f p.2; omega)) s1
      have : ∀ {l : List (Int × Int)} {a b : Int × Int}, l.Nodup → List.Sublist [a, b] l → List.Sublist [b, a] l → False := by
        intro l
        induction l with
        | nil => intro a b _ h; cases h
        | cons x l ih =>
          intro a b nd h1 h2
          obtain ⟨n1, n2⟩ := List.nodup_cons.mp nd
          cases h1 with
          | cons _ h1 =>
            cases h2 with
            | cons _ h2 => exact ih n2 h1 h2
            | cons_cons _ h2 => exact n1 (h1.subset (by simp))
          | cons_cons _ h1 =>
            cases h2 with
            | cons _ h2 => exact n1 (h2.subset (by simp))
            | cons_cons _ h2 => exact n1 (h1.subset (by simp))
      exact this nd hs s2
/-- the so many that lift most, rising -/
def better (rows : List Row) (m : Nat) (P M : Int) : List Int := Dl.sortI ((sortK ((rng rows.length).map fun k => -lf rows P M k) (rng rows.length)).take m)
theorem better_lot {rows : List Row} {m : Nat} {P M : Int} (hm : m ≤ rows.length) : Lot rows.length m (better rows m P M) := by
  have p := sort_perm (fun k => -lf rows P M k) rows.length
  have p2 := @Dl.sortI_perm ⟨[]⟩ ((sortK ((rng rows.length).map fun k => -lf rows P M k) (rng rows.length)).take m)
  refine ⟨?_, ?_, fun k hk => ?_⟩
  · unfold better
    rw [p2.length_eq, List.length_take, p.length_eq, rng_length]
    omega
  · unfold better
    rw [p2.nodup_iff]
    exact (List.take_sublist ..).nodup (p.nodup_iff.mpr (rng_nodup _))
  · unfold better at hk
    exact rng_mem.mp (p.mem_iff.mp (List.mem_of_mem_take (p2.mem_iff.mp hk)))
theorem better_lt {rows : List Row} {m : Nat} {P M : Int} (hm : m ≤ rows.length) : (better rows m P M).Pairwise (· < ·) := by
  have h := @Dl.sortI_le ⟨[]⟩ ((sortK ((rng rows.length).map fun k => -lf rows P M k) (rng rows.length)).take m)
  have nd := (better_lot (P := P) (M := M) hm).nd
  have h2 : (better rows m P M).Pairwise fun a b => a ≤ b ∧ a ≠ b := List.Pairwise.and h nd
  exact h2.imp fun h => by omega
theorem better_top {rows : List Row} {m : Nat} {P M : Int} : Top rows.length (lf rows P M) (better rows m P M) := by
  intro a ha b hb hn
  have p := sort_perm (fun k => -lf rows P M k) rows.length
  have o := sort_order (fun k => -lf rows P M k) rows.length
  unfold better at ha hn
  have p2 := @Dl.sortI_perm ⟨[]⟩ ((sortK ((rng rows.length).map fun k => -lf rows P M k) (rng rows.length)).take m)
  have ha := p2.mem_iff.mp ha
  have hn : b ∉ (sortK ((rng rows.length).map fun k => -lf rows P M k) (rng rows.length)).take m := fun z => hn (p2.mem_iff.mpr z)
  have hb : b ∈ sortK ((rng rows.length).map fun k => -lf rows P M k) (rng rows.length) := p.mem_iff.mpr (rng_mem.mpr hb)
  rw [← List.take_append_drop m (sortK ((rng rows.length).map fun k => -lf rows P M k) (rng rows.length))] at hb o
  have hd := (List.mem_append.mp hb).resolve_left hn
  rcases (List.pairwise_append.mp o).2.2 a ha b hd with z | ⟨z, w⟩
  · exact .inl (by omega)
  · exact .inr ⟨by omega, w⟩
/-! ### optimality -/
structure RowsOk (rows : List Row) : Prop where
  len : 1 ≤ rows.length ∧ rows.length ≤ 12
  all : ∀ r ∈ rows, 0 ≤ r.1 ∧ r.1 ≤ r.2 ∧ 1 ≤ r.2 ∧ r.2 ≤ 100
theorem row_ok {rows : List Row} (h : RowsOk rows) {k : Int} (hk : Rng rows.length k) : 0 ≤ rp rows k ∧ rp rows k ≤ rq rows k ∧ 1 ≤ rq rows k ∧ rq rows k ≤ 100 := by
  unfold rp rq
  have hlt : k.toNat < rows.length := by have := hk.1; have := hk.2; omega
  rw [List.getD_eq_getElem?_getD, List.getElem?_eq_getElem hlt, Option.getD_some]
  exact h.all _ (List.getElem_mem hlt)
theorem sums_ok {rows : List Row} (h : RowsOk rows) : ∀ {ks : List Int}, (∀ k ∈ ks, Rng rows.length k) → 0 ≤ sp rows ks ∧ sp rows ks ≤ sq rows ks ∧ ks.length ≤ sq rows ks ∧ sq rows ks ≤ 100 * ks.length
  | [], _ => by simp [sp, sq]
  | k :: ks, hk => by
    have h1 := row_ok h (hk k (by simp))
    have h2 := sums_ok h (ks := ks) fun j hj => hk j (by simp [hj])
    unfold sp sq at *
    rw [List.map_cons, List.map_cons, List.sum_cons, List.sum_cons, List.length_cons]
    omega
theorem lot_len {n m : Nat} {ks : List Int} (h : Lot n m ks) : m ≤ n := by
  have := List.Nodup.length_le_of_subset h.nd (l₂ := rng n) fun k hk => rng_mem.mpr (h.rg k hk)
  rw [rng_length, h.len] at this
  exact this
/-- what is told: the kept rows -/
structure Kept (rows : List Row) (m : Nat) (ex : Int) (ks : List Int) : Prop where
  lot : Lot rows.length m ks
  fix : better rows m (sp rows ks + ex) (sq rows ks) = ks
theorem Kept.lt {rows : List Row} {m : Nat} {ex : Int} {ks : List Int} (h : Kept rows m ex ks) : ks.Pairwise (· < ·) := by
  rw [← h.fix]; exact better_lt (lot_len h.lot)
theorem Kept.top {rows : List Row} {m : Nat} {ex : Int} {ks : List Int} (h : Kept rows m ex ks) : Top rows.length (lf rows (sp rows ks + ex) (sq rows ks)) ks := by
  have := better_top (rows := rows) (m := m) (P := sp rows ks + ex) (M := sq rows ks)
  rwa [h.fix] at this
/-- no other lot has a greater mark -/
theorem Kept.best {rows : List Row} {m : Nat} {ex : Int} {ks S : List Int} (h : Kept rows m ex ks) (hm : 1 ≤ m) (hS : Lot rows.length m S) :
    (sp rows S + ex) * sq rows ks ≤ (sp rows ks + ex) * sq rows S := by
  have b := top_best h.lot hS hm h.top.le
  rw [lf_sum, lf_sum] at b
  have e1 : sq rows ks * sp rows S - (sp rows ks + ex) * sq rows S ≤ sq rows ks * sp rows ks - (sp rows ks + ex) * sq rows ks := b
  rw [Int.add_mul (sp rows ks) ex (sq rows ks), Int.mul_comm (sq rows ks) (sp rows ks)] at e1
  rw [Int.add_mul, Int.mul_comm (sp rows S)]
  omega
theorem lt_ext : ∀ {A B : List Int}, A.Pairwise (· < ·) → B.Pairwise (· < ·) → (∀ k, k ∈ A ↔ k ∈ B) → A = B
  | [], [], _, _, _ => rfl
  | [], b :: B, _, _, h => absurd ((h b).mpr (by simp)) (by simp)
  | a :: A, [], _, _, h => absurd ((h a).mp (by simp)) (by simp)
  | a :: A, b :: B, pa, pb, h => by
    obtain ⟨pa1, pa2⟩ := List.pairwise_cons.mp pa
    obtain ⟨pb1, pb2⟩ := List.pairwise_cons.mp pb
    have e : a = b := by
      have h1 := List.mem_cons.mp ((h a).mp (by simp))
      have h2 := List.mem_cons.mp ((h b).mpr (by simp))
      rcases h1 with h1 | h1
      · exact h1
      · rcases h2 with h2 | h2
        · exact h2.symm
        · have := pb1 a h1
          have := pa1 b h2
          omega
    subst e
    have := lt_ext pa2 pb2 fun k => by
      have hk := h k
      rw [List.mem_cons, List.mem_cons] at hk
      constructor
      · intro z
        rcases hk.mp (.inr z) with w | w
        · have := pa1 k z; omega
        · exact w
      · intro z
        rcases hk.mpr (.inr z) with w | w
        · have := pb1 k z; omega
        · exact w
    rw [this]
/-- by the same order the same are first -/
theorem top_uniq {n m : Nat} {f g : Int → Int} {A B : List Int} (hA : Lot n m A) (hB : Lot n m B) (tA : Top n f A) (tB : Top n g B) (h : ∀ a b, Bef f a b → ¬ Bef g b a) : ∀ k ∈ A, k ∈ B := by
  intro a ha
  apply Classical.byContradiction
  intro hn
  have : ∃ b ∈ B, b ∉ A := by
    apply Classical.byContradiction
    intro z
    have sub : B ⊆ A.erase a := fun b hb => by
      have hbA : b ∈ A := Classical.byContradiction fun y => z ⟨b, hb, y⟩
      exact (List.mem_erase_of_ne (fun (e : b = a) => hn (e ▸ hb))).mpr hbA
    have l := List.Nodup.length_le_of_subset hB.nd sub
    rw [List.length_erase_of_mem ha, hA.len, hB.len] at l
    have : 1 ≤ m := by
      rw [← hA.len]
      exact List.length_pos_of_mem ha
    omega
  obtain ⟨b, hb, hbn⟩ := this
  exact h a b (tA a ha b (hB.rg b hb) hbn) (tB b hb a (hA.rg a ha) hn)
/-- shares alike: the lifts are alike but for a factor -/
theorem bef_scale {rows : List Row} {P M P' M' : Int} (hM : 0 < M) (hM' : 0 < M') (e : P * M' = P' * M) (a b : Int) (h : Bef (lf rows P M) a b) : ¬ Bef (lf rows P' M') b a := by
  have key : ∀ k, lf rows P M k * M' = lf rows P' M' k * M := fun k => by
    unfold lf
    rw [Int.sub_mul, Int.sub_mul]
    have e1 : M * rp rows k * M' = M' * rp rows k * M := by rw [Int.mul_right_comm, Int.mul_comm M M', Int.mul_right_comm]
    have e2 : P * rq rows k * M' = P' * rq rows k * M := by rw [Int.mul_right_comm, e, Int.mul_right_comm]
    rw [e1, e2]
  have ka := key a
  have kb := key b
  have lt : ∀ x y, lf rows P M x < lf rows P M y → lf rows P' M' x < lf rows P' M' y := fun x y hxy => by
    have h1 : lf rows P M x * M' < lf rows P M y * M' := Int.mul_lt_mul_of_pos_right hxy hM'
    rw [key x, key y] at h1
    exact Int.lt_of_mul_lt_mul_right h1 (by omega)
  intro hg
  rcases h with h | ⟨h, hab⟩
  · have := lt _ _ h
    rcases hg with hg | ⟨hg, _⟩ <;> omega
  · have e' : lf rows P' M' a = lf rows P' M' b := by
      have h1 : lf rows P' M' a * M = lf rows P' M' b * M := by rw [← ka, ← kb, h]
      exact Int.eq_of_mul_eq_mul_right (by omega) h1
    rcases hg with hg | ⟨hg, hba⟩ <;> omega
theorem Kept.uniq {rows : List Row} {m : Nat} {ex : Int} {A B : List Int} (hr : RowsOk rows) (hm : 1 ≤ m) (hA : Kept rows m ex A) (hB : Kept rows m ex B) : A = B := by
  have b1 := hA.best hm hB.lot
  have b2 := hB.best hm hA.lot
  have sA := sums_ok hr hA.lot.rg
  have sB := sums_ok hr hB.lot.rg
  rw [hA.lot.len] at sA
  rw [hB.lot.len] at sB
  have e : (sp rows A + ex) * sq rows B = (sp rows B + ex) * sq rows A := by omega
  exact lt_ext hA.lt hB.lt fun k => ⟨top_uniq hA.lot hB.lot hA.top hB.top (bef_scale (by omega) (by omega) e) k, top_uniq hB.lot hA.lot hB.top hA.top (bef_scale (by omega) (by omega) e.symm) k⟩
/-! ### the loop ends -/
/-- a step never makes the mark less -/
theorem step_le {rows : List Row} {m : Nat} {ex : Int} {K : List Int} (hm : 1 ≤ m) (hK : Lot rows.length m K) :
    (sp rows K + ex) * sq rows (better rows m (sp rows K + ex) (sq rows K)) ≤ (sp rows (better rows m (sp rows K + ex) (sq rows K)) + ex) * sq rows K := by
  have hB := better_lot (rows := rows) (P := sp rows K + ex) (M := sq rows K) (lot_len hK)
  have b := top_best hB hK hm (better_top (P := sp rows K + ex) (M := sq rows K)).le
  rw [lf_sum, lf_sum] at b
  generalize better rows m (sp rows K + ex) (sq rows K) = B at *
  have e1 : sq rows K * sp rows K - (sp rows K + ex) * sq rows K ≤ sq rows K * sp rows B - (sp rows K + ex) * sq rows B := b
  rw [Int.add_mul (sp rows K) ex (sq rows K), Int.mul_comm (sq rows K) (sp rows K)] at e1
  rw [Int.add_mul (sp rows B), Int.mul_comm (sp rows B)]
  omega
/-- where it doesn't make it greater, the next one is the last -/
theorem step_eq {rows : List Row} {m : Nat} {ex : Int} {K : List Int} (hr : RowsOk rows) (hm : 1 ≤ m) (hK : Lot rows.length m K)
    (e : (sp rows K + ex) * sq rows (better rows m (sp rows K + ex) (sq rows K)) = (sp rows (better rows m (sp rows K + ex) (sq rows K)) + ex) * sq rows K) :
    Kept rows m ex (better rows m (sp rows K + ex) (sq rows K)) := by
  have hl := lot_len hK
  have hB := better_lot (rows := rows) (P := sp rows K + ex) (M := sq rows K) hl
  have tB := better_top (rows := rows) (m := m) (P := sp rows K + ex) (M := sq rows K)
  have ltB := better_lt (rows := rows) (P := sp rows K + ex) (M := sq rows K) hl
  generalize better rows m (sp rows K + ex) (sq rows K) = B at *
  have hC := better_lot (rows := rows) (P := sp rows B + ex) (M := sq rows B) hl
  have tC := better_top (rows := rows) (m := m) (P := sp rows B + ex) (M := sq rows B)
  have ltC := better_lt (rows := rows) (P := sp rows B + ex) (M := sq rows B) hl
  have sK := sums_ok hr hK.rg
  have sB := sums_ok hr hB.rg
  rw [hK.len] at sK
  rw [hB.len] at sB
  refine ⟨hB, lt_ext ltC ltB fun k => ⟨top_uniq hC hB tC tB (bef_scale (by omega) (by omega) e.symm) k, top_uniq hB hC tB tC (bef_scale (by omega) (by omega) e) k⟩⟩
/-- how far the mark is, in parts -/
def pot (rows : List Row) (ex : Int) (K : List Int) : Int := (sp rows K + ex) * 1440000 / sq rows K
theorem pot_lt {rows : List Row} {m : Nat} {ex : Int} {K B : List Int} (hr : RowsOk rows) (hm : 1 ≤ m) (hK : Lot rows.length m K) (hB : Lot rows.length m B) (h : (sp rows K + ex) * sq rows B < (sp rows B + ex) * sq rows K) : pot rows ex K < pot rows ex B := by
  have sK := sums_ok hr hK.rg
  have sB := sums_ok hr hB.rg
  have l12 := hr.len.2
  have lm := lot_len hK
  rw [hK.len] at sK
  rw [hB.len] at sB
  unfold pot
  generalize sp rows K + ex = P at *
  generalize sp rows B + ex = P' at *
  generalize sq rows K = M at *
  generalize sq rows B = M' at *
  have hM : 1 ≤ M ∧ M ≤ 1200 := by omega
  have hM' : 1 ≤ M' ∧ M' ≤ 1200 := by omega
  clear sK sB hr hK hB
  have hMM : M * M' ≤ 1440000 := by
    have := Int.mul_le_mul hM.2 hM'.2 (by omega) (by decide)
    omega
  -- P * D / M + 1 ≤ P' * D / M'
  have key : (P * 1440000 / M + 1) * M' ≤ P' * 1440000 := by
    have h1 : (P * 1440000 / M) * M ≤ P * 1440000 := Int.ediv_mul_le _ (by omega)
    have h2 : (P * 1440000 / M) * M * M' ≤ P * 1440000 * M' := Int.mul_le_mul_of_nonneg_right h1 (by omega)
    have h3 : P * M' + 1 ≤ P' * M := by omega
    have h4 : (P * M' + 1) * 1440000 ≤ P' * M * 1440000 := Int.mul_le_mul_of_nonneg_right h3 (by decide)
    have h5 : P * 1440000 * M' = P * M' * 1440000 := Int.mul_right_comm ..
    have h6 : ((P * 1440000 / M + 1) * M') * M = (P * 1440000 / M) * M * M' + M * M' := by
      rw [Int.add_mul, Int.one_mul, Int.add_mul, Int.mul_right_comm, Int.mul_comm M' M]
    have h7 : P' * M * 1440000 = P' * 1440000 * M := Int.mul_right_comm ..
    have h8 : ((P * 1440000 / M + 1) * M') * M ≤ (P' * 1440000) * M := by omega
    exact Int.le_of_mul_le_mul_right h8 (by omega)
  have := Int.le_ediv_of_mul_le (by omega) key
  omega
theorem pot_le {rows : List Row} {m : Nat} {ex : Int} {K : List Int} (hr : RowsOk rows) (hm : 1 ≤ m) (he : 0 ≤ ex) (hK : Lot rows.length m K) : pot rows ex K ≤ (1200 + ex) * 1440000 := by
  have sK := sums_ok hr hK.rg
  have l12 := hr.len.2
  have lm := lot_len hK
  rw [hK.len] at sK
  unfold pot
  have h1 : (sp rows K + ex) * 1440000 / sq rows K ≤ (sp rows K + ex) * 1440000 := Int.ediv_le_self _ (by omega)
  omega
/-! ### the whole: what changes how -/
theorem lot_erase {n m : Nat} {A : List Int} {a : Int} (h : Lot n (m + 1) A) (ha : a ∈ A) : Lot n m (A.erase a) :=
  ⟨by rw [List.length_erase_of_mem ha, h.len]; rfl, h.nd.erase a, fun k hk => h.rg k (List.mem_of_mem_erase hk)⟩
theorem sp_erase {rows : List Row} {A : List Int} {a : Int} (ha : a ∈ A) : sp rows A = rp rows a + sp rows (A.erase a) := by
  unfold sp
  rw [sum_perm ((List.perm_cons_erase ha).map (rp rows)), List.map_cons, List.sum_cons]
theorem sq_erase {rows : List Row} {A : List Int} {a : Int} (ha : a ∈ A) : sq rows A = rq rows a + sq rows (A.erase a) := by
  unfold sq
  rw [sum_perm ((List.perm_cons_erase ha).map (rq rows)), List.map_cons, List.sum_cons]
theorem sum_ge {f : Int → Int} {t : Int} : ∀ {ks : List Int}, (∀ k ∈ ks, t ≤ f k) → ks.length * t ≤ (ks.map f).sum
  | [], _ => by simp
  | k :: ks, h => by
    have h1 := h k (by simp)
    have h2 := sum_ge (f := f) (t := t) (ks := ks) fun j hj => h j (by simp [hj])
    rw [List.map_cons, List.sum_cons, List.length_cons, Int.natCast_succ, Int.add_mul, Int.one_mul]
    omega
/-- one more is dropped -/
theorem Kept.drop {rows : List Row} {m : Nat} {ex : Int} {A B : List Int} (hr : RowsOk rows) (he : 0 ≤ ex) (hm : 1 ≤ m) (hA : Kept rows (m + 1) ex A) (hB : Kept rows m ex B) :
    (sp rows A + ex) * sq rows B ≤ (sp rows B + ex) * sq rows A := by
  obtain ⟨a, ha, hl⟩ := exists_least (lf rows (sp rows A + ex) (sq rows A)) (ks := A) (fun e => by have := hA.lot.len; rw [e] at this; simp at this)
  have hT := lot_erase hA.lot ha
  have hS := hA.lot.len
  have sA := sums_ok hr hA.lot.rg
  have sB := sums_ok hr hB.lot.rg
  have sT := sums_ok hr hT.rg
  rw [hA.lot.len] at sA
  rw [hB.lot.len] at sB
  rw [hT.len] at sT
  have e1 := lf_sum rows (sp rows A + ex) (sq rows A) A
  have g := sum_ge hl
  rw [e1, hA.lot.len] at g
  have la : lf rows (sp rows A + ex) (sq rows A) a ≤ 0 := by
    have e2 : sq rows A * sp rows A - (sp rows A + ex) * sq rows A = -(ex * sq rows A) := by
      rw [Int.add_mul, Int.mul_comm (sq rows A)]; omega
    have h0 : 0 ≤ ex * sq rows A := Int.mul_nonneg he (by omega)
    rw [e2] at g
    rcases Int.lt_or_le 0 (lf rows (sp rows A + ex) (sq rows A) a) with z | z
    · exfalso
      have : 0 < ((m + 1 : Nat) : Int) * lf rows (sp rows A + ex) (sq rows A) a := Int.mul_pos (by omega) z
      omega
    · exact z
  have h1 := sp_erase (rows := rows) ha
  have h2 := sq_erase (rows := rows) ha
  have b := hB.best hm hT
  have l1 : (sp rows A + ex) * sq rows (A.erase a) ≤ sq rows A * (sp rows (A.erase a) + ex) := by
    unfold lf at la
    have e3 : sq rows A * (sp rows (A.erase a) + ex) = sq rows A * (sp rows A + ex) - sq rows A * rp rows a := by
      rw [← Int.mul_sub]; congr 1; omega
    have e4 : (sp rows A + ex) * sq rows (A.erase a) = (sp rows A + ex) * sq rows A - (sp rows A + ex) * rq rows a := by
      rw [← Int.mul_sub]; congr 1; omega
    rw [e3, e4, Int.mul_comm (sq rows A) (sp rows A + ex)]
    omega
  generalize sp rows A + ex = P at *
  generalize sp rows (A.erase a) + ex = PT at *
  generalize sp rows B + ex = PB at *
  generalize sq rows A = M at *
  generalize sq rows B = MB at *
  generalize sq rows (A.erase a) = MT at *
  have k1 : P * MT * MB ≤ M * PT * MB := Int.mul_le_mul_of_nonneg_right l1 (by omega)
  have k2 : PT * MB * M ≤ PB * MT * M := Int.mul_le_mul_of_nonneg_right b (by omega)
  have k3 : M * PT * MB = PT * MB * M := by rw [Int.mul_comm M PT, Int.mul_right_comm]
  have k4 : P * MT * MB = P * MB * MT := Int.mul_right_comm ..
  have k5 : PB * MT * M = PB * M * MT := Int.mul_right_comm ..
  have k6 : P * MB * MT ≤ PB * M * MT := by omega
  exact Int.le_of_mul_le_mul_right k6 (by omega)
/-- better rows, more extra points -/
theorem Kept.mono {rows rows' : List Row} {m : Nat} {ex ex' : Int} {A B : List Int} (hr' : RowsOk rows') (hm : 1 ≤ m) (hn : rows'.length = rows.length) (hp : ∀ k, rp rows k ≤ rp rows' k) (hq : ∀ k, rq rows' k = rq rows k) (he : ex ≤ ex')
    (hA : Kept rows m ex A) (hB : Kept rows' m ex' B) : (sp rows A + ex) * sq rows' B ≤ (sp rows' B + ex') * sq rows A := by
  have hA' : Lot rows'.length m A := by rw [hn]; exact hA.lot
  have b := hB.best hm hA'
  have s1 : sp rows A ≤ sp rows' A := sum_le_of _ _ A fun k _ => hp k
  have s2 : sq rows' A = sq rows A := by
    unfold sq
    rw [List.map_congr_left fun k _ => hq k]
  have sB := sums_ok hr' hB.lot.rg
  rw [s2] at b
  have : (sp rows A + ex) * sq rows' B ≤ (sp rows' A + ex') * sq rows' B := Int.mul_le_mul_of_nonneg_right (by omega) (by omega)
  omega
theorem rp_rev {rows : List Row} {k : Int} (h : Rng rows.length k) : rp rows.reverse (rows.length - 1 - k) = rp rows k ∧ rq rows.reverse (rows.length - 1 - k) = rq rows k := by
  obtain ⟨h0, h1⟩ := h
  have e : rows.reverse[((rows.length : Int) - 1 - k).toNat]? = rows[k.toNat]? := by
    rw [List.getElem?_reverse (by omega)]
    congr 1
    omega
  unfold rp rq
  rw [List.getD_eq_getElem?_getD, List.getD_eq_getElem?_getD, e]
  exact ⟨rfl, rfl⟩
theorem lot_rev {rows : List Row} {m : Nat} {A : List Int} (h : Lot rows.length m A) : Lot rows.reverse.length m (A.map fun k => (rows.length : Int) - 1 - k) := by
  refine ⟨by rw [List.length_map]; exact h.len, List.pairwise_map.mpr (h.nd.imp fun {a b} z e => z (by omega)), fun k hk => ?_⟩
  obtain ⟨j, hj, rfl⟩ := List.mem_map.mp hk
  obtain ⟨h0, h1⟩ := h.rg j hj
  rw [List.length_reverse]
  exact ⟨by omega, by omega⟩
theorem sums_rev {rows : List Row} {A : List Int} (h : ∀ k ∈ A, Rng rows.length k) : sp rows.reverse (A.map fun k => (rows.length : Int) - 1 - k) = sp rows A ∧ sq rows.reverse (A.map fun k => (rows.length : Int) - 1 - k) = sq rows A := by
  unfold sp sq
  rw [List.map_map, List.map_map]
  exact ⟨congrArg _ (List.map_congr_left fun k hk => (rp_rev (h k hk)).1), congrArg _ (List.map_congr_left fun k hk => (rp_rev (h k hk)).2)⟩
theorem Kept.rev {rows : List Row} {m : Nat} {ex : Int} {A B : List Int} (hm : 1 ≤ m) (hA : Kept rows m ex A) (hB : Kept rows.reverse m ex B) : (sp rows.reverse B + ex) * sq rows A = (sp rows A + ex) * sq rows.reverse B := by
  have b1 := hB.best hm (lot_rev hA.lot)
  rw [(sums_rev hA.lot.rg).1, (sums_rev hA.lot.rg).2] at b1
  have hB' := lot_rev hB.lot
  rw [List.reverse_reverse] at hB'
  have b2 := hA.best hm hB'
  have e := sums_rev hB.lot.rg
  rw [List.reverse_reverse] at e
  rw [e.1, e.2] at b2
  omega
def twice (rows : List Row) : List Row := rows.map fun r => (r.1 * 2, r.2 * 2)
theorem rp_twice (rows : List Row) (k : Int) : rp (twice rows) k = 2 * rp rows k ∧ rq (twice rows) k = 2 * rq rows k := by
  unfold rp rq twice
  rw [List.getD_eq_getElem?_getD, List.getD_eq_getElem?_getD, List.getElem?_map]
  cases rows[k.toNat]? with
  | none => exact ⟨rfl, rfl⟩
  | some r => exact ⟨by simp only [Option.map_some, Option.getD_some]; omega, by simp only [Option.map_some, Option.getD_some]; omega⟩
theorem sum_twice (f g : Int → Int) (h : ∀ k, f k = 2 * g k) : ∀ ks : List Int, (ks.map f).sum = 2 * (ks.map g).sum
  | [] => rfl
  | k :: ks => by rw [List.map_cons, List.sum_cons, sum_twice f g h ks, List.map_cons, List.sum_cons, h k]; omega
theorem sums_twice (rows : List Row) (ks : List Int) : sp (twice rows) ks = 2 * sp rows ks ∧ sq (twice rows) ks = 2 * sq rows ks :=
  ⟨sum_twice _ _ (fun k => (rp_twice rows k).1) ks, sum_twice _ _ (fun k => (rp_twice rows k).2) ks⟩
theorem Kept.half {rows : List Row} {m : Nat} {ex : Int} {B : List Int} (hB : Kept (twice rows) m (2 * ex) B) : Kept rows m ex B := by
  have hn : (twice rows).length = rows.length := by simp [twice]
  have hL := hB.lot
  rw [hn] at hL
  have hl := lot_len hL
  have tB := hB.top
  rw [hn] at tB
  have hC := better_lot (rows := rows) (P := sp rows B + ex) (M := sq rows B) hl
  have tC := better_top (rows := rows) (m := m) (P := sp rows B + ex) (M := sq rows B)
  have ltC := better_lt (rows := rows) (P := sp rows B + ex) (M := sq rows B) hl
  have key : ∀ k, lf (twice rows) (sp (twice rows) B + 2 * ex) (sq (twice rows) B) k = 4 * lf rows (sp rows B + ex) (sq rows B) k := fun k => by
    unfold lf
    rw [(sums_twice rows B).1, (sums_twice rows B).2, (rp_twice rows k).1, (rp_twice rows k).2, show 2 * sp rows B + 2 * ex = 2 * (sp rows B + ex) by omega, Int.mul_assoc 2, Int.mul_assoc 2, Int.mul_left_comm (sq rows B) 2, Int.mul_left_comm (sp rows B + ex) 2]
    omega
  refine ⟨hL, lt_ext ltC hB.lt fun k => ⟨top_uniq hC hL tC tB (fun a b h1 h2 => ?_) k, top_uniq hL hC tB tC (fun a b h1 h2 => ?_) k⟩⟩
  · unfold Bef at h1 h2
    rw [key, key] at h2
    omega
  · unfold Bef at h1 h2
    rw [key, key] at h1
    omega
end Km
set_option Elab.async false
set_option linter.all false
set_option maxRecDepth 100000
set_option maxHeartbeats 4000000
/-! ## DK. rows as data; numbers told by what makes them -/
namespace Dl
open PySem PySem.Spec PyProof.Rows L2 Cm Sk
variable [Tb : Tbls]
def rowD (r : Km.Row) : D := .tup [.int r.1, .int r.2]
class RowsC (ds : List D) (rows : outParam (List Km.Row)) : Prop where
  eq : ds = rows.map rowD
instance {rows : List Km.Row} : RowsC (rows.map rowD) rows := ⟨rfl⟩
instance {α : Type} {g : α → Km.Row} {xs : List α} : RowsC (xs.map fun x => rowD (g x)) (xs.map g) := ⟨by rw [List.map_map]; rfl⟩
instance {ds : List D} {rows : List Km.Row} [h : RowsC ds rows] : RowsC ds.reverse rows.reverse := ⟨by rw [h.eq, List.map_reverse]⟩
class RowC (d : D) (r : outParam Km.Row) : Prop where
  eq : d = rowD r
instance {r : Km.Row} : RowC (rowD r) r := ⟨rfl⟩
instance {a b : Int} : RowC (.tup [.int a, .int b]) (a, b) := ⟨rfl⟩
theorem plain_rows : ∀ rows : List Km.Row, plainAll (rows.map rowD) = true
  | [] => rfl
  | r :: rs => by rw [List.map_cons]; unfold plainAll; rw [plain_rows rs]; rfl
theorem noDct_rows : ∀ rows : List Km.Row, noDctAll (rows.map rowD) = true
  | [] => rfl
  | r :: rs => by rw [List.map_cons]; unfold noDctAll; rw [noDct_rows rs]; rfl
section
variable {α : Type} {g : α → Int} {b : α → Bool} {xs : List α}
instance : IntsD (xs.map fun x => D.int (g x)) (xs.map g) := ⟨by rw [List.map_map]; rfl⟩
instance : BlsD (xs.map fun x => D.bl (b x)) (xs.map b) := ⟨by rw [List.map_map]; rfl⟩
instance {ds : List D} {ns : List Int} {n : Nat} [h : IntsD ds ns] : IntsD (ds.take n) (ns.take n) := ⟨by rw [h.eq, List.map_take]⟩
instance {ks : List Int} {n : Nat} : IntsD (sortK ks (rngD 0 n)) (sortK ks (Km.rng n)) := ⟨by
  rw [← sortK_map]
  congr 1
  unfold rngD Km.rng
  rw [List.map_map]; rfl⟩
instance {n : Nat} : IntsD (rngD 0 n) (Km.rng n) := ⟨by unfold rngD Km.rng; rw [List.map_map]; rfl⟩
end
theorem noDct_intsT : ∀ ns : List Int, noDctAll (ns.map D.int) = true
  | [] => rfl
  | n :: ns => by rw [List.map_cons]; unfold noDctAll; rw [noDct_intsT ns]; rfl
theorem plain_intsT : ∀ ns : List Int, plainAll (ns.map D.int) = true
  | [] => rfl
  | n :: ns => by rw [List.map_cons]; unfold plainAll; rw [plain_intsT ns]; rfl
theorem py_intsT (ns : List Int) : py (.tup (ns.map D.int)) = .tuple (ns.map PyData.int) := by
  simp only [py, pyAll_map, List.map_map]
  rfl
theorem py_intsL (ns : List Int) : py (.lst (ns.map D.int)) = .list (ns.map PyData.int) := by
  simp only [py, pyAll_map, List.map_map]
  rfl
theorem shp_intsK (n : Nat) (ns : List Int) : (ns.map D.int).all (shp n) = true := by
  rw [List.all_map, List.all_eq_true]
  intro x _
  cases n <;> rfl
theorem eqOk_intsT (ns : List Int) : eqOk (.tup (ns.map D.int)) := eqOk_shp (n := 1) (by unfold shp; exact shp_intsK 0 ns)
theorem eqOk_intsL (ns : List Int) : eqOk (.lst (ns.map D.int)) := eqOk_shp (n := 1) (by unfold shp; exact shp_intsK 0 ns)
theorem eqvAll_ints (ns ms : List Int) : PyData.eqvAll (ns.map PyData.int) (ms.map PyData.int) = decide (ns = ms) := by
  have h := ints_eqv ns ms
  exact h
theorem eqD_intsT (ns ms : List Int) : eqD (.tup (ns.map D.int)) (.tup (ms.map D.int)) = decide (ns = ms) := by
  unfold eqD
  rw [py_intsT, py_intsT]
  simp only [PyData.eqv]
  exact eqvAll_ints ns ms
theorem eqD_intsL (ns ms : List Int) : eqD (.lst (ns.map D.int)) (.lst (ms.map D.int)) = decide (ns = ms) := by
  unfold eqD
  rw [py_intsL, py_intsL]
  simp only [PyData.eqv]
  exact eqvAll_ints ns ms
section
variable {K : PySem.W.Frag} {ρ : Rho} {μ : Mu} {Q : QD} {ds es : List D} {ns ms : List Int}
instance (priority := 3000) [h : IntsD ds ns] [h2 : IntsD es ms] : Stp (dEq (.d (.tup ds)) (.d (.tup es)) μ Q) (Q (.d (.bl (decide (ns = ms)))) μ) := ⟨fun z => ⟨_, _, rfl, rfl, .inr (by
  rw [h.eq, h2.eq, eqD_intsT]; exact ⟨eqOk_intsT _, eqOk_intsT _, z⟩)⟩⟩
instance (priority := 3000) [h : IntsD ds ns] [h2 : IntsD es ms] : Stp (dNe (.d (.tup ds)) (.d (.tup es)) μ Q) (Q (.d (.bl (!decide (ns = ms)))) μ) := ⟨fun z => ⟨_, _, rfl, rfl, .inr (by
  rw [h.eq, h2.eq, eqD_intsT]; exact ⟨eqOk_intsT _, eqOk_intsT _, z⟩)⟩⟩
instance (priority := 3000) [h : IntsD ds ns] [h2 : IntsD es ms] : Stp (dEq (.d (.lst ds)) (.d (.lst es)) μ Q) (Q (.d (.bl (decide (ns = ms)))) μ) := ⟨fun z => ⟨_, _, rfl, rfl, .inr (by
  rw [h.eq, h2.eq, eqD_intsL]; exact ⟨eqOk_intsL _, eqOk_intsL _, z⟩)⟩⟩
instance (priority := 3000) [h : IntsD ds ns] [h2 : IntsD es ms] : Stp (dNe (.d (.lst ds)) (.d (.lst es)) μ Q) (Q (.d (.bl (!decide (ns = ms)))) μ) := ⟨fun z => ⟨_, _, rfl, rfl, .inr (by
  rw [h.eq, h2.eq, eqD_intsL]; exact ⟨eqOk_intsL _, eqOk_intsL _, z⟩)⟩⟩
/-- a row by its number -/
instance (priority := 3000) {i : Int} {rows : List Km.Row} [h : RowsC ds rows] : Stp (dIx (.d (.tup ds)) (.d (.int i)) μ Q) (0 ≤ i ∧ i < rows.length ∧ Q (.d (.tup [.int (Km.rp rows i), .int (Km.rq rows i)])) μ) := ⟨fun ⟨h0, h1, q⟩ => by
  have hlt : i.toNat < rows.length := by omega
  refine ⟨i, rfl, .inl ⟨_, ds, rowD rows[i.toNat], rfl, rfl, ?_, ?_⟩⟩
  · have e : (rows.map rowD)[i.toNat]? = some (rowD rows[i.toNat]) := by rw [List.getElem?_map, List.getElem?_eq_getElem hlt]; rfl
    have e2 := atI_nat e
    rw [show ((i.toNat : Nat) : Int) = i by omega] at e2
    rw [h.eq]; exact e2
  · have e : rowD rows[i.toNat] = .tup [.int (Km.rp rows i), .int (Km.rq rows i)] := by
      unfold rowD Km.rp Km.rq
      rw [List.getD_eq_getElem?_getD, List.getElem?_eq_getElem hlt]; rfl
    rw [e]; exact q⟩
/-- parts by places -/
class CutNo (a b : Option Int) : Prop where
instance (priority := 2500) {i : Int} [h : IntsD ds ns] : Stp (dCut (.d (.lst ds)) none (some i) μ Q) (0 ≤ i ∧ Q (.d (.lst ((ns.take i.toNat).map .int))) μ) := ⟨fun ⟨h0, q⟩ => .inr (.inl ⟨ds, rfl, by rw [cutD_take h0, h.eq, ← List.map_take]; exact q⟩)⟩
instance (priority := 2500) {i : Int} {rows : List Km.Row} [h : RowsC ds rows] : Stp (dCut (.d (.tup ds)) none (some i) μ Q) (0 ≤ i ∧ Q (.d (.tup ((rows.take i.toNat).map rowD))) μ) := ⟨fun ⟨h0, q⟩ => .inl ⟨ds, rfl, by rw [cutD_take h0, h.eq, ← List.map_take]; exact q⟩⟩
instance (priority := 2500) {i : Int} {rows : List Km.Row} [h : RowsC ds rows] : Stp (dCut (.d (.tup ds)) (some i) none μ Q) (0 ≤ i ∧ Q (.d (.tup ((rows.drop i.toNat).map rowD))) μ) := ⟨fun ⟨h0, q⟩ => .inl ⟨ds, rfl, by rw [cutD_drop h0, h.eq, ← List.map_drop]; exact q⟩⟩
instance {rows rows' : List Km.Row} [h : RowsC ds rows] [h2 : RowsC es rows'] : RowsC (ds ++ es) (rows ++ rows') := ⟨by rw [h.eq, h2.eq, List.map_append]⟩
instance {a b : Int} : RowsC [.tup [.int a, .int b]] [(a, b)] := ⟨rfl⟩
end
instance {n : Str} {i : Nat} {cap : List (Str × Nat)} {ρ : Rho} {s : S} [h : LGet i ρ (some s)] : LGet 0 (captD ((n, i) :: cap) ρ) (some s) := ⟨by
  unfold captD
  rw [List.map_cons, List.getElem?_cons_zero, h.eq]; rfl⟩
instance {p : Str × Nat} {k : Nat} {cap : List (Str × Nat)} {ρ : Rho} {x : Option S} [h : LGet k (captD cap ρ) x] : LGet (k + 1) (captD (p :: cap) ρ) x := ⟨by
  unfold captD
  rw [List.map_cons, List.getElem?_cons_succ]; exact h.eq⟩
theorem shp_rows (n : Nat) (rows : List Km.Row) : (rows.map rowD).all (shp (n + 1)) = true := by
  rw [List.all_map, List.all_eq_true]
  intro x _
  show shp (n + 1) (.tup [.int x.1, .int x.2]) = true
  unfold shp
  cases n <;> rfl
theorem eqOk_rows (rows : List Km.Row) : eqOk (.tup (rows.map rowD)) := eqOk_shp (n := 2) (by unfold shp; exact shp_rows 0 rows)
theorem eqD_rows_nil (rows : List Km.Row) : eqD (.tup (rows.map rowD)) (.tup []) = rows.isEmpty := by
  cases rows with
  | nil => rfl
  | cons r rs => rfl
instance (priority := 2500) {μ : Mu} {Q : QD} {ds : List D} {rows : List Km.Row} [h : RowsC ds rows] : Stp (dNe (.d (.tup ds)) (.d (.tup [])) μ Q) (Q (.d (.bl (!rows.isEmpty))) μ) := ⟨fun z => ⟨_, _, rfl, rfl, .inr (by
  rw [h.eq, eqD_rows_nil]; exact ⟨eqOk_rows _, eqOk_shp (n := 1) rfl, z⟩)⟩⟩
theorem rows_twice (xs : List Km.Row) : xs.map (fun r => rowD (r.1 * 2, r.2 * 2)) = (Km.twice xs).map rowD := by
  unfold Km.twice
  rw [List.map_map]; rfl
theorem rows_same (xs : List Km.Row) : xs.map (fun r => rowD (r.1, r.2)) = xs.map rowD := rfl
theorem rows_put {rows : List Km.Row} {a b m : Int} (h0 : 0 ≤ a) (h1 : a < rows.length) : List.map rowD (List.take a.toNat rows) ++ [D.tup [D.int b, D.int m]] ++ List.map rowD (List.drop (a + 1).toNat rows) = (rows.set a.toNat (b, m)).map rowD := by
  rw [List.set_eq_take_append_cons_drop, if_pos (by omega), show (a + 1).toNat = a.toNat + 1 by omega, List.map_append, List.map_cons, List.append_assoc]
  rfl
end Dl
set_option Elab.async false
set_option linter.all false
set_option maxRecDepth 100000
set_option maxHeartbeats 4000000
/-! ## DS. sorted of data that are alike -/
namespace Dl
open PySem PySem.Spec PyProof.Rows L2 Cm
def rSortD (K : PySem.W.Frag) : List V → Hp → VK → Prop := fun vs H Q => ∃ (a : Addr) (xs : List V) (ds : List PyData), vs = [.ref a] ∧ SqL K H a xs ∧ DpAll K H xs ds ∧ PySem.W.AllAlike ds ∧ PySem.W.Sortable ds ∧ (∀ d ∈ ds, d.depth ≤ 32) ∧
  ∀ p, H p = none → Q (.ref p) (upd H p (.lst (((xs.zip ds).mergeSort (PySem.W.dataLe false Prod.snd)).map Prod.fst)))
section
variable {X : Cx} {pins : List (Addr × Obj)} {σ : L2.St} {H : Hp} {s : Shared}
theorem dp_len {K : PySem.W.Frag} {H : Hp} : ∀ {xs : List V} {ds : List PyData}, DpAll K H xs ds → xs.length = ds.length
  | _, _, .nil => rfl
  | _, _, .cons _ r => by rw [List.length_cons, List.length_cons, dp_len r]
theorem each_dp (I : Inv X pins σ H s) : ∀ {xs : List V} {ds : List PyData} {us : List Value}, Vals xs us → DpAll X.K H xs ds → PySem.W.EachIs (fun u (b : V × PyData) => RelV b.1 u ∧ ∃ as, Reads s.heap u b.2 as) us (xs.zip ds)
  | _, _, _, .nil, .nil => .nil
  | _, _, _, .cons r rs, .cons d ds => .cons ⟨r, Dp.reads I _ _ _ d r⟩ (each_dp I rs ds)
theorem each_vals : ∀ {us : List Value} {bs : List (V × PyData)}, PySem.W.EachIs (fun u (b : V × PyData) => RelV b.1 u) us bs → Vals (bs.map Prod.fst) us
  | _, _, .nil => .nil
  | _, _, .cons r rs => .cons r (each_vals rs)
theorem zip_snd {α β : Type} : ∀ {xs : List α} {ds : List β}, xs.length = ds.length → (xs.zip ds).map Prod.snd = ds
  | [], [], _ => rfl
  | x :: xs, d :: ds, h => by
    rw [List.zip_cons_cons, List.map_cons, zip_snd (by simpa using h)]
theorem cr_sortD (hu : X.A.units + 64 < cLine) : CallR X (.builtin "sorted") (rSortD X.K) := by
  intro pins s σ H vs us Q I r h
  obtain ⟨a, xs, ds, rfl, hs, hd, hal, hk, hdep, q⟩ := h
  obtain ⟨its, rv, hl, hz⟩ := I.list hs
  rw [Vals.ref1 r]
  have e := each_dp I rv hd
  have ez : (xs.zip ds).map Prod.snd = ds := zip_snd (dp_len hd)
  have lz : (xs.zip ds).length = xs.length := by rw [List.length_zip, (dp_len hd), Nat.min_self]
  refine PySem.W.sorted_data (enc := Prod.snd) (R := fun u (b : V × PyData) => RelV b.1 u) (bs := xs.zip ds) hl.isList (e.mono fun _ _ z => z.1) (e.mono fun _ _ z => z.2) (by rw [ez]; exact hal) (by rw [ez]; exact hk) (by rw [lz]; exact hz) (fun b hb => ?_) fun out hlen ho => ?_
  · have hm : b.2 ∈ ds := by rw [← ez]; exact List.mem_map.mpr ⟨b, hb, rfl⟩
    have := hdep _ hm
    omega
  · obtain ⟨ep, he'⟩ := PyProof.Rows.sortedAll_at s.heap its out.toArray
    have hln : (((xs.zip ds).mergeSort (PySem.W.dataLe false Prod.snd)).map Prod.fst).length ≤ sizeLine := by
      rw [List.length_map, List.length_mergeSort, lz]; exact hz
    exact ⟨.ref _, upd H (s.heap.objs.size + 1) (.lst (((xs.zip ds).mergeSort (PySem.W.dataLe false Prod.snd)).map Prod.fst)), I.laid (t' := s.toks) (fun _ _ => PyProof.Rows.sortedAll_old) (Nat.le_succ _) ⟨hln, out, ep, each_vals ho, he'⟩, rfl, q _ (I.hok.fresh (Nat.le_succ _))⟩
def rSortedA (K : PySem.W.Frag) : List V → Hp → VK → Prop := fun xs H Q => rSorted K xs H Q ∨ rSortD K xs H Q
theorem cr_sortedA (hu : X.A.units + 64 < cLine) : CallR X (.builtin "sorted") (rSortedA X.K) := callOr cr_sorted (cr_sortD hu)
end
variable [Tb : Tbls]
/-- the order of data -/
def leD (a b : D) : Bool := !PySem.W.dataLt (py b) (py a)
structure SortOk (ds : List D) : Prop where
  pl : plainAll ds = true
  nd : noDctAll ds = true
  al : PySem.W.AllAlike (ds.map py)
  so : PySem.W.Sortable (ds.map py)
  de : ∀ d ∈ ds, (py d).depth ≤ 32
theorem sort_map {α β : Type} (f : α → β) (r : β → β → Bool) (xs : List α) : (xs.map f).mergeSort r = (xs.mergeSort fun a b => r (f a) (f b)).map f := by
  rw [← List.map_mergeSort (r := fun a b => r (f a) (f b)) (s := r) (f := f) fun _ _ _ _ => rfl]
section
variable {K : PySem.W.Frag} {N : Addr → Prop} {M : Ms} {H : Hp} {μ : Mu}
theorem zip_map_right {α β γ : Type} (f : β → γ) : ∀ (xs : List α) (ys : List β), xs.zip (ys.map f) = (xs.zip ys).map fun p => (p.1, f p.2)
  | [], _ => by simp
  | _ :: _, [] => by simp
  | x :: xs, y :: ys => by rw [List.map_cons, List.zip_cons_cons, zip_map_right f xs ys]; rfl
theorem IsAll.sortD {vs : List V} {ds : List D} (h : IsAll K N H vs ds) : IsAll K N H (((vs.zip (ds.map py)).mergeSort (PySem.W.dataLe false Prod.snd)).map Prod.fst) (ds.mergeSort leD) := by
  obtain ⟨h1, h2, h3⟩ := h.zips
  have e1 : ((vs.zip (ds.map py)).mergeSort (PySem.W.dataLe false Prod.snd)).map Prod.fst = ((vs.zip ds).mergeSort fun a b => leD a.2 b.2).map Prod.fst := by
    rw [zip_map_right, sort_map, List.map_map]; rfl
  have e2 : ds.mergeSort leD = ((vs.zip ds).mergeSort fun a b => leD a.2 b.2).map Prod.snd := by
    conv => lhs; rw [← h3]
    rw [sort_map]
  rw [e1, e2]
  exact IsAll.pairs (f := fun z : V × D => z.1) (g := fun z : V × D => z.2) fun z hz => h1 z (by rwa [List.mem_mergeSort] at hz)
end
def dSortD : List S → Mu → (List D → Mu → Prop) → Prop := fun ss μ Q => ∃ (x : S) (ds : List D), ss = [x] ∧ lstS x μ = some ds ∧ SortOk ds ∧ Q (ds.mergeSort leD) μ
def dSortedA : List S → Mu → (List D → Mu → Prop) → Prop := fun ss μ Q => dSorted ss μ Q ∨ dSortD ss μ Q
section
variable {K : PySem.W.Frag}
theorem pyAll_eq (ds : List D) : pyAll ds = ds.map py := by
  induction ds with
  | nil => rfl
  | cons d ds ih => unfold pyAll; rw [ih]; rfl
instance rSortedA_n : CallN K (rSortedA K) dSortedA where
  go := by
    intro N M H μ vs ss Qd Qv st r h c
    rcases h with h | ⟨x, ds, e, h, hO, q⟩
    · exact .inl (rSorted_n.go N M H μ vs ss _ _ st r h c)
    · subst e
      (obtain ⟨v, rfl, r0⟩ := isSA1 r; clear r; have r := r0; clear r0)
      obtain ⟨a, vs, rfl, hs, ra⟩ := lstS_inv st r h
      have hdp := IsAll.dp ra hO.pl hO.nd
      rw [pyAll_eq] at hdp
      refine .inr ⟨a, vs, ds.map py, rfl, hs, hdp, hO.al, hO.so, fun d hd => ?_, fun p hp => c.put st ra.sortD hp q⟩
      obtain ⟨z, hz, rfl⟩ := List.mem_map.mp hd
      exact hO.de z hz
instance : CallD K (rSortedA K) (fun ss μ Q => dSortedA ss μ fun ds μ' => Q (.d (.lst ds)) μ') := calld_of rSortedA_n
end
/-! steps -/
/-- rows of ints -/
def tupI (l : List Int) : D := .tup (l.map .int)
class TupsC (ds : List D) (ls : outParam (List (List Int))) : Prop where
  eq : ds = ls.map tupI
instance {ls : List (List Int)} : TupsC (ls.map tupI) ls := ⟨rfl⟩
theorem py_tupI (l : List Int) : py (tupI l) = .tuple (l.map PyData.int) := py_intsT l
theorem sortOk_tups {ls : List (List Int)} (h : ∀ l ∈ ls, l ≠ []) : SortOk (ls.map tupI) := by
  refine ⟨?_, ?_, ?_, .inl fun d hd => ?_, fun d hd => ?_⟩
  · clear h
    induction ls with
    | nil => rfl
    | cons l ls ih => rw [List.map_cons]; unfold plainAll; rw [ih]; simp [tupI, plain, plain_intsT]
  · clear h
    induction ls with
    | nil => rfl
    | cons l ls ih => rw [List.map_cons]; unfold noDctAll; rw [ih]; simp [tupI, noDct, noDct_intsT]
  · intro d hd d' hd'
    rw [List.map_map] at hd hd'
    obtain ⟨l, _, rfl⟩ := List.mem_map.mp hd
    obtain ⟨l', _, rfl⟩ := List.mem_map.mp hd'
    show PySem.W.alike (py (tupI l)) (py (tupI l')) = true
    rw [py_tupI, py_tupI]
    unfold PySem.W.alike
    exact PySem.W.alike_ints l l'
  · rw [List.map_map] at hd
    obtain ⟨l, hl, rfl⟩ := List.mem_map.mp hd
    have := h l hl
    cases l with
    | nil => exact absurd rfl this
    | cons x r => exact ⟨_, _, py_tupI _⟩
  · obtain ⟨l, hl, rfl⟩ := List.mem_map.mp hd
    rw [py_tupI]
    unfold PyData.depth
    rw [PySem.W.depth_ints]
    decide
/-- .. in order -/
def leL (a b : List Int) : Bool := !decide (b < a)
def sortL (ls : List (List Int)) : List (List Int) := ls.mergeSort leL
theorem leD_tups (a b : List Int) : leD (tupI a) (tupI b) = leL a b := by
  unfold leD leL
  rw [py_tupI, py_tupI, PySem.W.dataLt_tuple]
  congr 1
  exact PySem.W.dataLt_ints b a
theorem sortL_eq (ls : List (List Int)) : (ls.map tupI).mergeSort leD = (sortL ls).map tupI := by
  rw [sort_map]
  unfold sortL
  congr 2
  funext a b
  exact leD_tups a b
theorem sortL_perm (ls : List (List Int)) : (sortL ls).Perm ls := List.mergeSort_perm ls leL
theorem sortL_le (ls : List (List Int)) : (sortL ls).Pairwise (· ≤ ·) := by
  have h := List.pairwise_mergeSort (le := leL) (fun a b c h1 h2 => by
      simp only [leL, Bool.not_eq_true', decide_eq_false_iff_not] at *
      have h1 := Std.not_lt.mp h1
      have h2 := Std.not_lt.mp h2
      exact Std.not_lt.mpr (Std.le_trans h1 h2))
    (fun a b => by
      simp only [leL, Bool.or_eq_true, Bool.not_eq_true', decide_eq_false_iff_not]
      rcases Std.le_total (α := List Int) (a := a) (b := b) with z | z
      · exact .inl (Std.not_lt.mpr z)
      · exact .inr (Std.not_lt.mpr z)) ls
  refine h.imp ?_
  intro a b h
  simp only [leL, Bool.not_eq_true', decide_eq_false_iff_not] at h
  exact Std.not_lt.mp h
section
variable {μ : Mu} {Q : List D → Mu → Prop} {x : S} {ds : List D}
instance (priority := 2000) {ns : List Int} [g : LstS x μ ds] [h : IntsD ds ns] : Stp (dSortedA [x] μ Q) (ns.length < 64 ∧ Q ((sortI ns).map .int) μ) := ⟨fun z => .inl ⟨x, ns, rfl, by rw [g.eq, h.eq], z⟩⟩
instance (priority := 1500) {ls : List (List Int)} [g : LstS x μ ds] [h : TupsC ds ls] : Stp (dSortedA [x] μ Q) ((∀ l ∈ ls, l ≠ []) ∧ Q ((sortL ls).map tupI) μ) := ⟨fun z => .inr ⟨x, _, rfl, g.eq, by rw [h.eq]; exact sortOk_tups z.1, by rw [h.eq, sortL_eq]; exact z.2⟩⟩
instance (priority := low) [g : LstS x μ ds] : Stp (dSortedA [x] μ Q) (SortOk ds ∧ Q (ds.mergeSort leD) μ) := ⟨fun z => .inr ⟨x, _, rfl, g.eq, z⟩⟩
end
end Dl
set_option Elab.async false
set_option linter.all false
set_option maxRecDepth 100000
set_option maxHeartbeats 4000000
/-! ## DT. what can be shown: found from the shape -/
namespace Dl
open PySem PySem.Spec PyProof.Rows L2 Cm
variable [Tb : Tbls]
class PlC (d : D) : Prop where
  eq : plain d = true
class PlL (ds : List D) : Prop where
  eq : plainAll ds = true
instance {i : Int} : PlC (.int i) := ⟨rfl⟩
instance {i : Bool} : PlC (.bl i) := ⟨rfl⟩
instance {i : Str} : PlC (.str i) := ⟨rfl⟩
instance : PlC .non := ⟨rfl⟩
instance {ds : List D} [h : PlL ds] : PlC (.tup ds) := ⟨by unfold plain; exact h.eq⟩
instance {ds : List D} [h : PlL ds] : PlC (.lst ds) := ⟨by unfold plain; exact h.eq⟩
instance : PlL [] := ⟨rfl⟩
instance {d : D} {ds : List D} [h : PlC d] [g : PlL ds] : PlL (d :: ds) := ⟨by unfold plainAll; rw [h.eq, g.eq]; rfl⟩
instance {α : Type} {f : α → D} {xs : List α} [h : ∀ x, PlC (f x)] : PlL (xs.map f) := ⟨by
  induction xs with
  | nil => rfl
  | cons x xs ih => rw [List.map_cons]; unfold plainAll; rw [(h x).eq, ih]; rfl⟩
theorem plain_app : ∀ {xs ys : List D}, plainAll xs = true → plainAll ys = true → plainAll (xs ++ ys) = true
  | [], ys, _, g => g
  | x :: xs, ys, h, g => by
    simp only [plainAll, Bool.and_eq_true] at h
    rw [List.cons_append]
    simp only [plainAll, Bool.and_eq_true]
    exact ⟨h.1, plain_app h.2 g⟩
instance {xs ys : List D} [h : PlL xs] [g : PlL ys] : PlL (xs ++ ys) := ⟨plain_app h.eq g.eq⟩
instance {r : Km.Row} : PlC (rowD r) := ⟨rfl⟩
instance {l : List Int} : PlC (tupI l) := ⟨by unfold tupI plain; exact plain_intsT l⟩
instance {n : Nat} {lo : Int} : PlL (rngD lo n) := by unfold rngD; infer_instance
/-! sizes -/
class FtC (d : D) (m b : outParam Nat) (p : outParam Prop) : Prop where
  go : p → Ft (2 ^ 150) m b (py d)
class FtL (ds : List D) (m b : outParam Nat) (p : outParam Prop) : Prop where
  go : p → FtAll (2 ^ 150) m b (pyAll ds)
instance {i : Int} : FtC (.int i) 0 0 (i.natAbs ≤ 2 ^ 150) := ⟨fun h => Ft.int h⟩
instance {i : Bool} : FtC (.bl i) 0 0 True := ⟨fun _ => Ft.bl⟩
instance : FtC .non 0 0 True := ⟨fun _ => Ft.non⟩
instance {ds : List D} {m b : Nat} {p : Prop} [h : FtL ds m b p] : FtC (.tup ds) (m + 1) b p := ⟨fun z => by unfold py; exact (h.go z).tup⟩
instance {ds : List D} {m b : Nat} {p : Prop} [h : FtL ds m b p] : FtC (.lst ds) (m + 1) b p := ⟨fun z => by unfold py; exact (h.go z).lst⟩
instance : FtL [] 0 0 True := ⟨fun _ => by unfold pyAll; exact FtAll.nil⟩
instance {d : D} {ds : List D} {m n b c : Nat} {p q : Prop} [h : FtC d m b p] [g : FtL ds n c q] : FtL (d :: ds) (max m n) (b + 1 + c) (p ∧ q) := ⟨fun z => by
  unfold pyAll
  exact FtAll.cons ((h.go z.1).mono (Nat.le_refl _) (Nat.le_max_left _ _) (Nat.le_refl _)) ((g.go z.2).mono (Nat.le_refl _) (Nat.le_max_right _ _) (Nat.le_refl _))⟩
theorem pyAll_app : ∀ xs ys : List D, pyAll (xs ++ ys) = pyAll xs ++ pyAll ys
  | [], _ => rfl
  | x :: xs, ys => by
    rw [List.cons_append]
    simp only [pyAll]
    rw [pyAll_app xs ys, List.cons_append]
instance {xs ys : List D} {m n b c : Nat} {p q : Prop} [h : FtL xs m b p] [g : FtL ys n c q] : FtL (xs ++ ys) (max m n) (b + c) (p ∧ q) := ⟨fun z => by
  rw [pyAll_app]
  exact FtAll.append ((h.go z.1).mono (Nat.le_refl _) (Nat.le_max_left _ _) (Nat.le_refl _)) ((g.go z.2).mono (Nat.le_refl _) (Nat.le_max_right _ _) (Nat.le_refl _))⟩
theorem ftAll_map {α : Type} {f : α → D} {m b : Nat} : ∀ {xs : List α}, (∀ x ∈ xs, Ft (2 ^ 150) m b (py (f x))) → FtAll (2 ^ 150) m (xs.length * (b + 1)) (pyAll (xs.map f))
  | [], _ => by unfold List.map pyAll; exact FtAll.nil.mono (Nat.le_refl _) (Nat.zero_le m) (Nat.zero_le _)
  | x :: xs, h => by
    rw [List.map_cons, List.length_cons, Nat.succ_mul]
    unfold pyAll
    exact (FtAll.cons (h x (by simp)) (ftAll_map (xs := xs) fun y hy => h y (by simp [hy]))).mono (Nat.le_refl _) (Nat.le_refl _) (by omega)
instance {ks : List Int} : FtL (ks.map .int) 0 ks.length (∀ k ∈ ks, k.natAbs ≤ 2 ^ 150) := ⟨fun h => by
  have := ftAll_map (m := 0) (b := 0) (f := D.int) (xs := ks) fun k hk => Ft.int (h k hk)
  rwa [Nat.zero_add, Nat.mul_one] at this⟩
instance {rows : List Km.Row} : FtL (rows.map rowD) 1 (rows.length * 3) (∀ r ∈ rows, r.1.natAbs ≤ 2 ^ 150 ∧ r.2.natAbs ≤ 2 ^ 150) := ⟨fun h => ftAll_map (m := 1) (b := 2) (f := rowD) (xs := rows) fun r hr => by
  unfold rowD py pyAll pyAll pyAll py
  exact (FtAll.cons (Ft.int (b := 0) (h r hr).1) (FtAll.cons (Ft.int (b := 0) (h r hr).2) (FtAll.nil (b := 0)))).tup⟩
instance {l : List Int} : FtC (tupI l) 1 l.length (∀ k ∈ l, k.natAbs ≤ 2 ^ 150) := by unfold tupI; infer_instance
theorem fit_of {d : D} {m b : Nat} {p : Prop} [h : FtC d m b p] (hp : p) (hm : m ≤ 60) (hb : b ≤ 60000) : Fit 60 60000 (py d) := (h.go hp).fit (by decide) hm hb
/-- a loop over told items -/
theorem loop_of {α : Type} {xs : List α} {G : TGd} {B : TSd} {Dd : EndsD} {b : Nat} (g : α → D) (P : Nat → Rho → Mu → Prop) {ρ : Rho} {μ : Mu} (h0 : P 0 ρ μ)
    (hs : ∀ (i : Nat) (x : α) (k : NxD) (ρ : Rho) (μ : Mu), xs[i]? = some x → P i ρ μ → (∀ ρ μ, P (i + 1) ρ μ → k ρ μ) → G (.d (g x)) ρ μ fun ρ1 μ1 => B ⟨setl b k, Dd.rt, Dd.rtN, b, setl b Dd.nx, setl b k⟩ ρ1 μ1)
    (hd : ∀ ρ μ, P xs.length ρ μ → Dd.nx ρ μ) : dLoop G B Dd b (xs.map g) ρ μ := by
  refine loop_ind P h0 (fun i d k ρ μ e p ih => ?_) (by rw [List.length_map]; exact hd)
  rw [List.getElem?_map, Option.map_eq_some_iff] at e
  obtain ⟨x, hx, rfl⟩ := e
  exact hs i x k ρ μ hx p ih
instance (priority := 1500) {μ : Mu} {Q : QD} {a b r : List D} [h : LApp a b r] : Stp (dAdd (.d (.tup a)) (.d (.tup b)) μ Q) (a.length + b.length ≤ 1000 ∧ Q (.d (.tup r)) μ) := ⟨fun z => .inr (.inr (.inl ⟨a, b, rfl, rfl, z.1, by rw [h.eq]; exact z.2⟩))⟩
end Dl
set_option Elab.async false
set_option linter.all false
set_option maxRecDepth 100000
set_option maxHeartbeats 4000000
/-! ## DU. methods of own classes; zip of two, of three, lists or tuples -/
namespace Cm
open PySem PySem.Spec PyProof.Rows L2
section
variable {X : Cx} {CX : CXT} {k : Nat} {f C : Addr} {fd : FuncData} {ps : List Str}
  {sp : Sp} {dvs : List V} {ds : List Value} {E : XK} {x m : Str} {p pos apos : Pos}
  {e o : Expr} {es : List Expr} {ta : TE} {t : TA}
theorem pg_meth {pl : Sem Bool} (he : PE X o ta) (c : Cls X.K C) (hm : Meth X.K C m f) (F : Fg X.prog X.w X.K X.mg X.base CX k f fd ps sp) (hr : Room k X.A) (hgd : X.A.guards = some []) (hb : Binds X.K fd ps ds) (hd : Vals dvs ds) (hx : Passes CX X E) (ha : PA X (e :: es) t)
    (hst : starEach (e :: es) X.env = (false, eval e X.env) :: starEach es X.env := by rfl) (hpl : (backTo pos (starEach es X.env)).any (·.1) = false := by rfl)
    (ht : eval (.Call (.Attribute o m apos) (e :: es) [] pos) X.env = (do
      let ov ← eval o X.env
      standAt apos.atName
      let (f, first) ← holding [ov] (getMethod ov m pl)
      callWith pos f first (backTo pos (starEach (e :: es) X.env)) (backToKw pos (keywordEach [] X.env))) := by rfl) :
    PE X (.Call (.Attribute o m apos) (e :: es) [] pos) (tMeth C m sp dvs E ta t) := by
  refine ⟨fun pins s σ H Q I h => ?_⟩
  refine PySem.W.methodCall_KW (pl := pl) (thn (he.run pins s σ H _ I h) fun u s1 ⟨x, H1, I1, rx, a, dx, fs, ex, ea, l, q⟩ => ?_) ht
  subst ex
  obtain rfl : u = Value.ref a := rx
  refine getmeth_ok I1 ea c hm l ?_
  refine PySem.W.callWith_K (first := [.ref a]) (h₀ := X.base) I.ok.mod.kin hm.kp (thn (ha.run pos pins s1 σ H1 _ I1 q) fun us s2 ⟨vs, H2, I2, r, q2⟩ => ⟨I2.kIn, ?_⟩) hst hpl
  exact go_fn (us := .ref a :: us) (vs := .ref a :: vs) F hr hgd hb hd hx I2 (.cons rfl r) q2
/-- o.m() -/
theorem pg_meth0 {pl : Sem Bool} (he : PE X o ta) (c : Cls X.K C) (hm : Meth X.K C m f) (F : Fg X.prog X.w X.K X.mg X.base CX k f fd ps sp) (hr : Room k X.A) (hgd : X.A.guards = some []) (hb : Binds X.K fd ps ds) (hd : Vals dvs ds) (hx : Passes CX X E)
    (ht : eval (.Call (.Attribute o m apos) [] [] pos) X.env = (do
      let ov ← eval o X.env
      standAt apos.atName
      let (f, first) ← holding [ov] (getMethod ov m pl)
      callWith pos f first (backTo pos (starEach [] X.env)) (backToKw pos (keywordEach [] X.env))) := by rfl) :
    PE X (.Call (.Attribute o m apos) [] [] pos) (tMeth C m sp dvs E ta tNil) := by
  refine ⟨fun pins s σ H Q I h => ?_⟩
  refine PySem.W.methodCall_KW (pl := pl) (thn (he.run pins s σ H _ I h) fun u s1 ⟨x, H1, I1, rx, a, dx, fs, ex, ea, l, q⟩ => ?_) ht
  subst ex
  obtain rfl : u = Value.ref a := rx
  refine getmeth_ok I1 ea c hm l ?_
  exact PySem.W.callWith_K0 (first := [.ref a]) I1.kIn hm.kp (go_fn (us := [.ref a]) (vs := [.ref a]) F hr hgd hb hd hx I1 (.cons rfl .nil) q)
end
end Cm
namespace Dl
open PySem PySem.Spec PyProof.Rows L2 Cm
/-! ### zip -/
def SqB (K : PySem.W.Frag) (k : Bool) (H : Hp) (a : Addr) (xs : List V) : Prop := if k = true then SqT K H a xs else SqL K H a xs
def IsB (k : Bool) (h : Heap) (a : Addr) (its : Array Value) : Prop := if k = true then h.IsTuple a its else h.IsList a its
def ItB (k : Bool) (h : Heap) (it a : Addr) (i : Nat) : Prop := if k = true then h.IsTupleIter it a i else h.IsListIter it a i
section
variable {prog : Program} {w : World} {A : Around} {X : Cx} {pins : List (Addr × Obj)} {σ : L2.St} {H : Hp} {s : Shared}
theorem Inv.seqB {k : Bool} {a : Addr} {xs : List V} (I : L2.Inv X pins σ H s) (h : SqB X.K k H a xs) : ∃ its : List Value, Vals xs its ∧ IsB k s.heap a its.toArray := by
  cases k with
  | true => obtain ⟨its, rv, p, _⟩ := I.tuple h; exact ⟨its, rv, p⟩
  | false => obtain ⟨its, rv, p, _⟩ := I.list h; exact ⟨its, rv, p.isList⟩
theorem Inv.seqB_inj {k : Bool} {a : Addr} {xs ys : List V} (I : L2.Inv X pins σ H s) (h : SqB X.K k H a xs) (h' : SqB X.K k H a ys) : xs = ys := by
  cases k with
  | true => exact I.tuple_inj h h'
  | false => exact I.list_inj h h'
theorem drB (k : Bool) (hh : A.handled = none) (it a : Addr) (hne : a ≠ it) (its : Array Value) :
    Draws prog w A it [it, a] its.size (fun i v => its[i]? = some v) (fun i h => ItB k h it a i ∧ IsB k h a its) := by
  cases k with
  | true => exact Draws.tuple hh it a hne its
  | false => exact Draws.list hh it a hne its
def objB (k : Bool) (a : Addr) : Obj := if k = true then { cls := .type "tuple_iterator", data := .fields #[.ref a, .int 0 0] } else { cls := .type "list_iterator", data := .fields #[.ref a, .int 0 0] }
theorem begB (k : Bool) (a : Addr) (its : Array Value) : Begins (.ref a) (objB k a) fun h => IsB k h a its := by
  cases k with
  | true => exact begins_tuple a its
  | false => exact begins_list a its
theorem itB_new {k : Bool} {h : Heap} {it a : Addr} (e : h.get? it = some (objB k a)) : ItB k h it a 0 := by
  cases k with
  | true => exact ⟨_, e, rfl, rfl⟩
  | false => exact ⟨_, e, rfl, rfl⟩
theorem itB_obj {k : Bool} {h : Heap} {it a : Addr} {i : Nat} (e : ItB k h it a i) : ∃ o, h.get? it = some o ∧ ∀ v, o.data ≠ .cell v := by
  cases k with
  | true => obtain ⟨o, e1, _, d⟩ := e; exact ⟨o, e1, fun v q => by rw [d] at q; cases q⟩
  | false => obtain ⟨o, e1, _, d⟩ := e; exact ⟨o, e1, fun v q => by rw [d] at q; cases q⟩
theorem itB_at {k : Bool} {h h' : Heap} {it a : Addr} {i : Nat} (e : ItB k h it a i) (q : ∀ o, h.get? it = some o → h'.get? it = some o) : ItB k h' it a i := by
  cases k with
  | true => exact Heap.IsTupleIter.at e q
  | false => exact Heap.IsListIter.at e q
theorem itB_ne {k k' : Bool} {h : Heap} {it a b : Addr} {i : Nat} {its : Array Value} (e : ItB k h it a i) (p : IsB k' h b its) : b ≠ it := by
  have p' : ∃ o, h.get? b = some o ∧ (o.cls = .type "tuple" ∨ o.cls = .type "list") := by
    cases k' with
    | true => obtain ⟨o, ho, hc, _⟩ := p; exact ⟨o, ho, .inl hc⟩
    | false => obtain ⟨o, ho, hc, _⟩ := p; exact ⟨o, ho, .inr hc⟩
  obtain ⟨o, ho, hc⟩ := p'
  intro z
  subst z
  cases k with
  | true =>
    obtain ⟨o2, e1, c2, d⟩ := e
    rw [ho] at e1; cases e1
    rcases hc with hc | hc <;> (rw [c2] at hc; simp at hc)
  | false =>
    obtain ⟨o2, e1, c2, d⟩ := e
    rw [ho] at e1; cases e1
    rcases hc with hc | hc <;> (rw [c2] at hc; simp at hc)
end

/-- the items of 2 rows in a new tuple -/
def ItzB2 (K : PySem.W.Frag) (k1 k2 : Bool) (a b : Addr) (m : Nat) : It :=
  ⟨fun i H => ∃ (xs ys : List V) (x y : V), SqB K k1 H a xs ∧ SqB K k2 H b ys ∧ xs.length = m ∧ ys.length = m ∧ xs[i]? = some x ∧ ys[i]? = some y,
    fun i H w H' => ∃ T x y, w = .ref T ∧ H T = none ∧ H' = upd H T (.tup [x, y]) ∧ (∀ xs, SqB K k1 H a xs → xs[i]? = some x) ∧ (∀ xs, SqB K k2 H b xs → xs[i]? = some y),
    fun i H => ∃ xs ys : List V, SqB K k1 H a xs ∧ SqB K k2 H b ys ∧ xs.length = m ∧ ys.length = m ∧ m ≤ i⟩
theorem turn_zB2 {P : Program} {w : World} {K : PySem.W.Frag} {elts : List Expr} {kk : Nat} {tpos : Pos} {k1 k2 : Bool} {a b z TI TO i1 i2 : Addr} {m : Nat} (D : ZipSep2 z TI TO i1 i2 [i1, a] [i2, b]) :
    Turn P w K (.Tuple elts kk tpos) (ItzB2 K k1 k2 a b m) [z, TI, TO, i1, i2] z (fun i h => IsZip h z TI TO .none ∧ IsTupOf2 h TI (.ref i1) (.ref i2) ∧ (∃ y0 y1, IsTupOf2 h TO y0 y1) ∧ ItB k1 h i1 a i ∧ ItB k2 h i2 b i ∧ i ≤ m) where
  mem := by simp
  obj := fun i h st c hc => by
    obtain ⟨hz, hTI, ⟨y0, y1, hTO⟩, st1, st2, him⟩ := st
    have e' : c = z ∨ c = TI ∨ c = TO ∨ c = i1 ∨ c = i2 := by simpa using hc
    rcases e' with q | q | q | q | q
    · rw [q]; exact ⟨_, hz, fun v q => nomatch q⟩
    · rw [q]; exact ⟨_, hTI, fun v q => nomatch q⟩
    · rw [q]; exact ⟨_, hTO, fun v q => nomatch q⟩
    · rw [q]; exact itB_obj st1
    · rw [q]; exact itB_obj st2
  keep := fun i h h' st k => by
    obtain ⟨hz, hTI, ⟨y0, y1, hTO⟩, st1, st2, him⟩ := st
    exact ⟨k z (by simp) _ hz, k TI (by simp) _ hTI, ⟨y0, y1, k TO (by simp) _ hTO⟩, itB_at st1 fun o q => k i1 (by simp) o q, itB_at st2 fun o q => k i2 (by simp) o q, him⟩
  item := by
    intro X hP hw hK hc i pins s σ H E I hf st hg
    subst hP hw hK
    obtain ⟨hz, hTI, ⟨y0, y1, hTO⟩, st1, st2, him⟩ := st
    obtain ⟨xs, ys, x, y, hq1, hq2, m1, m2, hx1, hx2⟩ := hg
    obtain ⟨its, rv, p⟩ := Inv.seqB I hq1
    obtain ⟨u, hu1, ru1⟩ := rv.get hx1
    have lt0 : i < its.toArray.size := by rw [List.size_toArray]; exact (List.getElem?_eq_some_iff.mp hu1).1
    obtain ⟨its2, rv2, p2⟩ := Inv.seqB I hq2
    obtain ⟨u2, hu2, ru2⟩ := rv2.get hx2
    have lt1 : i < its2.toArray.size := by rw [List.size_toArray]; exact (List.getElem?_eq_some_iff.mp hu2).1
    have hzl : z < s.heap.objs.size := Heap.lt_size hz
    have hh := I.ok.hd hc
    refine wpAny_pyNext_zipD2_item D (drB k1 (A := X.A.in1) hh i1 a (itB_ne st1 p) its.toArray) (drB k2 (A := X.A.in1) hh i2 b (itB_ne st2 p2) its2.toArray) hz hTI hTO ⟨st1, p⟩ ⟨st2, p2⟩ lt0 lt1 fun w0 w1 h' tk e0 e1 z' TO' s0' s1' hT hsz hk => ?_
    have ew0 : w0 = u := by
      have : its[i]? = some w0 := by rw [← e0, List.getElem?_toArray]
      rw [hu1] at this
      exact (Option.some.inj this).symm
    subst ew0
    have ew1 : w1 = u2 := by
      have : its2[i]? = some w1 := by rw [← e1, List.getElem?_toArray]
      rw [hu2] at this
      exact (Option.some.inj this).symm
    subst ew1
    refine ⟨_, rfl, wpAny_letOwnedTupleGo_zip (s := { s with heap := h', toks := tk }) z' fun h'' z'' sb => ?_⟩
    have hT2 : h''.get? s.heap.objs.size = some { cls := .type "tuple", data := .seq #[w0, w1] } := (sb.2 _ (Nat.ne_of_gt hzl)).trans hT
    have new : ObjOk X.prog X.w (upd H s.heap.objs.size (.tup [x, y])) h'' s.heap.objs.size (.tup [x, y]) :=
      ⟨by show 2 ≤ sizeLine; decide, [w0, w1], (.cons ru1 (.cons ru2 .nil)), ⟨_, hT2, rfl, _, rfl⟩⟩
    have I1 : L2.Inv X pins σ (upd H s.heap.objs.size (.tup [x, y])) { s with heap := h'', toks := tk } :=
      I.turnedNew (t' := tk) (ch := [z, TI, TO, i1, i2]) (fun c o hb q => (sb.2 c (fun q' => hb (by simp [q']))).trans (hk c o (fun q' => hb (by simp [q'])) (fun q' => hb (by simp [q'])) (fun q' => hb (by simp [q'])) (fun q' => hb (by simp [q'])) q)) hf (Nat.le_refl _) new
    refine ⟨.ref s.heap.objs.size, _, I1, rfl, ⟨_, x, y, rfl, I.hok.fresh (Nat.le_refl _), rfl, fun l hl => by rw [Inv.seqB_inj I hl hq1]; exact hx1, fun l hl => by rw [Inv.seqB_inj I hl hq2]; exact hx2⟩, ⟨z'', ?_, ⟨w0, w1, ?_⟩, ?_, ?_, by rw [List.size_toArray] at lt0; have := rv.length; omega⟩, fun c hcm => ?_⟩
    · exact (sb.2 _ D.TIz).trans (hk _ _ D.TIz D.TITO D.TIi1 D.TIi2 hTI)
    · exact (sb.2 _ D.TOz).trans TO'
    · exact itB_at s0'.1 fun o q => (sb.2 _ (Ne.symm D.zi1)).trans q
    · exact itB_at s1'.1 fun o q => (sb.2 _ (Ne.symm D.zi2)).trans q
    · have hlt : c < s.heap.objs.size := by
        have e' : c = z ∨ c = TI ∨ c = TO ∨ c = i1 ∨ c = i2 := by simpa using hcm
        rcases e' with q | q | q | q | q
        · rw [q]; exact hzl
        · rw [q]; exact Heap.lt_size hTI
        · rw [q]; exact Heap.lt_size hTO
        · rw [q]; obtain ⟨_, e1, _⟩ := itB_obj st1; exact Heap.lt_size e1
        · rw [q]; obtain ⟨_, e1, _⟩ := itB_obj st2; exact Heap.lt_size e1
      rw [upd_ne (Nat.ne_of_lt hlt)]
      exact (hf c hcm).1
  done := by
    intro X hP hw hK hc i pins s σ H E I hf st hg
    subst hP hw hK
    obtain ⟨hz, hTI, ⟨y0, y1, hTO⟩, st1, st2, him⟩ := st
    obtain ⟨xs, ys, hq1, hq2, l0, l1, hend⟩ := hg
    obtain ⟨its, rv, p⟩ := Inv.seqB I hq1
    have z0 : its.toArray.size = xs.length := by rw [List.size_toArray]; exact rv.length.symm
    obtain ⟨its2, rv2, p2⟩ := Inv.seqB I hq2
    have z1 : its2.toArray.size = ys.length := by rw [List.size_toArray]; exact rv2.length.symm
    have hh := I.ok.hd hc
    exact wpAny_pyNext_zipD2_end D (drB k1 (A := X.A.in1) hh i1 a (itB_ne st1 p) its.toArray) (drB k2 (A := X.A.in1) hh i2 b (itB_ne st2 p2) its2.toArray) hz hTI hTO ⟨st1, p⟩ ⟨st2, p2⟩ (by omega) (by omega) (by omega) fun h' tk hk => ⟨rfl, I.turnedL (t' := tk) (ch := [z, TI, TO, i1, i2]) (fun c o hb q =>
      hk c o (fun q' => hb (by simp [q'])) (fun q' => hb (by simp [q'])) (fun q' => hb (by simp [q'])) (fun q' => hb (by simp [q'])) q) hf⟩
  self := fun A i s Q E st h => wpAny_pyIter_zip st.1 h
def iZipB2 (K : PySem.W.Frag) (ta : TA) : TI := fun σ H R => ta σ H fun vs H1 => ∃ k1 k2 a b xs ys, vs = [.ref a, .ref b] ∧ SqB K k1 H1 a xs ∧ SqB K k2 H1 b ys ∧ ys.length = xs.length ∧ R (ItzB2 K k1 k2 a b xs.length) H1
theorem pi_zB2 {X : Cx} (K : PySem.W.Frag) {q0 q1 : Expr} {ta : TA} {p pos tpos : Pos} {elts : List Expr} {kk : Nat} (hK : X.K = K) (hg : Gl X "zip") (hm : X.mg "zip" = none) (ha : PA X [q0, q1] ta)
    (hs : starEach [q0, q1] X.env = (false, eval q0 X.env) :: starEach [q1] X.env := by rfl) (hpl : (backTo pos (starEach [q1] X.env)).any (·.1) = false := by rfl) :
    PI X (.Tuple elts kk tpos) (.Call (.Name "zip" p) [q0, q1] [] pos) (iZipB2 K ta) := by
  subst hK
  refine ⟨fun pins s σ H R I h => ?_⟩
  refine Call_ (ld_blt I hg hm PyProof.Rows.boot_zip (PyProof.Rows.callWith_type1 (thn (ha.run pos pins s σ H _ I h) fun us s1 ⟨vs, H1, I1, r1, q1⟩ => ?_) hs hpl))
  obtain ⟨k1, k2, a, b, xs, ys, ex, hq1, hq2, m1, q⟩ := q1
  subst ex
  have fresh : ∀ c j, c = s1.heap.objs.size + j → FpOk X pins H1 c := fun c j e => I1.fpOk (by rw [e]; exact Nat.le_add_right _ _) (I1.hok.fresh (by rw [e]; exact Nat.le_add_right _ _))
  cases r1 with
  | cons r0' rr0 =>
    cases rr0 with
    | cons r1' rr1 =>
      cases rr1
      cases r0'
      cases r1'
      obtain ⟨its, rv, p⟩ := Inv.seqB I1 hq1
      have t0 : a < s1.heap.objs.size := by
        cases k1 with
        | true => obtain ⟨o, ho, _⟩ := id p; exact Heap.lt_size ho
        | false => obtain ⟨o, ho, _⟩ := id p; exact Heap.lt_size ho
      obtain ⟨its2, rv2, p2⟩ := Inv.seqB I1 hq2
      have t1 : b < s1.heap.objs.size := by
        cases k2 with
        | true => obtain ⟨o, ho, _⟩ := id p2; exact Heap.lt_size ho
        | false => obtain ⟨o, ho, _⟩ := id p2; exact Heap.lt_size ho
      refine zip_begins2 (begB k1 a its.toArray) (begB k2 b its2.toArray) p p2 fun h' hz hTI hTO g0 g1 hsz hk => wpAny_pyIter_zip hz ?_
      have I2 : L2.Inv X pins σ H1 { s1 with heap := h' } := I1.kept (t' := s1.toks) hk
      have S := zip_sep2 (N := s1.heap.objs.size) (fp1 := [a]) (fp2 := [b]) (fun x hx => by rw [List.mem_singleton.mp hx]; exact t0) (fun x hx => by rw [List.mem_singleton.mp hx]; exact t1)
      refine ⟨s1.heap.objs.size + 4, [s1.heap.objs.size + 4, s1.heap.objs.size + 2, s1.heap.objs.size + 3, s1.heap.objs.size, s1.heap.objs.size + 1], _, _, H1, rfl, I2, turn_zB2 S, ⟨hz, hTI, ⟨_, _, hTO⟩, itB_new g0, itB_new g1, Nat.zero_le _⟩, fun c hcm => ?_, q⟩
      have e' : c = s1.heap.objs.size + 4 ∨ c = s1.heap.objs.size + 2 ∨ c = s1.heap.objs.size + 3 ∨ c = s1.heap.objs.size ∨ c = s1.heap.objs.size + 1 := by simpa using hcm
      rcases e' with e | e | e | e | e <;> first | exact fresh c _ e | exact fresh c 0 e

/-- the items of 3 rows in a new tuple -/
def ItzB3 (K : PySem.W.Frag) (k1 k2 k3 : Bool) (a b c : Addr) (m : Nat) : It :=
  ⟨fun i H => ∃ (xs ys zs : List V) (x y v : V), SqB K k1 H a xs ∧ SqB K k2 H b ys ∧ SqB K k3 H c zs ∧ xs.length = m ∧ ys.length = m ∧ zs.length = m ∧ xs[i]? = some x ∧ ys[i]? = some y ∧ zs[i]? = some v,
    fun i H w H' => ∃ T x y v, w = .ref T ∧ H T = none ∧ H' = upd H T (.tup [x, y, v]) ∧ (∀ xs, SqB K k1 H a xs → xs[i]? = some x) ∧ (∀ xs, SqB K k2 H b xs → xs[i]? = some y) ∧ (∀ xs, SqB K k3 H c xs → xs[i]? = some v),
    fun i H => ∃ xs ys zs : List V, SqB K k1 H a xs ∧ SqB K k2 H b ys ∧ SqB K k3 H c zs ∧ xs.length = m ∧ ys.length = m ∧ zs.length = m ∧ m ≤ i⟩
theorem turn_zB3 {P : Program} {w : World} {K : PySem.W.Frag} {elts : List Expr} {kk : Nat} {tpos : Pos} {k1 k2 k3 : Bool} {a b c z TI TO i1 i2 i3 : Addr} {m : Nat} (D : ZipSep3 z TI TO i1 i2 i3 [i1, a] [i2, b] [i3, c]) :
    Turn P w K (.Tuple elts kk tpos) (ItzB3 K k1 k2 k3 a b c m) [z, TI, TO, i1, i2, i3] z (fun i h => IsZip h z TI TO .none ∧ IsTupOf3 h TI (.ref i1) (.ref i2) (.ref i3) ∧ (∃ y0 y1 y2, IsTupOf3 h TO y0 y1 y2) ∧ ItB k1 h i1 a i ∧ ItB k2 h i2 b i ∧ ItB k3 h i3 c i ∧ i ≤ m) where
  mem := by simp
  obj := fun i h st c hc => by
    obtain ⟨hz, hTI, ⟨y0, y1, y2, hTO⟩, st1, st2, st3, him⟩ := st
    have e' : c = z ∨ c = TI ∨ c = TO ∨ c = i1 ∨ c = i2 ∨ c = i3 := by simpa using hc
    rcases e' with q | q | q | q | q | q
    · rw [q]; exact ⟨_, hz, fun v q => nomatch q⟩
    · rw [q]; exact ⟨_, hTI, fun v q => nomatch q⟩
    · rw [q]; exact ⟨_, hTO, fun v q => nomatch q⟩
    · rw [q]; exact itB_obj st1
    · rw [q]; exact itB_obj st2
    · rw [q]; exact itB_obj st3
  keep := fun i h h' st k => by
    obtain ⟨hz, hTI, ⟨y0, y1, y2, hTO⟩, st1, st2, st3, him⟩ := st
    exact ⟨k z (by simp) _ hz, k TI (by simp) _ hTI, ⟨y0, y1, y2, k TO (by simp) _ hTO⟩, itB_at st1 fun o q => k i1 (by simp) o q, itB_at st2 fun o q => k i2 (by simp) o q, itB_at st3 fun o q => k i3 (by simp) o q, him⟩
  item := by
    intro X hP hw hK hc i pins s σ H E I hf st hg
    subst hP hw hK
    obtain ⟨hz, hTI, ⟨y0, y1, y2, hTO⟩, st1, st2, st3, him⟩ := st
    obtain ⟨xs, ys, zs, x, y, v, hq1, hq2, hq3, m1, m2, m3, hx1, hx2, hx3⟩ := hg
    obtain ⟨its, rv, p⟩ := Inv.seqB I hq1
    obtain ⟨u, hu1, ru1⟩ := rv.get hx1
    have lt0 : i < its.toArray.size := by rw [List.size_toArray]; exact (List.getElem?_eq_some_iff.mp hu1).1
    obtain ⟨its2, rv2, p2⟩ := Inv.seqB I hq2
    obtain ⟨u2, hu2, ru2⟩ := rv2.get hx2
    have lt1 : i < its2.toArray.size := by rw [List.size_toArray]; exact (List.getElem?_eq_some_iff.mp hu2).1
    obtain ⟨its3, rv3, p3⟩ := Inv.seqB I hq3
    obtain ⟨u3, hu3, ru3⟩ := rv3.get hx3
    have lt2 : i < its3.toArray.size := by rw [List.size_toArray]; exact (List.getElem?_eq_some_iff.mp hu3).1
    have hzl : z < s.heap.objs.size := Heap.lt_size hz
    have hh := I.ok.hd hc
    refine wpAny_pyNext_zipD3_item D (drB k1 (A := X.A.in1) hh i1 a (itB_ne st1 p) its.toArray) (drB k2 (A := X.A.in1) hh i2 b (itB_ne st2 p2) its2.toArray) (drB k3 (A := X.A.in1) hh i3 c (itB_ne st3 p3) its3.toArray) hz hTI hTO ⟨st1, p⟩ ⟨st2, p2⟩ ⟨st3, p3⟩ lt0 lt1 lt2 fun w0 w1 w2 h' tk e0 e1 e2 z' TO' s0' s1' s2' hT hsz hk => ?_
    have ew0 : w0 = u := by
      have : its[i]? = some w0 := by rw [← e0, List.getElem?_toArray]
      rw [hu1] at this
      exact (Option.some.inj this).symm
    subst ew0
    have ew1 : w1 = u2 := by
      have : its2[i]? = some w1 := by rw [← e1, List.getElem?_toArray]
      rw [hu2] at this
      exact (Option.some.inj this).symm
    subst ew1
    have ew2 : w2 = u3 := by
      have : its3[i]? = some w2 := by rw [← e2, List.getElem?_toArray]
      rw [hu3] at this
      exact (Option.some.inj this).symm
    subst ew2
    refine ⟨_, rfl, wpAny_letOwnedTupleGo_zip (s := { s with heap := h', toks := tk }) z' fun h'' z'' sb => ?_⟩
    have hT2 : h''.get? s.heap.objs.size = some { cls := .type "tuple", data := .seq #[w0, w1, w2] } := (sb.2 _ (Nat.ne_of_gt hzl)).trans hT
    have new : ObjOk X.prog X.w (upd H s.heap.objs.size (.tup [x, y, v])) h'' s.heap.objs.size (.tup [x, y, v]) :=
      ⟨by show 3 ≤ sizeLine; decide, [w0, w1, w2], (.cons ru1 (.cons ru2 (.cons ru3 .nil))), ⟨_, hT2, rfl, _, rfl⟩⟩
    have I1 : L2.Inv X pins σ (upd H s.heap.objs.size (.tup [x, y, v])) { s with heap := h'', toks := tk } :=
      I.turnedNew (t' := tk) (ch := [z, TI, TO, i1, i2, i3]) (fun c o hb q => (sb.2 c (fun q' => hb (by simp [q']))).trans (hk c o (fun q' => hb (by simp [q'])) (fun q' => hb (by simp [q'])) (fun q' => hb (by simp [q'])) (fun q' => hb (by simp [q'])) (fun q' => hb (by simp [q'])) q)) hf (Nat.le_refl _) new
    refine ⟨.ref s.heap.objs.size, _, I1, rfl, ⟨_, x, y, v, rfl, I.hok.fresh (Nat.le_refl _), rfl, fun l hl => by rw [Inv.seqB_inj I hl hq1]; exact hx1, fun l hl => by rw [Inv.seqB_inj I hl hq2]; exact hx2, fun l hl => by rw [Inv.seqB_inj I hl hq3]; exact hx3⟩, ⟨z'', ?_, ⟨w0, w1, w2, ?_⟩, ?_, ?_, ?_, by rw [List.size_toArray] at lt0; have := rv.length; omega⟩, fun c hcm => ?_⟩
    · exact (sb.2 _ D.TIz).trans (hk _ _ D.TIz D.TITO D.TIi1 D.TIi2 D.TIi3 hTI)
    · exact (sb.2 _ D.TOz).trans TO'
    · exact itB_at s0'.1 fun o q => (sb.2 _ (Ne.symm D.zi1)).trans q
    · exact itB_at s1'.1 fun o q => (sb.2 _ (Ne.symm D.zi2)).trans q
    · exact itB_at s2'.1 fun o q => (sb.2 _ (Ne.symm D.zi3)).trans q
    · have hlt : c < s.heap.objs.size := by
        have e' : c = z ∨ c = TI ∨ c = TO ∨ c = i1 ∨ c = i2 ∨ c = i3 := by simpa using hcm
        rcases e' with q | q | q | q | q | q
        · rw [q]; exact hzl
        · rw [q]; exact Heap.lt_size hTI
        · rw [q]; exact Heap.lt_size hTO
        · rw [q]; obtain ⟨_, e1, _⟩ := itB_obj st1; exact Heap.lt_size e1
        · rw [q]; obtain ⟨_, e1, _⟩ := itB_obj st2; exact Heap.lt_size e1
        · rw [q]; obtain ⟨_, e1, _⟩ := itB_obj st3; exact Heap.lt_size e1
      rw [upd_ne (Nat.ne_of_lt hlt)]
      exact (hf c hcm).1
  done := by
    intro X hP hw hK hc i pins s σ H E I hf st hg
    subst hP hw hK
    obtain ⟨hz, hTI, ⟨y0, y1, y2, hTO⟩, st1, st2, st3, him⟩ := st
    obtain ⟨xs, ys, zs, hq1, hq2, hq3, l0, l1, l2, hend⟩ := hg
    obtain ⟨its, rv, p⟩ := Inv.seqB I hq1
    have z0 : its.toArray.size = xs.length := by rw [List.size_toArray]; exact rv.length.symm
    obtain ⟨its2, rv2, p2⟩ := Inv.seqB I hq2
    have z1 : its2.toArray.size = ys.length := by rw [List.size_toArray]; exact rv2.length.symm
    obtain ⟨its3, rv3, p3⟩ := Inv.seqB I hq3
    have z2 : its3.toArray.size = zs.length := by rw [List.size_toArray]; exact rv3.length.symm
    have hh := I.ok.hd hc
    exact wpAny_pyNext_zipD3_end D (drB k1 (A := X.A.in1) hh i1 a (itB_ne st1 p) its.toArray) (drB k2 (A := X.A.in1) hh i2 b (itB_ne st2 p2) its2.toArray) (drB k3 (A := X.A.in1) hh i3 c (itB_ne st3 p3) its3.toArray) hz hTI hTO ⟨st1, p⟩ ⟨st2, p2⟩ ⟨st3, p3⟩ (by omega) (by omega) (by omega) (by omega) fun h' tk hk => ⟨rfl, I.turnedL (t' := tk) (ch := [z, TI, TO, i1, i2, i3]) (fun c o hb q =>
      hk c o (fun q' => hb (by simp [q'])) (fun q' => hb (by simp [q'])) (fun q' => hb (by simp [q'])) (fun q' => hb (by simp [q'])) (fun q' => hb (by simp [q'])) q) hf⟩
  self := fun A i s Q E st h => wpAny_pyIter_zip st.1 h
def iZipB3 (K : PySem.W.Frag) (ta : TA) : TI := fun σ H R => ta σ H fun vs H1 => ∃ k1 k2 k3 a b c xs ys zs, vs = [.ref a, .ref b, .ref c] ∧ SqB K k1 H1 a xs ∧ SqB K k2 H1 b ys ∧ SqB K k3 H1 c zs ∧ ys.length = xs.length ∧ zs.length = xs.length ∧ R (ItzB3 K k1 k2 k3 a b c xs.length) H1
theorem pi_zB3 {X : Cx} (K : PySem.W.Frag) {q0 q1 q2 : Expr} {ta : TA} {p pos tpos : Pos} {elts : List Expr} {kk : Nat} (hK : X.K = K) (hg : Gl X "zip") (hm : X.mg "zip" = none) (ha : PA X [q0, q1, q2] ta)
    (hs : starEach [q0, q1, q2] X.env = (false, eval q0 X.env) :: starEach [q1, q2] X.env := by rfl) (hpl : (backTo pos (starEach [q1, q2] X.env)).any (·.1) = false := by rfl) :
    PI X (.Tuple elts kk tpos) (.Call (.Name "zip" p) [q0, q1, q2] [] pos) (iZipB3 K ta) := by
  subst hK
  refine ⟨fun pins s σ H R I h => ?_⟩
  refine Call_ (ld_blt I hg hm PyProof.Rows.boot_zip (PyProof.Rows.callWith_type1 (thn (ha.run pos pins s σ H _ I h) fun us s1 ⟨vs, H1, I1, r1, q1⟩ => ?_) hs hpl))
  obtain ⟨k1, k2, k3, a, b, c, xs, ys, zs, ex, hq1, hq2, hq3, m1, m2, q⟩ := q1
  subst ex
  have fresh : ∀ c j, c = s1.heap.objs.size + j → FpOk X pins H1 c := fun c j e => I1.fpOk (by rw [e]; exact Nat.le_add_right _ _) (I1.hok.fresh (by rw [e]; exact Nat.le_add_right _ _))
  cases r1 with
  | cons r0' rr0 =>
    cases rr0 with
    | cons r1' rr1 =>
      cases rr1 with
      | cons r2' rr2 =>
        cases rr2
        cases r0'
        cases r1'
        cases r2'
        obtain ⟨its, rv, p⟩ := Inv.seqB I1 hq1
        have t0 : a < s1.heap.objs.size := by
          cases k1 with
          | true => obtain ⟨o, ho, _⟩ := id p; exact Heap.lt_size ho
          | false => obtain ⟨o, ho, _⟩ := id p; exact Heap.lt_size ho
        obtain ⟨its2, rv2, p2⟩ := Inv.seqB I1 hq2
        have t1 : b < s1.heap.objs.size := by
          cases k2 with
          | true => obtain ⟨o, ho, _⟩ := id p2; exact Heap.lt_size ho
          | false => obtain ⟨o, ho, _⟩ := id p2; exact Heap.lt_size ho
        obtain ⟨its3, rv3, p3⟩ := Inv.seqB I1 hq3
        have t2 : c < s1.heap.objs.size := by
          cases k3 with
          | true => obtain ⟨o, ho, _⟩ := id p3; exact Heap.lt_size ho
          | false => obtain ⟨o, ho, _⟩ := id p3; exact Heap.lt_size ho
        refine zip_begins3 (begB k1 a its.toArray) (begB k2 b its2.toArray) (begB k3 c its3.toArray) p p2 p3 fun h' hz hTI hTO g0 g1 g2 hsz hk => wpAny_pyIter_zip hz ?_
        have I2 : L2.Inv X pins σ H1 { s1 with heap := h' } := I1.kept (t' := s1.toks) hk
        have S := zip_sep3 (N := s1.heap.objs.size) (fp1 := [a]) (fp2 := [b]) (fp3 := [c]) (fun x hx => by rw [List.mem_singleton.mp hx]; exact t0) (fun x hx => by rw [List.mem_singleton.mp hx]; exact t1) (fun x hx => by rw [List.mem_singleton.mp hx]; exact t2)
        refine ⟨s1.heap.objs.size + 5, [s1.heap.objs.size + 5, s1.heap.objs.size + 3, s1.heap.objs.size + 4, s1.heap.objs.size, s1.heap.objs.size + 1, s1.heap.objs.size + 2], _, _, H1, rfl, I2, turn_zB3 S, ⟨hz, hTI, ⟨_, _, _, hTO⟩, itB_new g0, itB_new g1, itB_new g2, Nat.zero_le _⟩, fun c hcm => ?_, q⟩
        have e' : c = s1.heap.objs.size + 5 ∨ c = s1.heap.objs.size + 3 ∨ c = s1.heap.objs.size + 4 ∨ c = s1.heap.objs.size ∨ c = s1.heap.objs.size + 1 ∨ c = s1.heap.objs.size + 2 := by simpa using hcm
        rcases e' with e | e | e | e | e | e <;> first | exact fresh c _ e | exact fresh c 0 e
end Dl
namespace Dl
open PySem PySem.Spec PyProof.Rows L2 Cm
variable [Tb : Tbls]
/-! ### the data readings -/
/-- a tuple or a list, as such -/
def sqD : S → Option (Bool × List D)
  | .d (.tup ds) => some (true, ds)
  | .d (.lst ds) => some (false, ds)
  | _ => none
def zip2D : List D → List D → List D
  | x :: xs, y :: ys => .tup [x, y] :: zip2D xs ys
  | _, _ => []
def zip3D : List D → List D → List D → List D
  | x :: xs, y :: ys, z :: zs => .tup [x, y, z] :: zip3D xs ys zs
  | _, _, _ => []
theorem zip2D_get : ∀ {xs ys : List D} {i : Nat} {d : D}, (zip2D xs ys)[i]? = some d → ∃ x y, xs[i]? = some x ∧ ys[i]? = some y ∧ d = .tup [x, y]
  | [], _, _, _, e => by simp [zip2D] at e
  | _ :: _, [], _, _, e => by simp [zip2D] at e
  | x :: xs, y :: ys, 0, d, e => by simp [zip2D] at e; exact ⟨x, y, rfl, rfl, e.symm⟩
  | x :: xs, y :: ys, i + 1, d, e => by
    unfold zip2D at e
    rw [List.getElem?_cons_succ] at e ⊢
    rw [List.getElem?_cons_succ]
    exact zip2D_get e
theorem zip3D_get : ∀ {xs ys zs : List D} {i : Nat} {d : D}, (zip3D xs ys zs)[i]? = some d → ∃ x y z, xs[i]? = some x ∧ ys[i]? = some y ∧ zs[i]? = some z ∧ d = .tup [x, y, z]
  | [], _, _, _, _, e => by simp [zip3D] at e
  | _ :: _, [], _, _, _, e => by simp [zip3D] at e
  | _ :: _, _ :: _, [], _, _, e => by simp [zip3D] at e
  | x :: xs, y :: ys, z :: zs, 0, d, e => by simp [zip3D] at e; exact ⟨x, y, z, rfl, rfl, rfl, e.symm⟩
  | x :: xs, y :: ys, z :: zs, i + 1, d, e => by
    unfold zip3D at e
    rw [List.getElem?_cons_succ] at e ⊢
    rw [List.getElem?_cons_succ, List.getElem?_cons_succ]
    exact zip3D_get e
theorem zip2D_len : ∀ xs ys : List D, (zip2D xs ys).length = min xs.length ys.length
  | [], _ => by simp [zip2D]
  | _ :: _, [] => by simp [zip2D]
  | x :: xs, y :: ys => by simp only [zip2D, List.length_cons, zip2D_len xs ys]; omega
theorem zip3D_len : ∀ xs ys zs : List D, (zip3D xs ys zs).length = min (min xs.length ys.length) zs.length
  | [], _, _ => by simp [zip3D]
  | _ :: _, [], _ => by simp [zip3D]
  | _ :: _, _ :: _, [] => by simp [zip3D]
  | x :: xs, y :: ys, z :: zs => by simp only [zip3D, List.length_cons, zip3D_len xs ys zs]; omega
section
variable {K : PySem.W.Frag} {N N' : Addr → Prop} {M : Ms} {H H' : Hp} {μ : Mu}
theorem sqD_inv {v : V} {s : S} {k : Bool} {ds : List D} (r : IsS K N M H v s) (e : sqD s = some (k, ds)) : ∃ a vs, v = .ref a ∧ (∀ {N' : Addr → Prop} {H' : Hp}, Go N H N' H' → SqB K k H' a vs) ∧ IsAll K N H vs ds := by
  cases r with
  | d h =>
    rename_i x
    cases x <;> simp [sqD] at e
    · obtain ⟨rfl, rfl⟩ := e
      obtain ⟨a, vs, rfl, na, ha, ra⟩ := h.tup_inv
      exact ⟨a, vs, rfl, fun g => SqT.of (g a _ na ha).2, ra⟩
    · obtain ⟨rfl, rfl⟩ := e
      obtain ⟨a, vs, rfl, na, ha, ra⟩ := h.lst_inv
      exact ⟨a, vs, rfl, fun g => SqL.of (g a _ na ha).2, ra⟩
  | cel h => simp [sqD] at e
theorem itok_z2 {k1 k2 : Bool} {a b : Addr} {vs ws : List V} {ds es : List D} (r1 : IsAll K N H vs ds) (r2 : IsAll K N H ws es) (l : es.length = ds.length)
    (q1 : ∀ {N' : Addr → Prop} {H' : Hp}, Go N H N' H' → SqB K k1 H' a vs) (q2 : ∀ {N' : Addr → Prop} {H' : Hp}, Go N H N' H' → SqB K k2 H' b ws) : ItOk K N M H (ItzB2 K k1 k2 a b vs.length) (zip2D ds es) := by
  intro N' H1 μ g st'
  have h1 := q1 g
  have h2 := q2 g
  have l1 := r1.length
  have l2 := r2.length
  refine ⟨fun i hi => ⟨vs, ws, h1, h2, rfl, by omega, by rw [zip2D_len] at hi; omega⟩, fun i d e => ?_⟩
  obtain ⟨x, y, hx, hy, rfl⟩ := zip2D_get e
  obtain ⟨v, hv, rv⟩ := r1.getD hx
  obtain ⟨w, hw, rw_⟩ := r2.getD hy
  refine ⟨⟨vs, ws, v, w, h1, h2, rfl, by omega, hv, hw⟩, fun y H' z => ?_⟩
  obtain ⟨T, x1, x2, ey, hn, eH, p1, p2⟩ := z
  subst ey eH
  have e1 := p1 vs h1
  have e2 := p2 ws h2
  rw [hv] at e1
  rw [hw] at e2
  cases e1
  cases e2
  obtain ⟨s2, k2, nT⟩ := st'.new (o := .tup [v, w]) hn
  exact ⟨k2, s2, .tup nT upd_same (.cons ((rv.go g).go (st'.go k2)) (.cons ((rw_.go g).go (st'.go k2)) .nil))⟩
theorem itok_z3 {k1 k2 k3 : Bool} {a b c : Addr} {vs ws us : List V} {ds es fs : List D} (r1 : IsAll K N H vs ds) (r2 : IsAll K N H ws es) (r3 : IsAll K N H us fs) (l : es.length = ds.length) (l' : fs.length = ds.length)
    (q1 : ∀ {N' : Addr → Prop} {H' : Hp}, Go N H N' H' → SqB K k1 H' a vs) (q2 : ∀ {N' : Addr → Prop} {H' : Hp}, Go N H N' H' → SqB K k2 H' b ws) (q3 : ∀ {N' : Addr → Prop} {H' : Hp}, Go N H N' H' → SqB K k3 H' c us) : ItOk K N M H (ItzB3 K k1 k2 k3 a b c vs.length) (zip3D ds es fs) := by
  intro N' H1 μ g st'
  have h1 := q1 g
  have h2 := q2 g
  have h3 := q3 g
  have l1 := r1.length
  have l2 := r2.length
  have l3 := r3.length
  refine ⟨fun i hi => ⟨vs, ws, us, h1, h2, h3, rfl, by omega, by omega, by rw [zip3D_len] at hi; omega⟩, fun i d e => ?_⟩
  obtain ⟨x, y, z, hx, hy, hz, rfl⟩ := zip3D_get e
  obtain ⟨v, hv, rv⟩ := r1.getD hx
  obtain ⟨w, hw, rw_⟩ := r2.getD hy
  obtain ⟨u, hu, ru⟩ := r3.getD hz
  refine ⟨⟨vs, ws, us, v, w, u, h1, h2, h3, rfl, by omega, by omega, hv, hw, hu⟩, fun y H' z => ?_⟩
  obtain ⟨T, x1, x2, x3, ey, hn, eH, p1, p2, p3⟩ := z
  subst ey eH
  have e1 := p1 vs h1
  have e2 := p2 ws h2
  have e3 := p3 us h3
  rw [hv] at e1
  rw [hw] at e2
  rw [hu] at e3
  cases e1
  cases e2
  cases e3
  obtain ⟨s2, k2, nT⟩ := st'.new (o := .tup [v, w, u]) hn
  exact ⟨k2, s2, .tup nT upd_same (.cons ((rv.go g).go (st'.go k2)) (.cons ((rw_.go g).go (st'.go k2)) (.cons ((ru.go g).go (st'.go k2)) .nil)))⟩
def dItZ2 (A : TAd) : TId := fun ρ μ Q => A ρ μ fun ss μ1 => ∃ s t k1 k2 ds es, ss = [s, t] ∧ sqD s = some (k1, ds) ∧ sqD t = some (k2, es) ∧ es.length = ds.length ∧ Q (zip2D ds es) μ1
instance {ta : TA} {A : TAd} [a : SdA K ta A] : SdI K (iZipB2 K ta) (dItZ2 A) where
  go := by
    intro N M σ H ρ μ Qd Qv er h c
    refine a.go N M σ H ρ μ _ _ er h fun vs H1 ss μ1 k1 s1 r1 ⟨s, t, b1, b2, ds, es, e, e1, e2, l, q⟩ => ?_
    subst e
    cases r1 with
    | cons r r1 =>
      cases r1 with
      | cons r' r1 =>
        cases r1
        obtain ⟨a1, xs, rfl, g1, ra⟩ := sqD_inv r e1
        obtain ⟨a2, ys, rfl, g2, ra2⟩ := sqD_inv r' e2
        exact ⟨b1, b2, a1, a2, xs, ys, rfl, g1 Go.refl, g2 Go.refl, by rw [ra.length, ra2.length, l], c _ _ _ _ k1 s1 (itok_z2 ra ra2 l g1 g2) q⟩
def dItZ3 (A : TAd) : TId := fun ρ μ Q => A ρ μ fun ss μ1 => ∃ s t u k1 k2 k3 ds es fs, ss = [s, t, u] ∧ sqD s = some (k1, ds) ∧ sqD t = some (k2, es) ∧ sqD u = some (k3, fs) ∧ es.length = ds.length ∧ fs.length = ds.length ∧ Q (zip3D ds es fs) μ1
instance {ta : TA} {A : TAd} [a : SdA K ta A] : SdI K (iZipB3 K ta) (dItZ3 A) where
  go := by
    intro N M σ H ρ μ Qd Qv er h c
    refine a.go N M σ H ρ μ _ _ er h fun vs H1 ss μ1 k1 s1 r1 ⟨s, t, u, b1, b2, b3, ds, es, fs, e, e1, e2, e3, l, l', q⟩ => ?_
    subst e
    cases r1 with
    | cons r r1 =>
      cases r1 with
      | cons r' r1 =>
        cases r1 with
        | cons r'' r1 =>
          cases r1
          obtain ⟨a1, xs, rfl, g1, ra⟩ := sqD_inv r e1
          obtain ⟨a2, ys, rfl, g2, ra2⟩ := sqD_inv r' e2
          obtain ⟨a3, zs, rfl, g3, ra3⟩ := sqD_inv r'' e3
          exact ⟨b1, b2, b3, a1, a2, a3, xs, ys, zs, rfl, g1 Go.refl, g2 Go.refl, g3 Go.refl, by rw [ra.length, ra2.length, l], by rw [ra.length, ra3.length, l'], c _ _ _ _ k1 s1 (itok_z3 ra ra2 ra3 l l' g1 g2 g3) q⟩
/-! ### methods -/
def dMeth (C : Addr) (m : Str) (n : Nat) (Tf : FnT) (dvs : List V) (A : TD) (B : TAd) : TD := fun ρ μ Q => A ρ μ fun s μ1 => ∃ ns ds, s = .d (.ins C ns ds) ∧ ns.contains m = false ∧
  B ρ μ1 fun ss μ2 => ∃ dd, vDs dvs = some dd ∧ (s :: (ss ++ dd)).length = n ∧ callD Tf (s :: (ss ++ dd)) μ2 Q
theorem lookup_zip_none {m : Str} : ∀ {ns : List Str} {vs : List V}, ns.contains m = false → (ns.zip vs).lookup m = none
  | [], _, _ => by simp
  | _ :: _, [], _ => by simp
  | n :: ns, v :: vs, h => by
    rw [List.contains_cons, Bool.or_eq_false_iff] at h
    rw [List.zip_cons_cons, List.lookup_cons, h.1]
    exact lookup_zip_none h.2
instance {C : Addr} {m : Str} {n : Nat} {Tf : FnT} {dvs : List V} {E : XK} {te : TE} {t : TA} {A : TD} {B : TAd} [a : SdE K te A] [b : SdA K t B] : SdE K (tMeth C m (spD K n Tf) dvs E te t) (dMeth C m n Tf dvs A B) where
  go := by
    intro N M σ H ρ μ Qd Qv er h c
    refine a.go N M σ H ρ μ _ _ er h fun v H1 s μ1 k1 s1 r1 ⟨ns, ds, e, hm, h1⟩ => ?_
    subst e
    obtain ⟨p, dx, vs, rfl, np, hp, ln, ra⟩ := r1.d_inv.ins_inv
    refine ⟨p, dx, _, rfl, hp, lookup_zip_none hm, ?_⟩
    refine b.go N M σ H1 ρ μ1 _ _ (er.go k1 s1) h1 fun ws H2 ss μ2 k2 s2 r2 ⟨dd, e, l, q⟩ => ?_
    exact callD_ok s2 (.cons (r1.go (s1.go k2)) (r2.append (vDs_is e))) l q (c.step (k1.trans k2))
end
/-! ### steps -/
class SqC (s : S) (k : outParam Bool) (ds : outParam (List D)) : Prop where
  eq : sqD s = some (k, ds)
instance {ds : List D} : SqC (.d (.tup ds)) true ds := ⟨rfl⟩
instance {ds : List D} : SqC (.d (.lst ds)) false ds := ⟨rfl⟩
section
variable {ρ : Rho} {μ : Mu} {Q : QD} {A : TD} {B : TAd} {QL : List D → Mu → Prop}
def z2K (QL : List D → Mu → Prop) : List S → Mu → Prop := fun ss μ1 => ∃ s t k1 k2 ds es, ss = [s, t] ∧ sqD s = some (k1, ds) ∧ sqD t = some (k2, es) ∧ es.length = ds.length ∧ QL (zip2D ds es) μ1
def z3K (QL : List D → Mu → Prop) : List S → Mu → Prop := fun ss μ1 => ∃ s t u k1 k2 k3 ds es fs, ss = [s, t, u] ∧ sqD s = some (k1, ds) ∧ sqD t = some (k2, es) ∧ sqD u = some (k3, fs) ∧ es.length = ds.length ∧ fs.length = ds.length ∧ QL (zip3D ds es fs) μ1
instance : Stp (dItZ2 B ρ μ QL) (B ρ μ (z2K QL)) := ⟨id⟩
instance : Stp (dItZ3 B ρ μ QL) (B ρ μ (z3K QL)) := ⟨id⟩
instance {s t : S} {k1 k2 : Bool} {ds es : List D} [a : SqC s k1 ds] [b : SqC t k2 es] : Stp (z2K QL [s, t] μ) (es.length = ds.length ∧ QL (zip2D ds es) μ) := ⟨fun z => ⟨s, t, _, _, ds, es, rfl, a.eq, b.eq, z⟩⟩
instance {s t u : S} {k1 k2 k3 : Bool} {ds es fs : List D} [a : SqC s k1 ds] [b : SqC t k2 es] [c : SqC u k3 fs] : Stp (z3K QL [s, t, u] μ) (es.length = ds.length ∧ fs.length = ds.length ∧ QL (zip3D ds es fs) μ) := ⟨fun z => ⟨s, t, u, _, _, _, ds, es, fs, rfl, a.eq, b.eq, c.eq, z⟩⟩
def methK (C : Addr) (m : Str) (n : Nat) (Tf : FnT) (dvs : List V) (B : TAd) (ρ : Rho) (Q : QD) : S → Mu → Prop := fun s μ1 => ∃ ns ds, s = .d (.ins C ns ds) ∧ ns.contains m = false ∧
  B ρ μ1 fun ss μ2 => ∃ dd, vDs dvs = some dd ∧ (s :: (ss ++ dd)).length = n ∧ callD Tf (s :: (ss ++ dd)) μ2 Q
instance {C : Addr} {m : Str} {n : Nat} {Tf : FnT} {dvs : List V} : Stp (dMeth C m n Tf dvs A B ρ μ Q) (A ρ μ (methK C m n Tf dvs B ρ Q)) := ⟨id⟩
instance {C : Addr} {m : Str} {n : Nat} {Tf : FnT} {dvs : List V} {ns : List Str} {ds : List D} : Stp (methK C m n Tf dvs B ρ Q (.d (.ins C ns ds)) μ) (ns.contains m = false ∧ B ρ μ (argK (n - 1) dvs fun ss μ2 => 1 ≤ n ∧ callD Tf (.d (.ins C ns ds) :: ss) μ2 Q)) := ⟨fun ⟨h, z⟩ => ⟨ns, ds, rfl, h, by
  refine cast ?_ z
  congr 1
  funext ss μ2
  unfold argK
  refine propext ⟨?_, ?_⟩
  · rintro ⟨dd, h1, h2, h3, h4⟩
    exact ⟨dd, h1, by rw [List.length_cons]; omega, h4⟩
  · rintro ⟨dd, h1, h2, h4⟩
    exact ⟨dd, h1, by rw [List.length_cons] at h2; omega, by rw [List.length_cons] at h2; omega, h4⟩⟩⟩
end
end Dl
set_option Elab.async false
set_option linter.all false
set_option maxRecDepth 100000
set_option maxHeartbeats 4000000
set_option synthInstance.maxHeartbeats 4000000
set_option synthInstance.maxSize 100000
/-! ## DX. the program's defs: works, rules, results, scores, rows, marks, sheets: what they are over data, what they promise -/
namespace Dl
open PySem PySem.Spec PyProof.Rows L2 Cm Sk Km
variable [Tb : Tbls]
theorem conv_b {Q : QD} {μ : Mu} {b b' : Bool} (e : b = b') (q : Q (.d (.bl b')) μ) : Q (.d (.bl b)) μ := by rw [e]; exact q
theorem conv_i {Q : QD} {μ : Mu} {b b' : Int} (e : b = b') (q : Q (.d (.int b')) μ) : Q (.d (.int b)) μ := by rw [e]; exact q
theorem conv_d {P : D → Prop} {b b' : D} (e : b = b') (q : P b') : P b := by rw [e]; exact q
/-! ### items by known places -/
class AtM {α : Type} (xs : List α) (i : Int) (x : outParam α) : Prop where
  p : 0 ≤ i
  eq : xs[i.toNat]? = some x
theorem AtM.nat {α : Type} {xs : List α} {i : Nat} {x : α} (h : xs[i]? = some x) : AtM xs ((i : Nat) : Int) x := ⟨by omega, by rw [show ((i : Nat) : Int).toNat = i by omega]; exact h⟩
theorem AtM.nat0 {α : Type} {xs : List α} {i : Nat} {x : α} (h : xs[i]? = some x) : AtM xs (0 + ((i : Nat) : Int)) x := by rw [Int.zero_add]; exact AtM.nat h
section
variable {α : Type} {xs : List α} {i : Int} {x : α} {f : α → D} {μ : Mu} {Q : QD}
theorem atM_map (h : AtM xs i x) : atI (xs.map f) i = some (f x) := by
  have e : (xs.map f)[i.toNat]? = some (f x) := by rw [List.getElem?_map, h.eq]; rfl
  have e2 := atI_nat e
  rwa [show ((i.toNat : Nat) : Int) = i by have := h.p; omega] at e2
instance (priority := 4000) [h : AtM xs i x] : Stp (dIx (.d (.tup (xs.map f))) (.d (.int i)) μ Q) (Q (.d (f x)) μ) := ⟨fun z => ⟨i, rfl, .inl ⟨_, _, _, rfl, rfl, atM_map h, z⟩⟩⟩
instance (priority := 4000) [h : AtM xs i x] : Stp (dIx (.d (.lst (xs.map f))) (.d (.int i)) μ Q) (Q (.d (f x)) μ) := ⟨fun z => ⟨i, rfl, .inl ⟨_, _, _, rfl, rfl, atM_map h, z⟩⟩⟩
/-- an item at a place within -/
theorem atM_in (h0 : 0 ≤ i) (h1 : i < xs.length) : ∃ x, AtM xs i x ∧ x ∈ xs := ⟨xs[i.toNat]'(by omega), ⟨h0, List.getElem?_eq_getElem _⟩, List.getElem_mem _⟩
instance (priority := 200) : Stp (dIx (.d (.tup (xs.map f))) (.d (.int i)) μ Q) (0 ≤ i ∧ i < xs.length ∧ ∀ x, AtM xs i x → x ∈ xs → Q (.d (f x)) μ) := ⟨fun ⟨h0, h1, q⟩ => by
  obtain ⟨x, h, hm⟩ := atM_in h0 h1
  exact stp (q x h hm)⟩
instance (priority := 200) : Stp (dIx (.d (.lst (xs.map f))) (.d (.int i)) μ Q) (0 ≤ i ∧ i < xs.length ∧ ∀ x, AtM xs i x → x ∈ xs → Q (.d (f x)) μ) := ⟨fun ⟨h0, h1, q⟩ => by
  obtain ⟨x, h, hm⟩ := atM_in h0 h1
  exact stp (q x h hm)⟩
end
/-! ### rules -/
structure Ru where
  a : Int
  b : Int
  z : Str
structure RuOk (r : Ru) : Prop where
  a0 : 0 ≤ r.a
  a1 : r.a ≤ 5
  b0 : 0 ≤ r.b
  b1 : r.b ≤ 100
  z : r.z = "best" ∨ r.z = "last" ∨ r.z = "mean"
theorem RuOk.zl {r : Ru} (h : RuOk r) : r.z.length = 4 := by
  rcases h.z with h | h | h <;> rw [h] <;> decide
abbrev ruD (C : Addr) (r : Ru) : D := .ins C ["drop", "cut", "second"] [.int r.a, .int r.b, .str r.z]
instance {a b c : D} : LookD "drop" ["drop", "cut", "second"] [a, b, c] a := ⟨by unfold lookD; rw [if_pos rfl]⟩
instance {a b c : D} : LookD "cut" ["drop", "cut", "second"] [a, b, c] b := ⟨by unfold lookD; rw [if_neg (by decide +kernel)]; unfold lookD; rw [if_pos rfl]⟩
instance {a b c : D} : LookD "second" ["drop", "cut", "second"] [a, b, c] c := ⟨by unfold lookD; rw [if_neg (by decide +kernel)]; unfold lookD; rw [if_neg (by decide +kernel)]; unfold lookD; rw [if_pos rfl]⟩
/-! ### works -/
structure Tk where
  d : Int
  m : Int
  x : Bool
structure TkOk (t : Tk) : Prop where
  d0 : 0 ≤ t.d
  d1 : t.d ≤ 200
  m0 : 1 ≤ t.m
  m1 : t.m ≤ 100
abbrev tkD (t : Tk) : D := .tup [.int t.d, .int t.m, .bl t.x]
structure WorksOk (ts : List Tk) : Prop where
  l0 : 1 ≤ ts.length
  l1 : ts.length ≤ 12
  all : ∀ t ∈ ts, TkOk t
  up : (ts.map (·.d)).Pairwise (· ≤ ·)
/-! ### results, scores -/
def lateF (p d c : Int) : Int := if p - p * c * d / 100 > 0 then p - p * c * d / 100 else 0
theorem late_range {p d c : Int} (hp : 0 ≤ p) (hd : 0 ≤ d) (hc : 0 ≤ c) : 0 ≤ lateF p d c ∧ lateF p d c ≤ p := by
  have h : 0 ≤ p * c * d := Int.mul_nonneg (Int.mul_nonneg hp hc) hd
  have h2 : 0 ≤ p * c * d / 100 := Int.ediv_nonneg h (by decide)
  unfold lateF
  split <;> omega
theorem late_wide {p c : Int} (hp : 0 ≤ p) (hp2 : p ≤ 1000) (hc : 0 ≤ c) (hc2 : c ≤ 1000) : 0 ≤ p * c ∧ p * c ≤ 1000000 := by
  refine ⟨Int.mul_nonneg hp hc, ?_⟩
  exact Int.mul_le_mul hp2 hc2 hc (by decide)
inductive Res where
  | no | exc
  | tr (ts : List (Int × Int))
def tryD (t : Int × Int) : D := .tup [.int t.1, .int t.2]
def resD : Res → D
  | .no => .non
  | .exc => .str "excused"
  | .tr ts => .tup (ts.map tryD)
class TrC (ds : List D) (ts : outParam (List (Int × Int))) : Prop where
  eq : ds = ts.map tryD
instance {ts : List (Int × Int)} : TrC (ts.map tryD) ts := ⟨rfl⟩
instance : TrC [] [] := ⟨rfl⟩
instance {p d : Int} {r : List D} {ts : List (Int × Int)} [h : TrC r ts] : TrC (.tup [.int p, .int d] :: r) ((p, d) :: ts) := ⟨by rw [h.eq]; rfl⟩
class ResC (d : D) (o : outParam Res) : Prop where
  eq : d = resD o
instance {o : Res} : ResC (resD o) o := ⟨rfl⟩
instance : ResC .non .no := ⟨rfl⟩
instance : ResC (.str "excused") .exc := ⟨rfl⟩
instance {ds : List D} {ts : List (Int × Int)} [h : TrC ds ts] : ResC (.tup ds) (.tr ts) := ⟨by rw [h.eq]; rfl⟩
structure TryOk (m : Int) (t : Int × Int) : Prop where
  p0 : 0 ≤ t.1
  p1 : t.1 ≤ m
  d0 : 0 ≤ t.2
  d1 : t.2 ≤ 200
def ResOk (m : Int) : Res → Prop
  | .tr ts => 1 ≤ ts.length ∧ ts.length ≤ 3 ∧ (∀ t ∈ ts, TryOk m t) ∧ (ts.map (·.2)).Pairwise (· ≤ ·)
  | _ => True
theorem plain_tries : ∀ ts : List (Int × Int), plainAll (ts.map tryD) = true
  | [] => rfl
  | t :: ts => by rw [List.map_cons]; unfold plainAll; rw [plain_tries ts]; rfl
theorem noDct_tries : ∀ ts : List (Int × Int), noDctAll (ts.map tryD) = true
  | [] => rfl
  | t :: ts => by rw [List.map_cons]; unfold noDctAll; rw [noDct_tries ts]; rfl
instance {t : Int × Int} : PlC (tryD t) := ⟨rfl⟩
instance {o : Res} : PlC (resD o) := ⟨by cases o <;> first | rfl | exact plain_tries _⟩
def lateOf (d c : Int) (t : Int × Int) : Int := lateF t.1 (if t.2 - d > 0 then t.2 - d else 0) c
/-- the greatest -/
def maxI : List Int → Int
  | [] => 0
  | [a] => a
  | a :: b :: r => max a (maxI (b :: r))
theorem maxI_mem : ∀ {ns : List Int}, ns ≠ [] → maxI ns ∈ ns
  | [], h => absurd rfl h
  | [a], _ => by simp [maxI]
  | a :: b :: r, _ => by
    have := maxI_mem (ns := b :: r) (by simp)
    unfold maxI
    by_cases h : a ≤ maxI (b :: r)
    · rw [Int.max_eq_right h]; exact List.mem_cons_of_mem _ this
    · rw [Int.max_eq_left (by omega)]; exact List.mem_cons_self
theorem maxI_ge : ∀ {ns : List Int}, ∀ y ∈ ns, y ≤ maxI ns
  | [], y, h => by cases h
  | [a], y, h => by rw [List.mem_singleton.mp h]; exact Int.le_refl _
  | a :: b :: r, y, h => by
    unfold maxI
    rcases List.mem_cons.mp h with h | h
    · rw [h]; exact Int.le_max_left _ _
    · exact Int.le_trans (maxI_ge y h) (Int.le_max_right _ _)
theorem maxI_eq {ns : List Int} {m : Int} (h : m ∈ ns) (h2 : ∀ y ∈ ns, y ≤ m) : m = maxI ns := by
  have a := maxI_ge m h
  have b := h2 _ (maxI_mem (List.ne_nil_of_mem h))
  omega
def countF (z : Str) (ns : List Int) : Int := if z = "best" then maxI ns else if z = "last" then ns.getLast?.getD 0 else ns.sum / ns.length
def scoreF (t : Tk) (r : Ru) : Res → Option Int
  | .no => some 0
  | .exc => none
  | .tr ts => some (countF r.z (ts.map (lateOf t.d r.b)))
def scD : Option Int → D
  | none => .non
  | some i => .int i
instance {o : Option Int} : IsNo (scD o) o.isNone := ⟨by cases o <;> rfl⟩
instance {o : Option Int} : PlC (scD o) := ⟨by cases o <;> rfl⟩
class ScC (d : D) (o : outParam (Option Int)) : Prop where
  eq : d = scD o
instance {o : Option Int} : ScC (scD o) o := ⟨rfl⟩
instance : ScC .non none := ⟨rfl⟩
instance {i : Int} : ScC (.int i) (some i) := ⟨rfl⟩
theorem late_of {d c m : Int} {t : Int × Int} (hc : 0 ≤ c) (h : TryOk m t) : 0 ≤ lateOf d c t ∧ lateOf d c t ≤ m := by
  obtain ⟨h1, h2, h3, h4⟩ := h
  unfold lateOf
  have hd : 0 ≤ (if t.2 - d > 0 then t.2 - d else 0) := by split <;> omega
  obtain ⟨k1, k2⟩ := late_range h1 hd hc
  exact ⟨k1, by omega⟩
theorem sum_range {m : Int} : ∀ {ns : List Int}, (∀ y ∈ ns, 0 ≤ y ∧ y ≤ m) → 0 ≤ ns.sum ∧ ns.sum ≤ m * ns.length
  | [], _ => by simp
  | n :: ns, h => by
    have h1 := h n (by simp)
    have h2 := sum_range (ns := ns) fun y hy => h y (by simp [hy])
    rw [List.sum_cons, List.length_cons, Int.natCast_succ, Int.mul_add, Int.mul_one]
    omega
theorem score_range {t : Tk} {r : Ru} {o : Res} {i : Int} (hr : RuOk r) (h : ResOk t.m o) (hm : 0 ≤ t.m) (e : scoreF t r o = some i) : 0 ≤ i ∧ i ≤ t.m := by
  cases o with
  | no => cases e; exact ⟨Int.le_refl _, hm⟩
  | exc => cases e
  | tr ts =>
    obtain ⟨l1, l3, hall, hp⟩ := h
    have e := (Option.some.inj e).symm
    have hb : ∀ y ∈ ts.map (lateOf t.d r.b), 0 ≤ y ∧ y ≤ t.m := fun y hy => by
      obtain ⟨u, hu, rfl⟩ := List.mem_map.mp hy
      exact late_of hr.b0 (hall u hu)
    have hl : (ts.map (lateOf t.d r.b)).length = ts.length := List.length_map ..
    have hn : ts.map (lateOf t.d r.b) ≠ [] := fun z => by rw [z] at hl; simp at hl; omega
    generalize ts.map (lateOf t.d r.b) = ns at *
    subst e
    unfold countF
    split
    · exact hb _ (maxI_mem hn)
    · split
      · obtain ⟨y, hy⟩ := Option.isSome_iff_exists.mp (List.getLast?_isSome.mpr hn)
        rw [hy]
        exact hb y (List.mem_of_getLast? hy)
      · obtain ⟨s1, s2⟩ := sum_range hb
        have : 1 ≤ ns.length := List.length_pos_iff.mpr hn
        refine ⟨Int.ediv_nonneg s1 (by omega), ?_⟩
        have h2 : ns.sum / ns.length ≤ (t.m * ns.length) / ns.length := Int.ediv_le_ediv (by omega) s2
        rwa [Int.mul_ediv_cancel _ (by omega)] at h2
/-! ### rows, drops, extra points -/
def mnK (n d : Int) : Int := if n - d > 1 then n - d else 1
structure DrOk (rows : List Km.Row) (d ex : Int) : Prop where
  rows : RowsOk rows
  d0 : 0 ≤ d
  d1 : d ≤ 5
  e0 : 0 ≤ ex
  e1 : ex < 2 ^ 100
abbrev KeptD (rows : List Km.Row) (d ex : Int) (ks : List Int) : Prop := Kept rows (mnK rows.length d).toNat ex ks
open Classical in
/-- the kept rows -/
noncomputable def kpF (rows : List Km.Row) (d ex : Int) : List Int := if h : ∃ ks, KeptD rows d ex ks then Classical.choose h else []
abbrev mkD (C : Addr) (p m : Int) : D := .ins C ["points", "most"] [.int p, .int m]
instance {a b : D} : LookD "points" ["points", "most"] [a, b] a := ⟨by unfold lookD; rw [if_pos rfl]⟩
instance {a b : D} : LookD "most" ["points", "most"] [a, b] b := ⟨by unfold lookD; rw [if_neg (by decide +kernel)]; unfold lookD; rw [if_pos rfl]⟩
structure MkOk (p m : Int) : Prop where
  p0 : 0 ≤ p
  p1 : p < 2 ^ 150
  m0 : 1 ≤ m
  m1 : m < 2 ^ 150
noncomputable abbrev kpP (rows : List Km.Row) (d ex : Int) : Int := sp rows (kpF rows d ex) + ex
noncomputable abbrev kpM (rows : List Km.Row) (d ex : Int) : Int := sq rows (kpF rows d ex)
/-! ### sheets -/
structure Wk where
  t : Tk
  r : Ru
  o : Res
def scF (e : Wk) : Option Int := scoreF e.t e.r e.o
structure WkOk (e : Wk) : Prop where
  t : TkOk e.t
  r : RuOk e.r
  o : ResOk e.t.m e.o
structure ShOk (es : List Wk) : Prop where
  l0 : 1 ≤ es.length
  l1 : es.length ≤ 12
  all : ∀ e ∈ es, WkOk e
  up : (es.map (·.t.d)).Pairwise (· ≤ ·)
def wksD (es : List Wk) : D := .tup (es.map fun e => tkD e.t)
def rusD (Cr : Addr) (es : List Wk) : D := .tup (es.map fun e => ruD Cr e.r)
def rssD (es : List Wk) : D := .tup (es.map fun e => resD e.o)
abbrev shD (C Cr : Addr) (es : List Wk) (dr : Int) : D := .ins C ["works", "rules", "results", "drop"] [.tup (es.map fun e => tkD e.t), .tup (es.map fun e => ruD Cr e.r), .tup (es.map fun e => resD e.o), .int dr]
instance {a b c d : D} : LookD "works" ["works", "rules", "results", "drop"] [a, b, c, d] a := ⟨by unfold lookD; rw [if_pos rfl]⟩
instance {a b c d : D} : LookD "rules" ["works", "rules", "results", "drop"] [a, b, c, d] b := ⟨by unfold lookD; rw [if_neg (by decide +kernel)]; unfold lookD; rw [if_pos rfl]⟩
instance {a b c d : D} : LookD "results" ["works", "rules", "results", "drop"] [a, b, c, d] c := ⟨by unfold lookD; rw [if_neg (by decide +kernel)]; unfold lookD; rw [if_neg (by decide +kernel)]; unfold lookD; rw [if_pos rfl]⟩
instance {a b c d : D} : LookD "drop" ["works", "rules", "results", "drop"] [a, b, c, d] d := ⟨by unfold lookD; rw [if_neg (by decide +kernel)]; unfold lookD; rw [if_neg (by decide +kernel)]; unfold lookD; rw [if_neg (by decide +kernel)]; unfold lookD; rw [if_pos rfl]⟩
/-- is counted -/
def cntB (e : Wk) : Bool := (scF e).isSome && !e.t.x
def cntP (es : List Wk) : List (Wk × Nat) := es.zipIdx.filter fun p => cntB p.1
def rowF (e : Wk) : Km.Row := ((scF e).getD 0, e.t.m)
def rowsF (es : List Wk) : List Km.Row := (cntP es).map fun p => rowF p.1
def exF (es : List Wk) : Int := ((es.filter fun e => e.t.x && (scF e).isSome).map fun e => (scF e).getD 0).sum
theorem zip_at {α : Type} {es : List α} {p : α × Nat} (h : p ∈ es.zipIdx) : es[p.2]? = some p.1 := by
  obtain ⟨a, b⟩ := p
  exact List.mk_mem_zipIdx_iff_getElem?.mp h
theorem cntP_at {es : List Wk} {p : Wk × Nat} (h : p ∈ cntP es) : es[p.2]? = some p.1 ∧ cntB p.1 = true := by
  obtain ⟨h1, h2⟩ := List.mem_filter.mp h
  exact ⟨zip_at h1, h2⟩
theorem sc_get {e : Wk} (h : cntB e = true) : scD (scF e) = .int ((scF e).getD 0) := by
  unfold cntB at h
  cases hs : scF e with
  | none => rw [hs] at h; simp at h
  | some i => rfl
theorem row_okF {e : Wk} (h : WkOk e) (hc : cntB e = true) : 0 ≤ (rowF e).1 ∧ (rowF e).1 ≤ (rowF e).2 ∧ 1 ≤ (rowF e).2 ∧ (rowF e).2 ≤ 100 := by
  unfold cntB at hc
  cases hs : scF e with
  | none => rw [hs] at hc; simp at hc
  | some i =>
    have := score_range h.r h.o (by have := h.t.m0; omega) hs
    unfold rowF
    rw [hs]
    exact ⟨this.1, this.2, h.t.m0, h.t.m1⟩
theorem rows_len (es : List Wk) : (rowsF es).length ≤ es.length := by
  unfold rowsF cntP
  rw [List.length_map]
  have := List.length_filter_le (fun p : Wk × Nat => cntB p.1) es.zipIdx
  rwa [List.length_zipIdx] at this
theorem rows_ok {es : List Wk} (h : ShOk es) (hn : rowsF es ≠ []) : RowsOk (rowsF es) := by
  refine ⟨⟨List.length_pos_iff.mpr hn, Nat.le_trans (rows_len es) h.l1⟩, fun r hr => ?_⟩
  unfold rowsF at hr
  obtain ⟨p, hp, rfl⟩ := List.mem_map.mp hr
  obtain ⟨h1, h2⟩ := cntP_at hp
  exact row_okF (h.all _ (List.mem_of_getElem? h1)) h2
theorem ex_range {es : List Wk} (h : ShOk es) : 0 ≤ exF es ∧ exF es ≤ 1200 := by
  unfold exF
  have hb : ∀ y ∈ (es.filter fun e => e.t.x && (scF e).isSome).map fun e => (scF e).getD 0, 0 ≤ y ∧ y ≤ 100 := fun y hy => by
    obtain ⟨e, he, rfl⟩ := List.mem_map.mp hy
    obtain ⟨h1, h2⟩ := List.mem_filter.mp he
    have ho := h.all e h1
    cases hs : scF e with
    | none => rw [hs] at h2; simp at h2
    | some i =>
      have := score_range ho.r ho.o (by have := ho.t.m0; omega) hs
      have := ho.t.m1
      simp only [Option.getD_some]
      omega
  obtain ⟨s1, s2⟩ := sum_range hb
  refine ⟨s1, ?_⟩
  rw [List.length_map] at s2
  have := List.length_filter_le (fun e : Wk => e.t.x && (scF e).isSome) es
  have := h.l1
  omega
theorem zip2D_map {α : Type} (f g : α → D) : ∀ xs : List α, zip2D (xs.map f) (xs.map g) = xs.map fun x => .tup [f x, g x]
  | [] => rfl
  | x :: xs => by rw [List.map_cons, List.map_cons, List.map_cons, zip2D, zip2D_map f g xs]
theorem zip3D_map {α : Type} (f g h : α → D) : ∀ xs : List α, zip3D (xs.map f) (xs.map g) (xs.map h) = xs.map fun x => .tup [f x, g x, h x]
  | [] => rfl
  | x :: xs => by rw [List.map_cons, List.map_cons, List.map_cons, List.map_cons, zip3D, zip3D_map f g h xs]
end Dl
set_option Elab.async false
set_option linter.all false
set_option maxRecDepth 100000
set_option maxHeartbeats 4000000
set_option synthInstance.maxHeartbeats 4000000
set_option synthInstance.maxSize 100000
/-! ## DY. the program's defs: promises -/
namespace Dl
open PySem PySem.Spec PyProof.Rows L2 Cm Sk Km
variable [Tb : Tbls]
def T_is_whole_from : FnT := fun ss μ Q => ∃ i lo, ss = [.d (.int i), .d (.int lo)] ∧ μ = [] ∧ Q (.d (.bl (decide (lo ≤ i)))) []
def T_is_whole_in : FnT := fun ss μ Q => ∃ i lo hi, ss = [.d (.int i), .d (.int lo), .d (.int hi)] ∧ μ = [] ∧ Q (.d (.bl (decide (lo ≤ i ∧ i ≤ hi)))) []
def T_is_drop : FnT := fun ss μ Q => ∃ i, ss = [.d (.int i)] ∧ μ = [] ∧ Q (.d (.bl (decide (0 ≤ i ∧ i ≤ 5)))) []
def T_is_cut : FnT := fun ss μ Q => ∃ i, ss = [.d (.int i)] ∧ μ = [] ∧ Q (.d (.bl (decide (0 ≤ i ∧ i ≤ 100)))) []
def T_is_day : FnT := fun ss μ Q => ∃ i, ss = [.d (.int i)] ∧ μ = [] ∧ Q (.d (.bl (decide (0 ≤ i ∧ i ≤ 200)))) []
def T_look_at_day : FnT := fun ss μ Q => ∃ i, ss = [.d (.int i)] ∧ μ = [] ∧ (0 ≤ i ∧ i ≤ 200) ∧ Q (.d .non) []
def T_is_second : FnT := fun ss μ Q => ∃ z : Str, ss = [.d (.str z)] ∧ μ = [] ∧ (z = "best" ∨ z = "last" ∨ z = "mean") ∧ Q (.d (.bl true)) []
def T_Rules___init__ (C : Addr) : FnT := fun ss μ Q => ∃ a b z, ss = [.cel 0, .d (.int a), .d (.int b), .d (.str z)] ∧ μ = [some (.obj C [] [])] ∧ RuOk ⟨a, b, z⟩ ∧ Q (.d .non) [some (.obj C ["drop", "cut", "second"] [.int a, .int b, .str z])]
def T_rules_like (C : Addr) : FnT := fun ss μ Q => ∃ a b z, ss = [.d (ruD C ⟨a, b, z⟩)] ∧ μ = [] ∧ RuOk ⟨a, b, z⟩ ∧ Q (.d (ruD C ⟨a, b, z⟩)) []
def T_has_parts : FnT := fun ss μ Q => ∃ ds lo hi, ss = [.d (.tup ds), .d (.int lo), .d (.int hi)] ∧ μ = [] ∧ Q (.d (.bl (decide (lo ≤ ds.length ∧ ds.length ≤ hi)))) []
def T_never_falls : FnT := fun ss μ Q => ∃ ns : List Int, ss = [.d (.lst (ns.map .int))] ∧ μ = [] ∧ ns.length < 64 ∧ ns.Pairwise (· ≤ ·) ∧ Q (.d (.bl true)) []
def T_is_rising : FnT := fun ss μ Q => ∃ ns : List Int, ss = [.d (.tup (ns.map .int))] ∧ μ = [] ∧ ns.length < 64 ∧ ns.Pairwise (· < ·) ∧ Q (.d (.bl true)) []
def T_is_work : FnT := fun ss μ Q => ∃ d m x, ss = [.d (tkD ⟨d, m, x⟩)] ∧ μ = [] ∧ TkOk ⟨d, m, x⟩ ∧ Q (.d (.bl true)) []
def T_are_works : FnT := fun ss μ Q => ∃ (α : Type) (es : List α) (f : α → Tk), ss = [.d (.tup (es.map fun e => tkD (f e)))] ∧ μ = [] ∧ WorksOk (es.map f) ∧ Q (.d (.bl true)) []
def T_look_at_works : FnT := fun ss μ Q => ∃ (α : Type) (es : List α) (f : α → Tk), ss = [.d (.tup (es.map fun e => tkD (f e)))] ∧ μ = [] ∧ WorksOk (es.map f) ∧ Q (.d .non) []
def T_late_points : FnT := fun ss μ Q => ∃ p d c, ss = [.d (.int p), .d (.int d), .d (.int c)] ∧ μ = [] ∧ (0 ≤ p ∧ p ≤ 1000) ∧ (0 ≤ d ∧ d ≤ 1000) ∧ (0 ≤ c ∧ c ≤ 1000) ∧ Q (.d (.int (lateF p d c))) []
def T_is_try : FnT := fun ss μ Q => ∃ d m x p e, ss = [.d (tkD ⟨d, m, x⟩), .d (.tup [.int p, .int e])] ∧ μ = [] ∧ (0 ≤ p ∧ p ≤ m) ∧ (0 ≤ e ∧ e ≤ 200) ∧ Q (.d (.bl true)) []
def T_are_tries : FnT := fun ss μ Q => ∃ d m x ts, ss = [.d (tkD ⟨d, m, x⟩), .d (.tup (ts.map tryD))] ∧ μ = [] ∧ ResOk m (.tr ts) ∧ Q (.d (.bl true)) []
def T_is_result : FnT := fun ss μ Q => ∃ d m x o, ss = [.d (tkD ⟨d, m, x⟩), .d (resD o)] ∧ μ = [] ∧ TkOk ⟨d, m, x⟩ ∧ ResOk m o ∧ Q (.d (.bl true)) []
def T_counted_of (C : Addr) : FnT := fun ss μ Q => ∃ a b z ns, ss = [.d (ruD C ⟨a, b, z⟩), .d (.lst (ns.map .int))] ∧ μ = [] ∧ RuOk ⟨a, b, z⟩ ∧ 0 < ns.length ∧ ns.length ≤ 3 ∧ Q (.d (.int (countF z ns))) []
def T_score (C : Addr) : FnT := fun ss μ Q => ∃ d m x a b z o, ss = [.d (tkD ⟨d, m, x⟩), .d (ruD C ⟨a, b, z⟩), .d (resD o)] ∧ μ = [] ∧ TkOk ⟨d, m, x⟩ ∧ RuOk ⟨a, b, z⟩ ∧ ResOk m o ∧ Q (.d (scD (scoreF ⟨d, m, x⟩ ⟨a, b, z⟩ o))) []
def T_Mark___init__ (C : Addr) : FnT := fun ss μ Q => ∃ p m, ss = [.cel 0, .d (.int p), .d (.int m)] ∧ μ = [some (.obj C [] [])] ∧ 0 ≤ p ∧ 1 ≤ m ∧ Q (.d .non) [some (.obj C ["points", "most"] [.int p, .int m])]
def T_Mark___eq__ (C : Addr) : FnT := fun ss μ Q => ∃ p m p' m', ss = [.d (mkD C p m), .d (mkD C p' m')] ∧ μ = [] ∧ MkOk p m ∧ MkOk p' m' ∧ Q (.d (.bl (decide (p * m' = p' * m)))) []
def T_is_above (C : Addr) : FnT := fun ss μ Q => ∃ p m p' m', ss = [.d (mkD C p m), .d (mkD C p' m')] ∧ μ = [] ∧ MkOk p m ∧ MkOk p' m' ∧ Q (.d (.bl (decide (p * m' > p' * m)))) []
def T_is_row : FnT := fun ss μ Q => ∃ r, ss = [.d (rowD r)] ∧ μ = [] ∧ (0 ≤ r.1 ∧ r.1 ≤ r.2 ∧ 1 ≤ r.2 ∧ r.2 ≤ 100) ∧ Q (.d (.bl true)) []
def T_are_rows : FnT := fun ss μ Q => ∃ rows, ss = [.d (.tup (rows.map rowD))] ∧ μ = [] ∧ RowsOk rows ∧ Q (.d (.bl true)) []
def T_look_at : FnT := fun ss μ Q => ∃ rows d ex, ss = [.d (.tup (rows.map rowD)), .d (.int d), .d (.int ex)] ∧ μ = [] ∧ DrOk rows d ex ∧ Q (.d .non) []
def T_many_kept : FnT := fun ss μ Q => ∃ n d, ss = [.d (.int n), .d (.int d)] ∧ μ = [] ∧ Q (.d (.int (mnK n d))) []
def T_totals : FnT := fun ss μ Q => ∃ rows ks ex, ss = [.d (.tup (rows.map rowD)), .d (.tup (ks.map .int)), .d (.int ex)] ∧ μ = [] ∧ ks.length ≤ 100 ∧ (∀ k ∈ ks, Rng rows.length k) ∧ Q (.d (.tup [.int (sp rows ks + ex), .int (sq rows ks)])) []
def T_lift : FnT := fun ss μ Q => ∃ r P M, ss = [.d (rowD r), .d (.int P), .d (.int M)] ∧ μ = [] ∧ (0 ≤ r.1 ∧ r.1 ≤ 100) ∧ (0 ≤ r.2 ∧ r.2 ≤ 100) ∧ (0 ≤ P ∧ P < 2 ^ 150) ∧ (0 ≤ M ∧ M < 2 ^ 150) ∧ Q (.d (.int (M * r.1 - P * r.2))) []
def T_lifting_most : FnT := fun ss μ Q => ∃ (rows : List Km.Row) (m P M : Int), ss = [.d (.tup (rows.map rowD)), .d (.int m), .d (.int P), .d (.int M)] ∧ μ = [] ∧ RowsOk rows ∧ 0 ≤ m ∧ (0 ≤ P ∧ P < 2 ^ 150) ∧ (0 ≤ M ∧ M < 2 ^ 150) ∧ Q (.d (.tup ((better rows m.toNat P M).map .int))) []
def T_best_kept : FnT := fun ss μ Q => ∃ rows d ex, ss = [.d (.tup (rows.map rowD)), .d (.int d), .d (.int ex)] ∧ μ = [] ∧ DrOk rows d ex ∧ Q (.d (.tup ((kpF rows d ex).map .int))) []
def T_kept_rows : FnT := T_best_kept
def T_best_mark (C : Addr) : FnT := fun ss μ Q => ∃ rows d ex, ss = [.d (.tup (rows.map rowD)), .d (.int d), .d (.int ex)] ∧ μ = [] ∧ DrOk rows d ex ∧ Q (.d (mkD C (kpP rows d ex) (kpM rows d ex))) []
def T_paper_of : FnT := fun ss μ Q => ∃ rows d ex, ss = [.d (.tup (rows.map rowD)), .d (.int d), .d (.int ex)] ∧ μ = [] ∧ DrOk rows d ex ∧ Q (.d (.tup [.tup ((kpF rows d ex).map .int), .int (kpP rows d ex), .int (kpM rows d ex)])) []
def T_are_rules_for (C : Addr) : FnT := fun ss μ Q => ∃ es, ss = [.d (wksD es), .d (rusD C es)] ∧ μ = [] ∧ ShOk es ∧ Q (.d (.bl true)) []
def T_are_results_of : FnT := fun ss μ Q => ∃ es, ss = [.d (wksD es), .d (rssD es)] ∧ μ = [] ∧ ShOk es ∧ Q (.d (.bl true)) []
def T_scores_of (C Cr : Addr) : FnT := fun ss μ Q => ∃ es dr, ss = [.d (shD C Cr es dr)] ∧ μ = [] ∧ ShOk es ∧ Q (.d (.lst (es.map fun e => scD (scF e)))) []
def T_counted_in : FnT := fun ss μ Q => ∃ es : List Wk, ss = [.d (wksD es), .d (.lst (es.map fun e => scD (scF e)))] ∧ μ = [] ∧ ShOk es ∧ Q (.d (.lst ((cntP es).map fun p => .int (p.2 : Nat)))) []
def T_Sheet___init__ (C Cr : Addr) : FnT := fun ss μ Q => ∃ es dr, ss = [.cel 0, .d (wksD es), .d (rusD Cr es), .d (rssD es), .d (.int dr)] ∧ μ = [some (.obj C [] [])] ∧ ShOk es ∧ (0 ≤ dr ∧ dr ≤ 5) ∧ Q (.d .non) [some (.obj C ["works", "rules", "results", "drop"] [wksD es, rusD Cr es, rssD es, .int dr])]
def T_Sheet_rows (C Cr : Addr) : FnT := fun ss μ Q => ∃ es dr, ss = [.d (shD C Cr es dr)] ∧ μ = [] ∧ ShOk es ∧ Q (.d (.tup ((rowsF es).map rowD))) []
def T_Sheet_extra (C Cr : Addr) : FnT := fun ss μ Q => ∃ es dr, ss = [.d (shD C Cr es dr)] ∧ μ = [] ∧ ShOk es ∧ Q (.d (.int (exF es))) []
/-- the mark of a sheet, as data -/
noncomputable def mkF (Cm : Addr) (es : List Wk) (dr : Int) : D := if rowsF es = [] then .non else mkD Cm (kpP (rowsF es) dr (exF es)) (kpM (rowsF es) dr (exF es))
def T_Sheet_mark (C Cr Cm : Addr) : FnT := fun ss μ Q => ∃ es dr, ss = [.d (shD C Cr es dr)] ∧ μ = [] ∧ ShOk es ∧ (0 ≤ dr ∧ dr ≤ 5) ∧ Q (.d (mkF Cm es dr)) []
/-! a sheet's parts, however they are written -/
class ShL (Cr : outParam Addr) (ds1 ds2 ds3 : List D) (es : outParam (List Wk)) : Prop where
  e1 : ds1 = es.map fun e => tkD e.t
  e2 : ds2 = es.map fun e => ruD Cr e.r
  e3 : ds3 = es.map fun e => resD e.o
instance {Cr : Addr} {es : List Wk} : ShL Cr (es.map fun e => tkD e.t) (es.map fun e => ruD Cr e.r) (es.map fun e => resD e.o) es := ⟨rfl, rfl, rfl⟩
instance {C : Addr} {d m a b : Int} {x : Bool} {z : Str} {r : D} {o : Res} [h : ResC r o] : ShL C [.tup [.int d, .int m, .bl x]] [ruD C ⟨a, b, z⟩] [r] [⟨⟨d, m, x⟩, ⟨a, b, z⟩, o⟩] := ⟨rfl, rfl, by rw [h.eq]; rfl⟩
section
variable {p m p' m' i j lo hi d c a b e ex P M n dr : Int} {x y : Bool} {Q : QD} {z : Str} {C Cr Cm : Addr} {cc : Cell} {ds es : List D} {rows : List Km.Row} {ks : List Int} {ws : List Wk}
instance : Stp (T_is_whole_from [.d (.int i), .d (.int lo)] [] Q) (Q (.d (.bl (decide (lo ≤ i)))) []) := ⟨fun z => ⟨i, lo, rfl, rfl, z⟩⟩
instance : Stp (T_is_whole_in [.d (.int i), .d (.int lo), .d (.int hi)] [] Q) (Q (.d (.bl (decide (lo ≤ i ∧ i ≤ hi)))) []) := ⟨fun z => ⟨i, lo, hi, rfl, rfl, z⟩⟩
instance : Stp (T_is_drop [.d (.int i)] [] Q) (Q (.d (.bl (decide (0 ≤ i ∧ i ≤ 5)))) []) := ⟨fun z => ⟨i, rfl, rfl, z⟩⟩
instance : Stp (T_is_cut [.d (.int i)] [] Q) (Q (.d (.bl (decide (0 ≤ i ∧ i ≤ 100)))) []) := ⟨fun z => ⟨i, rfl, rfl, z⟩⟩
instance : Stp (T_is_day [.d (.int i)] [] Q) (Q (.d (.bl (decide (0 ≤ i ∧ i ≤ 200)))) []) := ⟨fun z => ⟨i, rfl, rfl, z⟩⟩
instance : Stp (T_look_at_day [.d (.int i)] [] Q) ((0 ≤ i ∧ i ≤ 200) ∧ Q (.d .non) []) := ⟨fun z => ⟨i, rfl, rfl, z⟩⟩
instance : Stp (T_is_second [.d (.str z)] [] Q) ((z = "best" ∨ z = "last" ∨ z = "mean") ∧ Q (.d (.bl true)) []) := ⟨fun w => ⟨z, rfl, rfl, w⟩⟩
instance : Stp (T_Rules___init__ C [.cel 0, .d (.int a), .d (.int b), .d (.str z)] [some (.obj C [] [])] Q) (RuOk ⟨a, b, z⟩ ∧ Q (.d .non) [some (.obj C ["drop", "cut", "second"] [.int a, .int b, .str z])]) := ⟨fun w => ⟨a, b, z, rfl, rfl, w⟩⟩
instance : Stp (T_rules_like C [.d (.ins C ["drop", "cut", "second"] [.int a, .int b, .str z])] [] Q) (RuOk ⟨a, b, z⟩ ∧ Q (.d (ruD C ⟨a, b, z⟩)) []) := ⟨fun w => ⟨a, b, z, rfl, rfl, w⟩⟩
instance {n : Nat} [l : LLen ds n] : Stp (T_has_parts [.d (.tup ds), .d (.int lo), .d (.int hi)] [] Q) (Q (.d (.bl (decide (lo ≤ (n : Int) ∧ (n : Int) ≤ hi)))) []) := ⟨fun w => ⟨ds, lo, hi, rfl, rfl, by rw [l.eq]; exact w⟩⟩
instance {ns : List Int} [h : IntsD ds ns] : Stp (T_never_falls [.d (.lst ds)] [] Q) (ns.length < 64 ∧ ns.Pairwise (· ≤ ·) ∧ Q (.d (.bl true)) []) := ⟨fun w => ⟨ns, by rw [h.eq], rfl, w⟩⟩
instance {ns : List Int} [h : IntsD ds ns] : Stp (T_is_rising [.d (.tup ds)] [] Q) (ns.length < 64 ∧ ns.Pairwise (· < ·) ∧ Q (.d (.bl true)) []) := ⟨fun w => ⟨ns, by rw [h.eq], rfl, w⟩⟩
instance : Stp (T_is_work [.d (.tup [.int d, .int m, .bl x])] [] Q) (TkOk ⟨d, m, x⟩ ∧ Q (.d (.bl true)) []) := ⟨fun w => ⟨d, m, x, rfl, rfl, w⟩⟩
instance {α : Type} {xs : List α} {f : α → Tk} : Stp (T_are_works [.d (.tup (xs.map fun e => tkD (f e)))] [] Q) (WorksOk (xs.map f) ∧ Q (.d (.bl true)) []) := ⟨fun w => ⟨α, xs, f, rfl, rfl, w⟩⟩
instance {α : Type} {xs : List α} {f : α → Tk} : Stp (T_look_at_works [.d (.tup (xs.map fun e => tkD (f e)))] [] Q) (WorksOk (xs.map f) ∧ Q (.d .non) []) := ⟨fun w => ⟨α, xs, f, rfl, rfl, w⟩⟩
instance {ts : List Tk} : Stp (T_are_works [.d (.tup (ts.map tkD))] [] Q) (WorksOk ts ∧ Q (.d (.bl true)) []) := ⟨fun w => ⟨Tk, ts, id, rfl, rfl, by rw [List.map_id]; exact w.1, w.2⟩⟩
instance {ts : List Tk} : Stp (T_look_at_works [.d (.tup (ts.map tkD))] [] Q) (WorksOk ts ∧ Q (.d .non) []) := ⟨fun w => ⟨Tk, ts, id, rfl, rfl, by rw [List.map_id]; exact w.1, w.2⟩⟩
instance : Stp (T_late_points [.d (.int p), .d (.int d), .d (.int c)] [] Q) ((0 ≤ p ∧ p ≤ 1000) ∧ (0 ≤ d ∧ d ≤ 1000) ∧ (0 ≤ c ∧ c ≤ 1000) ∧ Q (.d (.int (lateF p d c))) []) := ⟨fun z => ⟨p, d, c, rfl, rfl, z⟩⟩
instance : Stp (T_is_try [.d (.tup [.int d, .int m, .bl x]), .d (.tup [.int p, .int e])] [] Q) ((0 ≤ p ∧ p ≤ m) ∧ (0 ≤ e ∧ e ≤ 200) ∧ Q (.d (.bl true)) []) := ⟨fun w => ⟨d, m, x, p, e, rfl, rfl, w⟩⟩
instance {ts : List (Int × Int)} [h : TrC ds ts] : Stp (T_are_tries [.d (.tup [.int d, .int m, .bl x]), .d (.tup ds)] [] Q) (ResOk m (.tr ts) ∧ Q (.d (.bl true)) []) := ⟨fun w => ⟨d, m, x, ts, by rw [h.eq], rfl, w⟩⟩
instance {o : Res} {r : D} [h : ResC r o] : Stp (T_is_result [.d (.tup [.int d, .int m, .bl x]), .d r] [] Q) (TkOk ⟨d, m, x⟩ ∧ ResOk m o ∧ Q (.d (.bl true)) []) := ⟨fun w => ⟨d, m, x, o, by rw [h.eq], rfl, w⟩⟩
instance {ns : List Int} [h : IntsD ds ns] : Stp (T_counted_of C [.d (.ins C ["drop", "cut", "second"] [.int a, .int b, .str z]), .d (.lst ds)] [] Q) (RuOk ⟨a, b, z⟩ ∧ 0 < ns.length ∧ ns.length ≤ 3 ∧ Q (.d (.int (countF z ns))) []) := ⟨fun w => ⟨a, b, z, ns, by rw [h.eq], rfl, w⟩⟩
instance {o : Res} {r : D} [h : ResC r o] : Stp (T_score C [.d (.tup [.int d, .int m, .bl x]), .d (.ins C ["drop", "cut", "second"] [.int a, .int b, .str z]), .d r] [] Q) (TkOk ⟨d, m, x⟩ ∧ RuOk ⟨a, b, z⟩ ∧ ResOk m o ∧ Q (.d (scD (scoreF ⟨d, m, x⟩ ⟨a, b, z⟩ o))) []) := ⟨fun w => ⟨d, m, x, a, b, z, o, by rw [h.eq], rfl, w⟩⟩
instance : Stp (T_Mark___init__ C [.cel 0, .d (.int p), .d (.int m)] [some (.obj C [] [])] Q) (0 ≤ p ∧ 1 ≤ m ∧ Q (.d .non) [some (.obj C ["points", "most"] [.int p, .int m])]) := ⟨fun w => ⟨p, m, rfl, rfl, w⟩⟩
instance : Stp (T_Mark___eq__ C [.d (mkD C p m), .d (mkD C p' m')] [] Q) (MkOk p m ∧ MkOk p' m' ∧ Q (.d (.bl (decide (p * m' = p' * m)))) []) := ⟨fun w => ⟨p, m, p', m', rfl, rfl, w⟩⟩
instance : Stp (T_is_above C [.d (mkD C p m), .d (mkD C p' m')] [] Q) (MkOk p m ∧ MkOk p' m' ∧ Q (.d (.bl (decide (p * m' > p' * m)))) []) := ⟨fun w => ⟨p, m, p', m', rfl, rfl, w⟩⟩
instance {r : Km.Row} {e : D} [h : RowC e r] : Stp (T_is_row [.d e] [] Q) ((0 ≤ r.1 ∧ r.1 ≤ r.2 ∧ 1 ≤ r.2 ∧ r.2 ≤ 100) ∧ Q (.d (.bl true)) []) := ⟨fun w => ⟨r, by rw [h.eq], rfl, w⟩⟩
instance [h : RowsC ds rows] : Stp (T_are_rows [.d (.tup ds)] [] Q) (RowsOk rows ∧ Q (.d (.bl true)) []) := ⟨fun w => ⟨rows, by rw [h.eq], rfl, w⟩⟩
instance [h : RowsC ds rows] : Stp (T_look_at [.d (.tup ds), .d (.int d), .d (.int ex)] [] Q) (DrOk rows d ex ∧ Q (.d .non) []) := ⟨fun w => ⟨rows, d, ex, by rw [h.eq], rfl, w⟩⟩
instance : Stp (T_many_kept [.d (.int n), .d (.int d)] [] Q) (Q (.d (.int (mnK n d))) []) := ⟨fun w => ⟨n, d, rfl, rfl, w⟩⟩
instance [h : RowsC ds rows] [g : IntsD es ks] : Stp (T_totals [.d (.tup ds), .d (.tup es), .d (.int ex)] [] Q) (ks.length ≤ 100 ∧ (∀ k ∈ ks, Rng rows.length k) ∧ Q (.d (.tup [.int (sp rows ks + ex), .int (sq rows ks)])) []) := ⟨fun w => ⟨rows, ks, ex, by rw [h.eq, g.eq], rfl, w⟩⟩
instance {r : Km.Row} {e : D} [h : RowC e r] : Stp (T_lift [.d e, .d (.int P), .d (.int M)] [] Q) ((0 ≤ r.1 ∧ r.1 ≤ 100) ∧ (0 ≤ r.2 ∧ r.2 ≤ 100) ∧ (0 ≤ P ∧ P < 2 ^ 150) ∧ (0 ≤ M ∧ M < 2 ^ 150) ∧ Q (.d (.int (M * r.1 - P * r.2))) []) := ⟨fun w => ⟨r, P, M, by rw [h.eq], rfl, w⟩⟩
instance [h : RowsC ds rows] : Stp (T_lifting_most [.d (.tup ds), .d (.int m), .d (.int P), .d (.int M)] [] Q) (RowsOk rows ∧ 0 ≤ m ∧ (0 ≤ P ∧ P < 2 ^ 150) ∧ (0 ≤ M ∧ M < 2 ^ 150) ∧ Q (.d (.tup ((better rows m.toNat P M).map .int))) []) := ⟨fun w => ⟨rows, m, P, M, by rw [h.eq], rfl, w⟩⟩
instance [h : RowsC ds rows] : Stp (T_best_kept [.d (.tup ds), .d (.int d), .d (.int ex)] [] Q) (DrOk rows d ex ∧ Q (.d (.tup ((kpF rows d ex).map .int))) []) := ⟨fun w => ⟨rows, d, ex, by rw [h.eq], rfl, w⟩⟩
instance [h : RowsC ds rows] : Stp (T_kept_rows [.d (.tup ds), .d (.int d), .d (.int ex)] [] Q) (DrOk rows d ex ∧ Q (.d (.tup ((kpF rows d ex).map .int))) []) := ⟨fun w => ⟨rows, d, ex, by rw [h.eq], rfl, w⟩⟩
instance [h : RowsC ds rows] : Stp (T_best_mark C [.d (.tup ds), .d (.int d), .d (.int ex)] [] Q) (DrOk rows d ex ∧ Q (.d (mkD C (kpP rows d ex) (kpM rows d ex))) []) := ⟨fun w => ⟨rows, d, ex, by rw [h.eq], rfl, w⟩⟩
instance [h : RowsC ds rows] : Stp (T_paper_of [.d (.tup ds), .d (.int d), .d (.int ex)] [] Q) (DrOk rows d ex ∧ Q (.d (.tup [.tup ((kpF rows d ex).map .int), .int (kpP rows d ex), .int (kpM rows d ex)])) []) := ⟨fun w => ⟨rows, d, ex, by rw [h.eq], rfl, w⟩⟩
instance : Stp (T_are_rules_for C [.d (.tup (ws.map fun e => tkD e.t)), .d (.tup (ws.map fun e => ruD C e.r))] [] Q) (ShOk ws ∧ Q (.d (.bl true)) []) := ⟨fun w => ⟨ws, rfl, rfl, w⟩⟩
instance : Stp (T_are_results_of [.d (.tup (ws.map fun e => tkD e.t)), .d (.tup (ws.map fun e => resD e.o))] [] Q) (ShOk ws ∧ Q (.d (.bl true)) []) := ⟨fun w => ⟨ws, rfl, rfl, w⟩⟩
instance : Stp (T_scores_of C Cr [.d (shD C Cr ws dr)] [] Q) (ShOk ws ∧ Q (.d (.lst (ws.map fun e => scD (scF e)))) []) := ⟨fun w => ⟨ws, dr, rfl, rfl, w⟩⟩
instance : Stp (T_counted_in [.d (.tup (ws.map fun e => tkD e.t)), .d (.lst (ws.map fun e => scD (scF e)))] [] Q) (ShOk ws ∧ Q (.d (.lst ((cntP ws).map fun p => .int (p.2 : Nat)))) []) := ⟨fun w => ⟨ws, rfl, rfl, w⟩⟩
instance {ds1 ds2 ds3 : List D} [h : ShL Cr ds1 ds2 ds3 ws] : Stp (T_Sheet___init__ C Cr [.cel 0, .d (.tup ds1), .d (.tup ds2), .d (.tup ds3), .d (.int dr)] [some (.obj C [] [])] Q) (ShOk ws ∧ (0 ≤ dr ∧ dr ≤ 5) ∧ Q (.d .non) [some (.obj C ["works", "rules", "results", "drop"] [.tup (ws.map fun e => tkD e.t), .tup (ws.map fun e => ruD Cr e.r), .tup (ws.map fun e => resD e.o), .int dr])]) := ⟨fun w => ⟨ws, dr, by rw [h.e1, h.e2, h.e3]; rfl, rfl, w⟩⟩
instance : Stp (T_Sheet_rows C Cr [.d (shD C Cr ws dr)] [] Q) (ShOk ws ∧ Q (.d (.tup ((rowsF ws).map rowD))) []) := ⟨fun w => ⟨ws, dr, rfl, rfl, w⟩⟩
instance : Stp (T_Sheet_extra C Cr [.d (shD C Cr ws dr)] [] Q) (ShOk ws ∧ Q (.d (.int (exF ws))) []) := ⟨fun w => ⟨ws, dr, rfl, rfl, w⟩⟩
instance : Stp (T_Sheet_mark C Cr Cm [.d (shD C Cr ws dr)] [] Q) (ShOk ws ∧ (0 ≤ dr ∧ dr ≤ 5) ∧ Q (.d (mkF Cm ws dr)) []) := ⟨fun w => ⟨ws, dr, rfl, rfl, w⟩⟩
end
end Dl
set_option Elab.async false
set_option linter.all false
set_option maxRecDepth 100000
set_option maxHeartbeats 4000000
set_option synthInstance.maxHeartbeats 4000000
set_option synthInstance.maxSize 100000
/-! ## DZ. the program's defs: what their proofs need -/
namespace Dl
open PySem PySem.Spec PyProof.Rows L2 Cm Sk Km
variable [Tb : Tbls]
theorem in_seconds {z : Str} (h : z = "best" ∨ z = "last" ∨ z = "mean") : inD (.str z) [.str ("best" : Str), .str ("last" : Str), .str ("mean" : Str)] = true := by
  rcases h with h | h | h <;> rw [h] <;> decide +kernel
theorem noDct_ints : ∀ ns : List Int, noDctAll (ns.map D.int) = true
  | [] => rfl
  | n :: ns => by rw [List.map_cons]; unfold noDctAll; rw [noDct_ints ns]; rfl
theorem plain_ints : ∀ ns : List Int, plainAll (ns.map D.int) = true
  | [] => rfl
  | n :: ns => by rw [List.map_cons]; unfold plainAll; rw [plain_ints ns]; rfl
theorem py_ints (ns : List Int) : py (.lst (ns.map D.int)) = .list (ns.map PyData.int) := by
  simp only [py, pyAll_map, List.map_map]
  rfl
theorem eqOk_ints (ns : List Int) : eqOk (.lst (ns.map D.int)) := ⟨plain_ints ns, noDct_ints ns, by rw [py_ints]; exact ints_shaped ns⟩
theorem eqD_ints (ns ms : List Int) : eqD (.lst (ns.map D.int)) (.lst (ms.map D.int)) = decide (ns = ms) := by
  unfold eqD
  rw [py_ints, py_ints]
  simp only [PyData.eqv]
  exact ints_eqv ns ms
theorem mnK_ok {n d : Int} (h1 : 1 ≤ n) (h2 : 0 ≤ d) : 1 ≤ mnK n d ∧ mnK n d ≤ n := by
  unfold mnK
  split <;> omega
theorem first_lot {n m : Nat} (h : m ≤ n) : Lot n m (rng m) := ⟨rng_length m, rng_nodup m, fun k hk => by
  obtain ⟨a, b⟩ := rng_mem.mp hk
  exact ⟨a, by omega⟩⟩
theorem lot_sums {rows : List Km.Row} {m : Nat} {ks : List Int} {ex : Int} (hr : RowsOk rows) (hm : 1 ≤ m) (h : Lot rows.length m ks) (e0 : 0 ≤ ex) (e1 : ex < 2 ^ 120) :
    0 ≤ sp rows ks + ex ∧ sp rows ks + ex < 2 ^ 150 ∧ 1 ≤ sq rows ks ∧ sq rows ks < 2 ^ 150 ∧ ks.length ≤ 100 := by
  have s := sums_ok hr h.rg
  have l := lot_len h
  have l2 := hr.len.2
  rw [h.len] at s ⊢
  omega
/-- how many steps there are at most -/
def steps (rows : List Km.Row) (m : Nat) (ex : Int) (K : List Int) : Nat := 2 * ((1200 + ex) * 1440000 - pot rows ex K).toNat + (if better rows m (sp rows K + ex) (sq rows K) = K then 0 else 1)
theorem pot_mono {rows : List Km.Row} {m : Nat} {ex : Int} {K B : List Int} (hr : RowsOk rows) (hm : 1 ≤ m) (hK : Lot rows.length m K) (hB : Lot rows.length m B) (h : (sp rows K + ex) * sq rows B ≤ (sp rows B + ex) * sq rows K) : pot rows ex K ≤ pot rows ex B := by
  have sK := sums_ok hr hK.rg
  have sB := sums_ok hr hB.rg
  rw [hK.len] at sK
  rw [hB.len] at sB
  unfold pot
  generalize sp rows K + ex = P at *
  generalize sp rows B + ex = P' at *
  generalize sq rows K = M at *
  generalize sq rows B = M' at *
  have hM : 1 ≤ M := by omega
  have hM' : 1 ≤ M' := by omega
  clear sK sB hr hK hB
  refine Int.le_ediv_of_mul_le (by omega) ?_
  have h1 : (P * 1440000 / M) * M ≤ P * 1440000 := Int.ediv_mul_le _ (by omega)
  have h2 : (P * 1440000 / M) * M * M' ≤ P * 1440000 * M' := Int.mul_le_mul_of_nonneg_right h1 (by omega)
  have h4 : P * M' * 1440000 ≤ P' * M * 1440000 := Int.mul_le_mul_of_nonneg_right h (by decide)
  have h5 : P * 1440000 * M' = P * M' * 1440000 := Int.mul_right_comm ..
  have h7 : P' * M * 1440000 = P' * 1440000 * M := Int.mul_right_comm ..
  have h6 : P * 1440000 / M * M' * M = P * 1440000 / M * M * M' := Int.mul_right_comm ..
  have h8 : (P * 1440000 / M * M') * M ≤ (P' * 1440000) * M := by omega
  exact Int.le_of_mul_le_mul_right h8 (by omega)
theorem steps_lt {rows : List Km.Row} {m : Nat} {ex : Int} {K : List Int} (hr : RowsOk rows) (hm : 1 ≤ m) (he : 0 ≤ ex) (hK : Lot rows.length m K) (hn : better rows m (sp rows K + ex) (sq rows K) ≠ K) :
    steps rows m ex (better rows m (sp rows K + ex) (sq rows K)) < steps rows m ex K := by
  have hB := better_lot (rows := rows) (P := sp rows K + ex) (M := sq rows K) (lot_len hK)
  have le := step_le (ex := ex) hm hK
  have p1 := pot_mono hr hm hK hB le
  have p2 := pot_le hr hm he hB
  by_cases e : (sp rows K + ex) * sq rows (better rows m (sp rows K + ex) (sq rows K)) = (sp rows (better rows m (sp rows K + ex) (sq rows K)) + ex) * sq rows K
  · have f := (step_eq hr hm hK e).fix
    unfold steps
    rw [if_neg hn, if_pos f]
    omega
  · have p3 := pot_lt (ex := ex) hr hm hK hB (by omega)
    unfold steps
    rw [if_neg hn]
    split <;> omega
theorem kept_exists {rows : List Km.Row} {m : Nat} {ex : Int} (hr : RowsOk rows) (hm : 1 ≤ m) (he : 0 ≤ ex) : ∀ (n : Nat) (K : List Int), Lot rows.length m K → steps rows m ex K ≤ n → ∃ ks, Kept rows m ex ks := by
  intro n
  induction n with
  | zero =>
    intro K hK hn
    by_cases e : better rows m (sp rows K + ex) (sq rows K) = K
    · exact ⟨K, hK, e⟩
    · have := steps_lt hr hm he hK e
      omega
  | succ n ih =>
    intro K hK hn
    by_cases e : better rows m (sp rows K + ex) (sq rows K) = K
    · exact ⟨K, hK, e⟩
    · have := steps_lt hr hm he hK e
      exact ih _ (better_lot (P := sp rows K + ex) (M := sq rows K) (lot_len hK)) (by omega)
theorem kp_some {rows : List Km.Row} {d ex : Int} (h : DrOk rows d ex) : ∃ ks, KeptD rows d ex ks := by
  obtain ⟨hr, h2, h3, h4, h5⟩ := h
  have l := hr.len
  obtain ⟨m1, m2⟩ := mnK_ok (n := rows.length) (d := d) (by omega) h2
  exact kept_exists hr (by omega) h4 _ _ (first_lot (by omega)) (Nat.le_refl _)
theorem kp_kept {rows : List Km.Row} {d ex : Int} (h : DrOk rows d ex) : KeptD rows d ex (kpF rows d ex) := by
  unfold kpF
  rw [dif_pos (kp_some h)]
  exact Classical.choose_spec (kp_some h)
theorem kp_eq {rows : List Km.Row} {d ex : Int} {ks : List Int} (h : DrOk rows d ex) (hk : KeptD rows d ex ks) : ks = kpF rows d ex := by
  have l := h.rows.len
  obtain ⟨m1, m2⟩ := mnK_ok (n := rows.length) (d := d) (by omega) h.d0
  exact hk.uniq h.rows (by omega) (kp_kept h)
theorem kp_sums {rows : List Km.Row} {d ex : Int} (h : DrOk rows d ex) : (0 ≤ sp rows (kpF rows d ex) + ex ∧ sp rows (kpF rows d ex) + ex < 2 ^ 150) ∧ (1 ≤ sq rows (kpF rows d ex) ∧ sq rows (kpF rows d ex) < 2 ^ 150) ∧ (kpF rows d ex).length ≤ 12 ∧ (∀ k ∈ kpF rows d ex, Rng rows.length k) ∧ ∀ k ∈ kpF rows d ex, k.natAbs ≤ 2 ^ 150 := by
  have hK := kp_kept h
  obtain ⟨hr, h2, h3, h4, h5⟩ := h
  have l := hr.len
  obtain ⟨m1, m2⟩ := mnK_ok (n := rows.length) (d := d) (by omega) h2
  obtain ⟨s1, s2, s3, s4, s5⟩ := lot_sums hr (by omega) hK.lot h4 (by omega)
  have ll := hK.lot.len
  refine ⟨⟨s1, s2⟩, ⟨s3, s4⟩, by omega, hK.lot.rg, fun k hk => ?_⟩
  have := (hK.lot.rg k hk).1
  have := (hK.lot.rg k hk).2
  omega
theorem eqOk_tries {ts : List (Int × Int)} (h : ts.length ≤ 3) : eqOk (.tup (ts.map tryD)) := by
  rcases ts with _ | ⟨t1, _ | ⟨t2, _ | ⟨t3, _ | ⟨t4, r⟩⟩⟩⟩
  · exact ⟨rfl, rfl, by simp [SeqAt.shaped, py, pyAll, PyData.canLay0, PyData.canLayAll0, PyData.depth, PyData.depthAll]⟩
  · exact ⟨rfl, rfl, by simp [tryD, SeqAt.shaped, py, pyAll, PyData.canLay0, PyData.canLayAll0, PyData.depth, PyData.depthAll]⟩
  · exact ⟨rfl, rfl, by simp [tryD, SeqAt.shaped, py, pyAll, PyData.canLay0, PyData.canLayAll0, PyData.depth, PyData.depthAll]⟩
  · exact ⟨rfl, rfl, by simp [tryD, SeqAt.shaped, py, pyAll, PyData.canLay0, PyData.canLayAll0, PyData.depth, PyData.depthAll]⟩
  · simp at h
theorem enD_map {α : Type} (f : α → D) : ∀ (xs : List α) (i : Nat), enD i (xs.map f) = (xs.zipIdx i).map fun p => .tup [.int (p.2 : Nat), f p.1]
  | [], _ => rfl
  | x :: xs, i => by
    rw [List.map_cons, List.zipIdx_cons, List.map_cons, enD, enD_map f xs (i + 1)]
theorem nonS (o : Option Int) : isNon (.d (scD o)) = o.isNone := by cases o <;> rfl
theorem cnt_t {e : Wk} (h1 : isNon (.d (scD (scF e))) = false) (h2 : e.t.x = false) : cntB e = true := by
  rw [nonS] at h1
  unfold cntB
  rw [h2]
  cases hs : scF e with
  | none => rw [hs] at h1; cases h1
  | some i => rfl
theorem cnt_f1 {e : Wk} (h2 : e.t.x = true) : cntB e = false := by
  unfold cntB
  rw [h2]
  cases (scF e).isSome <;> rfl
theorem cnt_f2 {e : Wk} (h1 : isNon (.d (scD (scF e))) = true) : cntB e = false := by
  rw [nonS] at h1
  unfold cntB
  cases hs : scF e with
  | none => rfl
  | some i => rw [hs] at h1; cases h1
theorem non_get {o : Option Int} (h1 : isNon (.d (scD o)) = false) : scD o = .int (o.getD 0) ∧ o.isSome = true := by
  rw [nonS] at h1
  cases o with
  | none => cases h1
  | some i => exact ⟨rfl, rfl⟩
theorem non_no {o : Option Int} (h1 : isNon (.d (scD o)) = true) : o.isSome = false := by
  rw [nonS] at h1
  cases o with
  | none => rfl
  | some i => cases h1
theorem ShOk.dr {es : List Wk} {dr : Int} (h : ShOk es) (d0 : 0 ≤ dr) (d1 : dr ≤ 5) (hn : rowsF es ≠ []) : DrOk (rowsF es) dr (exF es) := by
  have := ex_range h
  exact ⟨rows_ok h hn, d0, d1, by omega, by omega⟩
theorem ShOk.works {es : List Wk} (h : ShOk es) : WorksOk (es.map Wk.t) := by
  refine ⟨by rw [List.length_map]; exact h.l0, by rw [List.length_map]; exact h.l1, fun t ht => ?_, by rw [List.map_map]; exact h.up⟩
  obtain ⟨e, he, rfl⟩ := List.mem_map.mp ht
  exact (h.all e he).t
section
variable {α : Type} {xs : List α} {f : α → D} {μ : Mu} {Q : QD}
theorem atI_last {x : α} (h : xs.getLast? = some x) : atI (xs.map f) (-1) = some (f x) := by
  have hn : xs ≠ [] := fun e => by rw [e] at h; cases h
  have hl : 0 < xs.length := List.length_pos_iff.mpr hn
  rw [List.getLast?_eq_getElem?] at h
  have e : ixN xs.length (-1) = some (xs.length - 1) := by
    unfold ixN
    rw [if_neg (by decide), if_pos (by omega)]
    congr 1
    omega
  unfold atI
  rw [List.length_map, e]
  show (xs.map f)[xs.length - 1]? = _
  rw [List.getElem?_map, h]; rfl
instance (priority := 5000) : Stp (dIx (.d (.lst (xs.map f))) (.d (.int (-1))) μ Q) (0 < xs.length ∧ ∀ x, xs.getLast? = some x → Q (.d (f x)) μ) := ⟨fun ⟨h0, q⟩ => by
  obtain ⟨x, hx⟩ := Option.isSome_iff_exists.mp (List.getLast?_isSome.mpr (List.length_pos_iff.mp h0))
  exact ⟨-1, rfl, .inl ⟨_, _, _, rfl, rfl, atI_last hx, q x hx⟩⟩⟩
end
end Dl
set_option Elab.async false
set_option linter.all false
set_option maxRecDepth 100000
set_option maxHeartbeats 4000000
/-! ## DV. rows of ints in order: <, <=, >, >= -/
namespace Dl
open PySem PySem.Spec PyProof.Rows L2 Cm
def rTpl (K : PySem.W.Frag) (f : PyData → PyData → Bool) : R2 := fun x y H Q => ∃ d e, Dp K H x d ∧ Dp K H y e ∧ PySem.W.alike d e = true ∧ d ≠ .none ∧ d.depth ≤ 32 ∧ Q (.bl (f d e)) H
abbrev rLtT (K : PySem.W.Frag) : R2 := rTpl K fun d e => PySem.W.dataLt d e
abbrev rGtT (K : PySem.W.Frag) : R2 := rTpl K fun d e => PySem.W.dataLt e d
abbrev rLeT (K : PySem.W.Frag) : R2 := rTpl K fun d e => !PySem.W.dataLt e d
abbrev rGeT (K : PySem.W.Frag) : R2 := rTpl K fun d e => !PySem.W.dataLt d e
section
variable {X : Cx}
theorem op_ltT (hu : X.A.units + 64 < cLine) : OpR X (compareOp .Lt) (rLtT X.K) := by
  intro pins s σ H x y v u Q I rx ry h
  obtain ⟨d, e, hd, he, ha, hn, hp, q⟩ := h
  obtain ⟨as, r1⟩ := Dp.reads I d x v hd rx
  obtain ⟨bs, r2⟩ := Dp.reads I e y u he ry
  exact PySem.W.lt_data r1 r2 ha hn (by omega) ⟨.bl _, H, I, rfl, q⟩
theorem op_gtT (hu : X.A.units + 64 < cLine) : OpR X (compareOp .Gt) (rGtT X.K) := by
  intro pins s σ H x y v u Q I rx ry h
  obtain ⟨d, e, hd, he, ha, hn, hp, q⟩ := h
  obtain ⟨as, r1⟩ := Dp.reads I d x v hd rx
  obtain ⟨bs, r2⟩ := Dp.reads I e y u he ry
  exact PySem.W.gt_data r1 r2 ha hn (by omega) ⟨.bl _, H, I, rfl, q⟩
theorem op_leT (hu : X.A.units + 64 < cLine) : OpR X (compareOp .LtE) (rLeT X.K) := by
  intro pins s σ H x y v u Q I rx ry h
  obtain ⟨d, e, hd, he, ha, hn, hp, q⟩ := h
  obtain ⟨as, r1⟩ := Dp.reads I d x v hd rx
  obtain ⟨bs, r2⟩ := Dp.reads I e y u he ry
  exact PySem.W.le_data r1 r2 ha hn (by omega) ⟨.bl _, H, I, rfl, q⟩
theorem op_geT (hu : X.A.units + 64 < cLine) : OpR X (compareOp .GtE) (rGeT X.K) := by
  intro pins s σ H x y v u Q I rx ry h
  obtain ⟨d, e, hd, he, ha, hn, hp, q⟩ := h
  obtain ⟨as, r1⟩ := Dp.reads I d x v hd rx
  obtain ⟨bs, r2⟩ := Dp.reads I e y u he ry
  exact PySem.W.ge_data r1 r2 ha hn (by omega) ⟨.bl _, H, I, rfl, q⟩
end
variable [Tb : Tbls]
section
variable {K : PySem.W.Frag}
def dTpl (f : List Int → List Int → Bool) : RD2 := fun x y μ Q => ∃ l m : List Int, x = .d (tupI l) ∧ y = .d (tupI m) ∧ Q (.d (.bl (f l m))) μ
theorem opd_tpl {f : PyData → PyData → Bool} {g : List Int → List Int → Bool} (hf : ∀ l m : List Int, f (py (tupI l)) (py (tupI m)) = g l m) : OpD K (rTpl K f) (dTpl g) where
  go := by
    intro N M H μ v w x y Qd Qv st r1 r2 ⟨l, m, e1, e2, q⟩ c
    subst e1 e2
    have pl : ∀ l : List Int, plain (tupI l) = true := fun l => by unfold tupI plain; exact plain_intsT l
    have nd : ∀ l : List Int, noDct (tupI l) = true := fun l => by unfold tupI noDct; exact noDct_intsT l
    refine ⟨_, _, r1.d_inv.dp (pl l) (nd l), r2.d_inv.dp (pl m) (nd m), ?_, ?_, ?_, ?_⟩
    · rw [py_tupI, py_tupI]
      unfold PySem.W.alike
      exact PySem.W.alike_ints l m
    · rw [py_tupI]; exact fun z => nomatch z
    · rw [py_tupI]
      unfold PyData.depth
      rw [PySem.W.depth_ints]
      decide
    · rw [hf]
      exact c.scal st (.bl _) q
theorem dlt (l m : List Int) : PySem.W.dataLt (py (tupI l)) (py (tupI m)) = decide (l < m) := by
  rw [py_tupI, py_tupI, PySem.W.dataLt_tuple]
  exact PySem.W.dataLt_ints l m
instance : OpD K (rLtT K) (dTpl fun l m => decide (l < m)) := opd_tpl fun l m => dlt l m
instance : OpD K (rGtT K) (dTpl fun l m => decide (m < l)) := opd_tpl fun l m => dlt m l
instance : OpD K (rLeT K) (dTpl fun l m => !decide (m < l)) := opd_tpl fun l m => by rw [dlt]
instance : OpD K (rGeT K) (dTpl fun l m => !decide (l < m)) := opd_tpl fun l m => by rw [dlt]
end
section
variable {μ : Mu} {Q : QD}
instance {f : List Int → List Int → Bool} {ds es : List D} {l m : List Int} [h : IntsD ds l] [g : IntsD es m] : Stp (dTpl f (.d (.tup ds)) (.d (.tup es)) μ Q) (Q (.d (.bl (f l m))) μ) := ⟨fun z => ⟨l, m, by rw [h.eq]; rfl, by rw [g.eq]; rfl, z⟩⟩
omit Tb in
theorem eqD_bl (a b : Bool) : eqD (.bl a) (.bl b) = decide (a = b) := by cases a <;> cases b <;> rfl
instance {a b : Bool} : Stp (dEq (.d (.bl a)) (.d (.bl b)) μ Q) (Q (.d (.bl (decide (a = b)))) μ) := ⟨fun z => ⟨_, _, rfl, rfl, .inr ⟨⟨rfl, rfl, rfl⟩, ⟨rfl, rfl, rfl⟩, by rw [eqD_bl]; exact z⟩⟩⟩
instance {a b : Bool} : Stp (dNe (.d (.bl a)) (.d (.bl b)) μ Q) (Q (.d (.bl (!decide (a = b)))) μ) := ⟨fun z => ⟨_, _, rfl, rfl, .inr ⟨⟨rfl, rfl, rfl⟩, ⟨rfl, rfl, rfl⟩, by rw [eqD_bl]; exact z⟩⟩⟩
omit Tb in
theorem pair_lt {a b c d : Int} : ([a, b] < [c, d]) ↔ (a < c ∨ a = c ∧ b < d) := by
  rw [List.cons_lt_cons_iff, List.cons_lt_cons_iff]
  simp
end
end Dl
set_option Elab.async false
set_option linter.all false
set_option maxRecDepth 100000
set_option maxHeartbeats 4000000
/-! ## DN. tuple * int, for all ints -/
namespace L2
open PySem PySem.Spec PyProof.Rows
theorem tuple_mul1 (l : Addr) (items : Array Value) (n : Nat) (dd : Option Addr) (sl : Array (Option Value)) (x : Int) (u : Tok) (c0 : (decide (x < -(2 ^ 63)) || decide (x ≥ 2 ^ 63)) = false) (c1 : (items.isEmpty || x == 1) = true) :
    Meets (Builtin.«tuple.__mul__» ⟨[.ref l, .int x u], []⟩) (fun _ R s => s.heap.get? l = some { cls := .type "tuple", dict := dd, data := .seq items n, slots := sl } ∧
      R (.ok (.ret (Value.ref l))) s) :=
  .of_wp fun prog w A R s h => by
    obtain ⟨hp, g, d, tk, os⟩ := s
    obtain ⟨hl, h⟩ := h
    have f1 := AutoSeq1.idx_int
    wp_walk using wpAny_loadPart' hl
    repeat (first
      | (refine wpAny_ite_false (decide_eq_false (by rw [c0]; exact Bool.false_ne_true)) ?_; wp_walk using wpAny_loadPart' hl)
      | (refine wpAny_ite_true (decide_eq_true (by rw [c1])) ?_; wp_walk using wpAny_loadPart' hl))
    exact ⟨_, rfl, h⟩
theorem tuple_mul0 (l : Addr) (items : Array Value) (n : Nat) (dd : Option Addr) (sl : Array (Option Value)) (x : Int) (u : Tok) (c0 : (decide (x < -(2 ^ 63)) || decide (x ≥ 2 ^ 63)) = false) (c1 : (items.isEmpty || x == 1) = false) (c2 : (decide (x ≤ 0) || items.isEmpty) = true) :
    Meets (Builtin.«tuple.__mul__» ⟨[.ref l, .int x u], []⟩) (fun _ R s => s.heap.get? l = some { cls := .type "tuple", dict := dd, data := .seq items n, slots := sl } ∧
      R (.ok (.ret (Value.ref s.heap.objs.size))) { s with heap := s.heap.push { cls := Value.type "tuple", data := Data.seq #[] }, toks := s.toks }) :=
  .of_wp fun prog w A R s h => by
    obtain ⟨hp, g, d, tk, os⟩ := s
    obtain ⟨hl, h⟩ := h
    have f1 := AutoSeq1.idx_int
    wp_walk using wpAny_loadPart' hl
    repeat (first
      | (refine wpAny_ite_false (decide_eq_false (by rw [c0]; exact Bool.false_ne_true)) ?_; wp_walk using wpAny_loadPart' hl)
      | (refine wpAny_ite_false (decide_eq_false (by rw [c1]; exact Bool.false_ne_true)) ?_; wp_walk using wpAny_loadPart' hl)
      | (refine wpAny_ite_true (decide_eq_true (by rw [c2])) ?_; wp_walk using wpAny_loadPart' hl))
    exact ⟨_, rfl, h⟩
def rRepW (K : PySem.W.Frag) : R2 := fun x y H Q => ∃ l k xs, x = .ref l ∧ y = .int k ∧ SqT K H l xs ∧ xs ≠ [] ∧ -1000 ≤ k ∧ k ≤ 1000 ∧ xs.length ≤ 1000 ∧ (k = 1 → Q (.ref l) H) ∧ (k ≤ 0 → ∀ p, H p = none → Q (.ref p) (upd H p (.tup []))) ∧ (2 ≤ k → ∀ p, H p = none → Q (.ref p) (upd H p (.tup (List.replicate k.toNat xs).flatten)))
theorem op_repW {X : Cx} : OpR X (binaryOp .Mult) (rRepW X.K) := by
  intro pins s σ H x y v u Q I rx ry h
  obtain ⟨l, k, xs, rfl, rfl, hT, hne, h0, h2, hz, q1, q0, q2⟩ := h
  by_cases hk : 2 ≤ k
  · exact op_repT pins s σ H (.ref l) (.int k) v u Q I rx ry ⟨l, k, xs, rfl, rfl, hT, hne, hk, h2, hz, q2 hk⟩
  cases rx
  obtain ⟨t, rfl⟩ := ry
  obtain ⟨its, r, ⟨⟨cls, dd, data, sl⟩, ho, hc, n, hd⟩, hs⟩ := I.tuple hT
  simp only at hc hd
  subst hc hd
  have hle : its.length = xs.length := r.length.symm
  have hn : its ≠ [] := fun e => hne (by
    rw [e] at hle
    exact List.eq_nil_of_length_eq_zero hle.symm)
  have hi : its.toArray.isEmpty = false := by
    cases its with
    | nil => exact absurd rfl hn
    | cons a b => rfl
  have c0 : (decide (k < -(2 ^ 63)) || decide (k ≥ 2 ^ 63)) = false := by
    rw [decide_eq_false (by omega), decide_eq_false (by omega)] <;> rfl
  by_cases e1 : k = 1
  · have c1 : (its.toArray.isEmpty || k == 1) = true := by
      rw [hi, Bool.false_or]
      exact beq_iff_eq.mpr e1
    refine wpAny_binaryOp_repeat_ref (T := "tuple") (U := "int") (by decide) ⟨_, ho, rfl⟩ (fun s' => typeIs_int s' k t) noFill_tuple_mul F.fills_int_mul F.slot_int_rmul repeat_tuple F.slot_int_index.lookup
      (call_meets F.slot_int_rmul (typeIs_int s k t) F.entry_int_rmul (F.args_int_rmul_2 _ _) (int_rmul_tuple k t l its.toArray n dd sl)
        ⟨ho, rfl, ⟨_, ho, rfl⟩, call_meets F.slot_tuple_mul ⟨_, ho, rfl⟩ F.entry_tuple_mul (F.args_tuple_mul_2 _ _) (tuple_mul1 l its.toArray n dd sl k t c0 c1) ⟨ho, ?_⟩⟩)
    exact ⟨.ref l, H, I, rfl, q1 e1⟩
  · have c1 : (its.toArray.isEmpty || k == 1) = false := by
      rw [hi, Bool.false_or]
      exact beq_eq_false_iff_ne.mpr e1
    have c2 : (decide (k ≤ 0) || its.toArray.isEmpty) = true := by
      rw [hi, Bool.or_false]
      exact decide_eq_true (by omega)
    refine wpAny_binaryOp_repeat_ref (T := "tuple") (U := "int") (by decide) ⟨_, ho, rfl⟩ (fun s' => typeIs_int s' k t) noFill_tuple_mul F.fills_int_mul F.slot_int_rmul repeat_tuple F.slot_int_index.lookup
      (call_meets F.slot_int_rmul (typeIs_int s k t) F.entry_int_rmul (F.args_int_rmul_2 _ _) (int_rmul_tuple k t l its.toArray n dd sl)
        ⟨ho, rfl, ⟨_, ho, rfl⟩, call_meets F.slot_tuple_mul ⟨_, ho, rfl⟩ F.entry_tuple_mul (F.args_tuple_mul_2 _ _) (tuple_mul0 l its.toArray n dd sl k t c0 c1 c2) ⟨ho, ?_⟩⟩)
    refine ⟨.ref s.heap.objs.size, _, I.laid (t' := s.toks) (o := .tup []) (fun b ob q => Heap.get?_push_of_some _ q) (Nat.le_refl _) ?_, rfl, q0 (by omega) _ (I.hok.fresh (Nat.le_refl _))⟩
    exact ⟨Nat.zero_le _, [], .nil, IsTup.new _ _⟩
end L2
namespace Dl
open PySem PySem.Spec PyProof.Rows L2 Cm
variable [Tb : Tbls]
section
variable {K : PySem.W.Frag}
def dRepW : RD2 := fun x y μ Q => ∃ ds k, x = .d (.tup ds) ∧ y = .d (.int k) ∧ ds ≠ [] ∧ -1000 ≤ k ∧ k ≤ 1000 ∧ ds.length ≤ 1000 ∧ Q (.d (.tup (List.replicate k.toNat ds).flatten)) μ
instance : OpD K (rRepW K) dRepW where
  go := by
    intro N M H μ v w x y Qd Qv st r1 r2 ⟨ds, k, e1, e2, hn, h0, h1, hl, q⟩ c
    subst e1 e2
    have e2 := r2.int_inv
    subst e2
    obtain ⟨a, vs, rfl, na, ha, ra⟩ := r1.d_inv.tup_inv
    refine ⟨a, k, vs, rfl, rfl, SqT.of ha, fun e => hn ?_, h0, h1, by rw [ra.length]; exact hl, fun e => ?_, fun e p hp => ?_, fun e p hp => ?_⟩
    · have := ra.length
      rw [e] at this
      exact List.eq_nil_of_length_eq_zero this.symm
    · subst e
      rw [show ((1 : Int)).toNat = 1 from rfl, List.replicate_one, List.flatten_singleton] at q
      exact c.same st (.d (.tup na ha ra)) q
    · rw [show k.toNat = 0 by omega, List.replicate_zero] at q
      exact c.tup st .nil hp q
    · exact c.tup st (ra.replicate _) hp q
end
section
variable {μ : Mu} {Q : QD} {k : Int}
omit Tb in
theorem rep_one (d : D) : ∀ n : Nat, (List.replicate n [d]).flatten = List.replicate n d
  | 0 => rfl
  | n + 1 => by rw [List.replicate_succ, List.flatten_cons, rep_one d n]; rfl
class TnC (k : Int) (n : outParam Nat) : Prop where
  eq : k.toNat = n
instance {n : Nat} : TnC (n : Int) n := ⟨Int.toNat_natCast n⟩
instance (priority := low) {k : Int} : TnC k k.toNat := ⟨rfl⟩
instance {d : D} {n : Nat} [h : TnC k n] : Stp (dRepW (.d (.tup [d])) (.d (.int k)) μ Q) (-1000 ≤ k ∧ k ≤ 1000 ∧ Q (.d (.tup (List.replicate n d))) μ) := ⟨fun ⟨h0, h1, z⟩ => ⟨[d], k, rfl, rfl, List.cons_ne_nil _ _, h0, h1, (by simp), by
  rw [h.eq, rep_one]
  exact z⟩⟩
instance {d : D} {n : Nat} : LLen (List.replicate n d) n := ⟨List.length_replicate⟩
end
/-! ### one reading or another -/
def rOrR (r r' : R2) : R2 := fun x y H Q => r x y H Q ∨ r' x y H Q
theorem op_or {X : Cx} {f : Value → Value → Sem Value} {r r' : R2} (h : OpR X f r) (h' : OpR X f r') : OpR X f (rOrR r r') := opOr h h'
def dOrR (r r' : RD2) : RD2 := fun x y μ Q => r x y μ Q ∨ r' x y μ Q
instance {K : PySem.W.Frag} {r r' : R2} {d d' : RD2} [a : OpD K r d] [b : OpD K r' d'] : OpD K (rOrR r r') (dOrR d d') where
  go := by
    intro N M H μ v w x y Qd Qv st r1 r2 h c
    rcases h with h | h
    · exact .inl (a.go N M H μ v w x y Qd Qv st r1 r2 h c)
    · exact .inr (b.go N M H μ v w x y Qd Qv st r1 r2 h c)
instance {d d' : RD2} {C : Addr} {ns : List Str} {ds : List D} {y : S} {μ : Mu} {Q : QD} : Stp (dOrR d d' (.d (.ins C ns ds)) y μ Q) (d (.d (.ins C ns ds)) y μ Q) := ⟨.inl⟩
instance {d d' : RD2} {y : S} {μ : Mu} {Q : QD} : Stp (dOrR d d' (.d .non) y μ Q) (d' (.d .non) y μ Q) := ⟨.inr⟩
end Dl
set_option Elab.async false
set_option linter.all false
set_option maxRecDepth 100000
set_option maxHeartbeats 4000000
set_option synthInstance.maxHeartbeats 4000000
set_option synthInstance.maxSize 100000
/-! ## DP. words and steps of sheets; a list's item stored at a place that is told -/
namespace Cm
open PySem PySem.Spec PyProof.Rows L2
section
variable {X : Cx} {CX : CXT} {C gR : Addr} {k : Nat} {fd : FuncData} {ps : List Str} {sp : Sp} {E : XK}
/-- a def that runs where no guard is up is called below the running body -/
theorem fg_at {A : Around} {Q : VK} {us : List Value} {vs : List V} {f : Addr} {pins : List (Addr × Obj)} {σ : L2.St} {H : Hp} {s : Shared} (F : Fg X.prog X.w X.K X.mg X.base CX k f fd ps sp) (hr : Room k A) (hgd : A.guards = some []) (e0 : Env0 X.prog X.w X.K X.mg X.base A X.stack s H)
    (hb : Binds X.K fd ps []) (hx : Passes CX X E) (I : Inv X pins σ H s) (r : Vals vs us) (h : sp vs H Q E) :
    wpAny (model X.prog X.w) A (call (.ref f) us) (EP X pins σ Q) X.xe s := by
  have hl : us.length = ps.length := by rw [← r.length]; exact F.len _ _ _ _ h
  have bnd := hb s us I.kIn (by simpa using hl)
  have body := F.go A X.stack s H ⟨us, []⟩ us vs Q E hr hgd e0 (by simpa using bnd) r h
  refine wpAny_call (codeAny_mono body ?_)
  intro r s' hq
  match r, hq with
  | .error e, hq => exact hx pins σ H s e s' I hq
  | .ok (.ret u), hq => exact I.after hq
/-- str(x) by the class's own def -/
theorem call_strO (Fn : Fg X.prog X.w X.K X.mg X.base CX k gR fd ps sp) (hr : Room (k + 2) X.A) (hg : X.A.guards = some []) (hs : PySem.W.findIn X.K (.ref C) "__str__" = some (some (.ref gR))) (hf : PySem.W.isFn X.K (.ref gR) = true)
    (hb : Binds X.K fd ps []) (hx : Passes CX X E) : CallR X (.type "str") (rReprO C sp E) := by
  intro pins s σ H xs us Q I r h
  obtain ⟨a, dx, fs, rfl, ha, q⟩ := h
  obtain ⟨u, rfl, ru⟩ := r.one
  cases ru
  obtain ⟨mA, J, _⟩ := ins_get I.hok ha
  obtain ⟨od, J, _⟩ := J.look
  refine PySem.W.kso_call hr.in1.in1.units0 I.kIn J hs hf ?_
  refine wpAny_mono (fg_at (A := X.A.in1.in1) (us := [.ref a]) (vs := [.ref a]) Fn hr.in1.in1 hg I.env0.in1.in1 hb hx I (.cons rfl .nil) q) (fun w s' z => ?_) fun _ _ x => x
  obtain ⟨z', H', I', rz, y, rfl, qz⟩ := z
  obtain ⟨t, rfl⟩ := rz
  exact ⟨.str y, H', I', ⟨t, rfl⟩, qz⟩
/-- len(x) by the class's own def -/
def rLenO (C : Addr) (sp : Sp) (E : XK) : List V → Hp → VK → Prop := fun xs H Q => ∃ a dx fs, xs = [.ref a] ∧ H a = some (.ins C dx fs) ∧ sp [.ref a] H (fun z H' => ∃ n : Int, z = .int n ∧ 0 ≤ n ∧ n < 2 ^ 63 ∧ Q (.int n) H') E
theorem call_lenO (Fn : Fg X.prog X.w X.K X.mg X.base CX k gR fd ps sp) (hr : Room (k + 1) X.A) (hg : X.A.guards = some []) (hs : PySem.W.findIn X.K (.ref C) "__len__" = some (some (.ref gR))) (hf : PySem.W.isFn X.K (.ref gR) = true)
    (hb : Binds X.K fd ps []) (hx : Passes CX X E) : CallR X (.builtin "len") (rLenO C sp E) := by
  intro pins s σ H xs us Q I r h
  obtain ⟨a, dx, fs, rfl, ha, q⟩ := h
  obtain ⟨u, rfl, ru⟩ := r.one
  cases ru
  obtain ⟨mA, J, _⟩ := ins_get I.hok ha
  obtain ⟨od, J, _⟩ := J.look
  refine Calls.call_function_entry kind_len plain_len entry_len (args_len1 _) ?_
  unfold Builtin.«len»
  refine wpAny_bind (m := oneArg "len" _) (wpAny_pure ?_)
  refine wpAny_bind (m := callSpecial? (.ref a) (Str.ofString "__len__")) (PySem.W.special_fn I.kIn J hs (beq_iff_eq.mp hf) ?_)
  refine wpAny_mono (fg_at (A := X.A.in1) (us := [.ref a]) (vs := [.ref a]) Fn hr.in1 hg I.env0.in1 hb hx I (.cons rfl .nil) q) (fun w s' z => ?_) fun _ _ x => x
  obtain ⟨z', H', I', rz, n, rfl, h0, h1, qz⟩ := z
  obtain ⟨t, rfl⟩ := rz
  refine wpAny_bind (wpAny_holding (wpAny_pure ?_))
  refine wpAny_bind (wpAny_letGo ?_)
  show wpAny _ _ (if n < 0 then _ else _) _ _ _
  rw [if_neg (by omega)]
  show wpAny _ _ (if n ≥ 2 ^ 63 then _ else _) _ _ _
  rw [if_neg (by omega)]
  exact wpAny_bind (wpAny_mkInt (wpAny_pure ⟨_, rfl, .int n, H', I'.tok _, ⟨_, rfl⟩, qz⟩))
end
end Cm
namespace Dl
open PySem PySem.Spec PyProof.Rows L2 Cm Sk Km
variable [Tb : Tbls]
section
variable {ρ : Rho} {μ μ' : Mu} {Q : QD}
omit Tb in
theorem ixN_in {n : Nat} {z : Int} (h0 : 0 ≤ z) (h1 : z < n) : ixN n z = some z.toNat := by
  unfold ixN
  rw [if_pos h0, if_pos h1]
instance (priority := 200) {d : D} {q : NxD} {k : Nat} {z : Int} {ds : List D} [g : LGet k μ (some (.lst ds))] [sm : LSet k (some (.lst (ds.set z.toNat d))) μ μ'] : Stp (setK (.d d) ρ q (.cel k) (.d (.int z)) μ) (0 ≤ z ∧ z < ds.length ∧ q ρ μ') :=
  ⟨fun ⟨h0, h1, w⟩ => ⟨k, z, ds, z.toNat, d, rfl, rfl, rfl, g.eq, ixN_in h0 h1, by rw [sm.eq]; exact w⟩⟩
/-- a row's item at a known place -/
theorem atI_at {ds : List D} {i : Nat} {d : D} (h : ds[i]? = some d) : atI ds ((i : Nat) : Int) = some d := atI_nat h
instance (priority := 4000) {ds : List D} {i : Int} {d : D} [h : AtM ds i d] : Stp (dIx (.d (.lst ds)) (.d (.int i)) μ Q) (Q (.d d) μ) := ⟨fun z => ⟨i, rfl, .inl ⟨_, _, _, rfl, rfl, (by have e := atI_at h.eq; rwa [show ((i.toNat : Nat) : Int) = i by have := h.p; omega] at e), z⟩⟩⟩
end
/-- xs.extend(a new list) -/
def dExtend : S → List S → Mu → QD → Prop := fun x ss μ Q => ∃ k ds es, x = .cel k ∧ ss = [.d (.lst es)] ∧ μ[k]? = some (some (.lst ds)) ∧ ds.length + es.length ≤ 1000 ∧ Q (.d .non) (μ.set k (some (.lst (ds ++ es))))
instance {K : PySem.W.Frag} : MtD K "list" rExtend dExtend where
  go := by
    intro N M H μ v x vs ss Qd Qv st r rs ⟨k, ds, es, e1, e2, h, l, q⟩ c
    subst e1 e2
    obtain ⟨a, rfl, ha⟩ := r.cel_inv
    obtain ⟨w, rfl, rw_⟩ := isSA1 rs
    obtain ⟨b, ws, rfl, nb, hb, rb⟩ := rw_.d_inv.lst_inv
    obtain ⟨cl, h1, h2⟩ := st.cell k a ha
    rw [h] at h1
    cases h1
    obtain ⟨us, hu, ru⟩ := h2
    obtain ⟨s2, k2⟩ := wr_lst st ha (ru.append rb)
    exact ⟨a, b, us, ws, rfl, rfl, hu, hb, by rw [ru.length, rb.length]; exact Nat.le_trans l (by decide), c _ _ _ _ k2 s2 (.d .non) q⟩
instance {μ μ' : Mu} {Q : QD} {k : Nat} {ds es : List D} [g : LGet k μ (some (.lst ds))] [h : LSet k (some (.lst (ds ++ es))) μ μ'] : Stp (dExtend (.cel k) [.d (.lst es)] μ Q) (ds.length + es.length ≤ 1000 ∧ Q (.d .non) μ') := ⟨fun z => ⟨k, ds, es, rfl, rfl, g.eq, z.1, by rw [h.eq]; exact z.2⟩⟩
/-! ### len of an instance; methods that hand over a new list -/
def lenK (μ : Mu) (Q : QD) : QD := fun s _ => ∃ n : Int, s = .d (.int n) ∧ 0 ≤ n ∧ n < 2 ^ 63 ∧ Q (.d (.int n)) μ
def dLenO (C : Addr) (Tf : FnT) : RDl := fun ss μ Q => ∃ ns ds, ss = [.d (.ins C ns ds)] ∧ Tf [.d (.ins C ns ds)] [] (lenK μ Q)
instance {K : PySem.W.Frag} {C : Addr} {Tf : FnT} {E : XK} : CallD K (rLenO C (spD K 1 Tf) E) (dLenO C Tf) where
  go := by
    intro N M H μ vs ss Qd Qv st r ⟨ns, ds, e, h⟩ c
    subst e
    have r' := r
    obtain ⟨v, rfl, r0⟩ := isSA1 r
    obtain ⟨a, dx, us, rfl, na, ha, l, ra⟩ := r0.d_inv.ins_inv
    refine ⟨a, dx, _, rfl, ha, rfl, ?_⟩
    refine ⟨N, [], [.d (.ins C ns ds)], [], _, st.none_, foot_nil r' rfl, h, ?_⟩
    intro v H' s' μ' k st' rs ⟨y, ey, h0, h1, q⟩
    subst ey
    have l0 : μ' = [] := List.eq_nil_of_length_eq_zero st'.len.symm
    subst l0
    have ev := rs.d_inv.int_inv
    subst ev
    exact ⟨y, rfl, h0, h1, c _ H' _ μ (k.less fun b z => .inr (inM_nil z)) (st.keepAll k st') (.d rs.d_inv) q⟩
section
variable {ρ : Rho} {μ ν : Mu} {Q : QD} {A : TD} {B : TAd} {QL : List D → Mu → Prop}
instance {C : Addr} {Tf : FnT} {ns : List Str} {ds : List D} : Stp (dLenO C Tf [.d (.ins C ns ds)] μ Q) (Tf [.d (.ins C ns ds)] [] (lenK μ Q)) := ⟨fun z => ⟨ns, ds, rfl, z⟩⟩
instance {y : Int} : Stp (lenK μ Q (.d (.int y)) ν) (0 ≤ y ∧ y < 2 ^ 63 ∧ Q (.d (.int y)) μ) := ⟨fun z => ⟨y, rfl, z⟩⟩
def dMethF (C : Addr) (m : Str) (n : Nat) (Tf : FnTN) (dvs : List V) (A : TD) (B : TAd) : TNd := fun ρ μ Q => A ρ μ fun s μ1 => ∃ ns ds, s = .d (.ins C ns ds) ∧ ns.contains m = false ∧
  B ρ μ1 fun ss μ2 => ∃ dd, vDs dvs = some dd ∧ (s :: (ss ++ dd)).length = n ∧ callN Tf (s :: (ss ++ dd)) μ2 Q
instance sdn_meth {K : PySem.W.Frag} {C : Addr} {m : Str} {n : Nat} {Tf : FnTN} {dvs : List V} {E : XK} {te : TE} {t : TA} {A : TD} {B : TAd} [a : SdE K te A] [b : SdA K t B] : SdN K (tMeth C m (spN K n Tf) dvs E te t) (dMethF C m n Tf dvs A B) where
  go := by
    intro N M σ H ρ μ Qd Qv er h c
    refine a.go N M σ H ρ μ _ _ er h fun v H1 s μ1 k1 s1 r1 ⟨ns, ds, e, hm, h1⟩ => ?_
    subst e
    obtain ⟨p, dx, vs, rfl, np, hp, ln, ra⟩ := r1.d_inv.ins_inv
    refine ⟨p, dx, _, rfl, hp, lookup_zip_none hm, ?_⟩
    refine b.go N M σ H1 ρ μ1 _ _ (er.go k1 s1) h1 fun ws H2 ss μ2 k2 s2 r2 ⟨dd, e, l, q⟩ => ?_
    exact callN_ok s2 (.cons (r1.go (s1.go k2)) (r2.append (vDs_is e))) l q (c.step er.st (k1.trans k2) s2)
instance {K : PySem.W.Frag} {C : Addr} {m : Str} {n : Nat} {Tf : FnTN} {dvs : List V} {E : XK} {te : TE} {t : TA} {A : TD} {B : TAd} [SdE K te A] [SdA K t B] : SdE K (tMeth C m (spN K n Tf) dvs E te t) (dOfN (dMethF C m n Tf dvs A B)) := sde_of inferInstance
def methFK (C : Addr) (m : Str) (n : Nat) (Tf : FnTN) (dvs : List V) (B : TAd) (ρ : Rho) (Q : List D → Mu → Prop) : S → Mu → Prop := fun s μ1 => ∃ ns ds, s = .d (.ins C ns ds) ∧ ns.contains m = false ∧
  B ρ μ1 fun ss μ2 => ∃ dd, vDs dvs = some dd ∧ (s :: (ss ++ dd)).length = n ∧ callN Tf (s :: (ss ++ dd)) μ2 Q
instance {C : Addr} {m : Str} {n : Nat} {Tf : FnTN} {dvs : List V} : Stp (dMethF C m n Tf dvs A B ρ μ QL) (A ρ μ (methFK C m n Tf dvs B ρ QL)) := ⟨id⟩
instance {C : Addr} {m : Str} {n : Nat} {Tf : FnTN} {dvs : List V} {ns : List Str} {ds : List D} : Stp (methFK C m n Tf dvs B ρ QL (.d (.ins C ns ds)) μ) (ns.contains m = false ∧ B ρ μ (argK (n - 1) dvs fun ss μ2 => 1 ≤ n ∧ callN Tf (.d (.ins C ns ds) :: ss) μ2 QL)) := ⟨fun ⟨h, z⟩ => ⟨ns, ds, rfl, h, by
  refine cast ?_ z
  congr 1
  funext ss μ2
  unfold argK
  refine propext ⟨?_, ?_⟩
  · rintro ⟨dd, h1, h2, h3, h4⟩
    exact ⟨dd, h1, by rw [List.length_cons]; omega, h4⟩
  · rintro ⟨dd, h1, h2, h4⟩
    exact ⟨dd, h1, by rw [List.length_cons] at h2; omega, by rw [List.length_cons] at h2; omega, h4⟩⟩⟩
end
/-- items stored at places -/
def putL (d : D) (is : List Nat) (ds : List D) : List D := is.foldl (fun ws i => ws.set i d) ds
theorem putL_len (d : D) : ∀ (is : List Nat) (ds : List D), (putL d is ds).length = ds.length
  | [], _ => rfl
  | i :: is, ds => by
    show (putL d is (ds.set i d)).length = _
    rw [putL_len d is, List.length_set]
theorem putL_get (d : D) : ∀ (is : List Nat) (ds : List D) (j : Nat), j < ds.length → (putL d is ds)[j]? = if j ∈ is then some d else ds[j]?
  | [], ds, j, _ => by simp [putL]
  | i :: is, ds, j, h => by
    show (putL d is (ds.set i d))[j]? = _
    rw [putL_get d is _ j (by rw [List.length_set]; exact h)]
    by_cases hj : j ∈ is
    · rw [if_pos hj, if_pos (List.mem_cons_of_mem _ hj)]
    · rw [if_neg hj, List.getElem?_set]
      by_cases e : i = j
      · subst e
        rw [if_pos rfl, if_pos h, if_pos List.mem_cons_self]
      · rw [if_neg e, if_neg (fun z => by rcases List.mem_cons.mp z with z | z; exact e z.symm; exact hj z)]
theorem putL_snoc (d : D) (is : List Nat) (i : Nat) (ds : List D) : putL d (is ++ [i]) ds = (putL d is ds).set i d := by
  unfold putL
  rw [List.foldl_append]; rfl
def w0D (e : Wk) : D := if (scF e).isNone = true then .str "excused" else .str "extra"
/-- the works whose rows are kept -/
noncomputable def kpI (es : List Wk) (dr : Int) : List Nat := (kpF (rowsF es) dr (exF es)).map fun k => ((cntP es).map (·.2)).getD k.toNat 0
noncomputable def wordsF (es : List Wk) (dr : Int) : List D := putL (.str "kept") (if rowsF es = [] then [] else kpI es dr) (putL (.str "dropped") ((cntP es).map (·.2)) (es.map w0D))
theorem wordsF_len (es : List Wk) (dr : Int) : (wordsF es dr).length = es.length := by
  unfold wordsF
  rw [putL_len, putL_len, List.length_map]
noncomputable def stepD (es : List Wk) (dr : Int) (p : Wk × Nat) : D := .tup [.int (p.2 : Nat), (wordsF es dr).getD p.2 .non, scD (scF p.1), .int p.1.t.m]
noncomputable def stepsF (es : List Wk) (dr : Int) : List D := es.zipIdx.map (stepD es dr)
def T_words_of (C Cr : Addr) : FnT := fun ss μ Q => ∃ es dr, ss = [.d (shD C Cr es dr), .d (.lst (es.map fun e => scD (scF e)))] ∧ μ = [] ∧ ShOk es ∧ (0 ≤ dr ∧ dr ≤ 5) ∧ Q (.d (.lst (wordsF es dr))) []
def T_Sheet_steps (C Cr : Addr) : FnTN := fun ss μ Q => ∃ es dr, ss = [.d (shD C Cr es dr)] ∧ μ = [] ∧ ShOk es ∧ (0 ≤ dr ∧ dr ≤ 5) ∧ Q (stepsF es dr) []
section
variable {dr : Int} {Q : QD} {C Cr : Addr} {ws : List Wk}
instance : Stp (T_words_of C Cr [.d (shD C Cr ws dr), .d (.lst (ws.map fun e => scD (scF e)))] [] Q) (ShOk ws ∧ (0 ≤ dr ∧ dr ≤ 5) ∧ Q (.d (.lst (wordsF ws dr))) []) := ⟨fun w => ⟨ws, dr, rfl, rfl, w⟩⟩
instance {Q : List D → Mu → Prop} : Stp (T_Sheet_steps C Cr [.d (shD C Cr ws dr)] [] Q) (ShOk ws ∧ (0 ≤ dr ∧ dr ≤ 5) ∧ Q (stepsF ws dr) []) := ⟨fun w => ⟨ws, dr, rfl, rfl, w⟩⟩
end
noncomputable def wordS (es : List Wk) (dr : Int) (i : Nat) : Str := match (wordsF es dr).getD i .non with
  | .str w => w
  | _ => "extra"
theorem wordsF_get (es : List Wk) (dr : Int) {i : Nat} {e : Wk} (h : es[i]? = some e) : (wordsF es dr).getD i .non = .str (wordS es dr i) ∧ (wordS es dr i = "kept" ∨ wordS es dr i = "dropped" ∨ wordS es dr i = "excused" ∨ wordS es dr i = "extra") := by
  have hi : i < es.length := (List.getElem?_eq_some_iff.mp h).1
  have g : (wordsF es dr).getD i .non = .str "kept" ∨ (wordsF es dr).getD i .non = .str "dropped" ∨ (wordsF es dr).getD i .non = .str "excused" ∨ (wordsF es dr).getD i .non = .str "extra" := by
    rw [List.getD_eq_getElem?_getD]
    unfold wordsF
    generalize (if rowsF es = [] then [] else kpI es dr) = is
    rw [putL_get _ _ _ _ (by rw [putL_len, List.length_map]; exact hi), putL_get _ _ _ _ (by rw [List.length_map]; exact hi), List.getElem?_map, h]
    split
    · exact .inl rfl
    · split
      · exact .inr (.inl rfl)
      · show w0D e = _ ∨ w0D e = _ ∨ w0D e = _ ∨ w0D e = _
        unfold w0D
        split
        · exact .inr (.inr (.inl rfl))
        · exact .inr (.inr (.inr rfl))
  unfold wordS
  rcases g with g | g | g | g <;> rw [g] <;> simp
theorem str_small {i : Int} (h0 : 0 ≤ i) (h1 : i ≤ 100) : (toString i : Str).length ≤ 3 := by
  have all : ∀ n : Fin 101, (toString (((n : Nat) : Int)) : Str).length ≤ 3 := by decide +kernel
  obtain ⟨n, rfl⟩ := Int.eq_ofNat_of_zero_le h0
  exact all ⟨n, by omega⟩
theorem ln0 : Str.empty.length = 0 := rfl
theorem lnE : Str.empty.length = 0 := rfl
theorem lnC : (Str.ofString ":").length = 1 := by decide
theorem lnS : (Str.ofString "/").length = 1 := by decide
/-- a step's text -/
def txtS (i : Int) (w : Str) (o : Option Int) (m : Int) : Str := match o with
  | none => Str.empty ++ Str.ofString (toString i) ++ Str.ofString ":" ++ w
  | some p => Str.empty ++ Str.ofString (toString i) ++ Str.ofString ":" ++ w ++ Str.ofString ":" ++ Str.ofString (toString p) ++ Str.ofString "/" ++ Str.ofString (toString m)
def T_text_of : FnT := fun ss μ Q => ∃ i w o m, ss = [.d (.tup [.int i, .str w, scD o, .int m])] ∧ μ = [] ∧ (0 ≤ i ∧ i ≤ 100) ∧ (w = "kept" ∨ w = "dropped" ∨ w = "excused" ∨ w = "extra") ∧ (∀ p, o = some p → 0 ≤ p ∧ p ≤ 100) ∧ (0 ≤ m ∧ m ≤ 100) ∧ Q (.d (.str (txtS i w o m))) []
theorem txtS_len {i : Int} {w : Str} {o : Option Int} {m : Int} (hi : 0 ≤ i ∧ i ≤ 100) (hw : w.length ≤ 8) (ho : ∀ p, o = some p → 0 ≤ p ∧ p ≤ 100) (hm : 0 ≤ m ∧ m ≤ 100) : (txtS i w o m).length ≤ 30 := by
  have s1 := str_small hi.1 hi.2
  have s2 := str_small hm.1 hm.2
  have e1 : (toString i : Str) = Str.ofString (toString i) := rfl
  have e2 : (toString m : Str) = Str.ofString (toString m) := rfl
  rw [e1] at s1
  rw [e2] at s2
  unfold txtS
  cases o with
  | none => simp only [strLen_append, lnE, lnC, lnS]; omega
  | some p =>
    have s3 := str_small (ho p rfl).1 (ho p rfl).2
    have e3 : (toString p : Str) = Str.ofString (toString p) := rfl
    rw [e3] at s3
    simp only [strLen_append, lnE, lnC, lnS]; omega
instance {i m : Int} {w : Str} {o : Option Int} {d : D} {Q : QD} [h : ScC d o] : Stp (T_text_of [.d (.tup [.int i, .str w, d, .int m])] [] Q) ((0 ≤ i ∧ i ≤ 100) ∧ (w = "kept" ∨ w = "dropped" ∨ w = "excused" ∨ w = "extra") ∧ (∀ p, o = some p → 0 ≤ p ∧ p ≤ 100) ∧ (0 ≤ m ∧ m ≤ 100) ∧ Q (.d (.str (txtS i w o m))) []) := ⟨fun z => ⟨i, w, o, m, by rw [h.eq], rfl, z⟩⟩
/-- a sheet's text -/
noncomputable def partS (es : List Wk) (dr : Int) (p : Wk × Nat) : Str := txtS (p.2 : Nat) (wordS es dr p.2) (scF p.1) p.1.t.m
noncomputable def sheetS (es : List Wk) (dr : Int) : Str := Txt.join " " (es.zipIdx.map (partS es dr))
instance strsd_map {α : Type} {xs : List α} {f : α → Str} : StrsD (xs.map fun a => D.str (f a)) (xs.map f) := ⟨by rw [List.map_map]; rfl⟩
instance {μ : Mu} {Q : QD} {z : Str} {ds : List D} {ns : List Str} [h : StrsD ds ns] : Stp (dJoin (.d (.str z)) [.d (.lst ds)] μ Q) ((ns.map (·.length)).sum + ns.length * z.length ≤ 16777216 ∧ Q (.d (.str (Txt.join z ns))) μ) := ⟨fun ⟨a, b⟩ => ⟨z, _, ns, rfl, rfl, by rw [h.eq]; rfl, a, b⟩⟩
theorem sum_lens {b : Nat} : ∀ {ys : List Str}, (∀ y ∈ ys, y.length ≤ b) → (ys.map (·.length)).sum ≤ b * ys.length
  | [], _ => Nat.le_refl _
  | y :: ys, h => by
    have h1 := h y (by simp)
    have h2 := sum_lens (ys := ys) fun x hx => h x (by simp [hx])
    rw [List.map_cons, List.sum_cons, List.length_cons, Nat.mul_succ]
    omega
theorem partS_len {es : List Wk} {dr : Int} (hS : ShOk es) {p : Wk × Nat} (h : p ∈ es.zipIdx) : (0 ≤ ((p.2 : Nat) : Int) ∧ ((p.2 : Nat) : Int) ≤ 100) ∧ (∀ i, scF p.1 = some i → 0 ≤ i ∧ i ≤ 100) ∧ (0 ≤ p.1.t.m ∧ p.1.t.m ≤ 100) ∧ (partS es dr p).length ≤ 30 := by
  have hz := zip_at h
  have hi : p.2 < es.length := (List.getElem?_eq_some_iff.mp hz).1
  have hw := (wordsF_get es dr hz).2
  have ho := hS.all p.1 (List.mem_of_getElem? hz)
  have l1 := hS.l1
  have m0 := ho.t.m0
  have m1 := ho.t.m1
  have hs : ∀ i, scF p.1 = some i → 0 ≤ i ∧ i ≤ 100 := fun i e => by
    have := score_range ho.r ho.o (by omega) e
    omega
  refine ⟨⟨by omega, by omega⟩, hs, ⟨by omega, m1⟩, ?_⟩
  exact txtS_len ⟨by omega, by omega⟩ (by rcases hw with e | e | e | e <;> rw [e] <;> decide) hs ⟨by omega, m1⟩
def T_Sheet___str__ (C Cr : Addr) : FnT := fun ss μ Q => ∃ es dr, ss = [.d (shD C Cr es dr)] ∧ μ = [] ∧ ShOk es ∧ (0 ≤ dr ∧ dr ≤ 5) ∧ Q (.d (.str (sheetS es dr))) []
instance {dr : Int} {Q : QD} {C Cr : Addr} {ws : List Wk} : Stp (T_Sheet___str__ C Cr [.d (shD C Cr ws dr)] [] Q) (ShOk ws ∧ (0 ≤ dr ∧ dr ≤ 5) ∧ Q (.d (.str (sheetS ws dr))) []) := ⟨fun w => ⟨ws, dr, rfl, rfl, w⟩⟩
def T_Sheet___len__ (C Cr : Addr) : FnT := fun ss μ Q => ∃ es dr, ss = [.d (shD C Cr es dr)] ∧ μ = [] ∧ ShOk es ∧ Q (.d (.int (rowsF es).length)) []
instance {dr : Int} {Q : QD} {C Cr : Addr} {ws : List Wk} : Stp (T_Sheet___len__ C Cr [.d (shD C Cr ws dr)] [] Q) (ShOk ws ∧ Q (.d (.int (rowsF ws).length)) []) := ⟨fun w => ⟨ws, dr, rfl, rfl, w⟩⟩
end Dl
set_option Elab.async false
set_option linter.all false
set_option maxRecDepth 100000
set_option maxHeartbeats 4000000
set_option synthInstance.maxHeartbeats 4000000
set_option synthInstance.maxSize 100000
/-! ## DQ. what laws draw by a row of two numbers: works, rules, results, sheets' parts; all lots of rows -/
namespace Dl
open PySem PySem.Spec PyProof.Rows L2 Cm Sk Km
variable [Tb : Tbls]
/-! ### all lots -/
/-- what the next number is at least -/
def fstF (l : List Int) : Int := match l.getLast? with
  | none => 0
  | some k => k + 1
/-- the rising tuples of i numbers below d + i, in order -/
def lotsF (d : Nat) : Nat → List (List Int)
  | 0 => [[]]
  | i + 1 => (lotsF d i).flatMap fun l => (List.range ((d + i + 1 : Nat) - fstF l : Int).toNat).map fun j => l ++ [fstF l + (j : Nat)]
def cntL (d : Nat) : Nat → List Nat
  | 0 => [0]
  | i + 1 => (cntL d i).flatMap fun f => (List.range (d + i + 1 - f)).map fun j => f + j + 1
omit Tb in
theorem fstF_app (l : List Int) (k : Int) : fstF (l ++ [k]) = k + 1 := by
  unfold fstF
  rw [List.getLast?_concat]
omit Tb in
theorem lots_cnt (d : Nat) : ∀ i, (lotsF d i).map fstF = (cntL d i).map fun f : Nat => (f : Int)
  | 0 => rfl
  | i + 1 => by
    unfold lotsF cntL
    rw [List.map_flatMap, List.map_flatMap]
    have ih := lots_cnt d i
    have e : ∀ (ls : List (List Int)) (fs : List Nat), ls.map fstF = fs.map (fun f : Nat => (f : Int)) →
        ls.flatMap (fun l => ((List.range ((d + i + 1 : Nat) - fstF l : Int).toNat).map fun j => l ++ [fstF l + (j : Nat)]).map fstF) = fs.flatMap fun f => ((List.range (d + i + 1 - f)).map fun j => f + j + 1).map fun f : Nat => (f : Int) := by
      intro ls
      induction ls with
      | nil =>
        intro fs h
        cases fs with
        | nil => rfl
        | cons f fs => simp at h
      | cons l ls ihl =>
        intro fs h
        cases fs with
        | nil => simp at h
        | cons f fs =>
          rw [List.map_cons, List.map_cons, List.cons.injEq] at h
          rw [List.flatMap_cons, List.flatMap_cons, ihl fs h.2, h.1]
          congr 1
          rw [List.map_map, List.map_map]
          have e1 : (((d + i + 1 : Nat) : Int) - (f : Int)).toNat = d + i + 1 - f := by omega
          rw [e1]
          refine List.map_congr_left fun j _ => ?_
          show fstF (l ++ [_]) = _
          rw [fstF_app]
          simp only [Function.comp]
          omega
    exact e _ _ ih
omit Tb in
theorem lots_len {d i : Nat} (hd : d ≤ 5) (hi : i ≤ 12) (hs : d + i ≤ 12) : (lotsF d i).length ≤ 800 := by
  have h : (lotsF d i).length = (cntL d i).length := by
    have := congrArg List.length (lots_cnt d i)
    rwa [List.length_map, List.length_map] at this
  have all : ∀ (d : Fin 6) (i : Fin 13), (d : Nat) + i ≤ 12 → (cntL d i).length ≤ 800 := by decide +kernel
  rw [h]
  exact all ⟨d, by omega⟩ ⟨i, by omega⟩ hs
omit Tb in
theorem lots_mem (d : Nat) : ∀ (i : Nat) (l : List Int), l ∈ lotsF d i ↔ l.length = i ∧ l.Pairwise (· < ·) ∧ ∀ k ∈ l, Rng (d + i) k
  | 0, l => by
    unfold lotsF
    rw [List.mem_singleton]
    constructor
    · rintro rfl
      exact ⟨rfl, .nil, fun k h => nomatch h⟩
    · rintro ⟨h, _⟩
      exact List.length_eq_zero_iff.mp h
  | i + 1, l => by
    unfold lotsF
    rw [List.mem_flatMap]
    constructor
    · rintro ⟨m, hm, hl⟩
      obtain ⟨j, hj, rfl⟩ := List.mem_map.mp hl
      obtain ⟨a, b, c⟩ := (lots_mem d i m).mp hm
      have hj := List.mem_range.mp hj
      have lst : ∀ k ∈ m, k < fstF m := fun k hk => by
        unfold fstF
        cases e : m.getLast? with
        | none => rw [List.getLast?_eq_none_iff.mp e] at hk; cases hk
        | some z =>
          show k < z + 1
          obtain ⟨m', rfl⟩ := List.getLast?_eq_some_iff.mp e
          rcases List.mem_append.mp hk with hk | hk
          · have := (List.pairwise_append.mp b).2.2 k hk z (by simp); omega
          · rw [List.mem_singleton.mp hk]; omega
      have f0 : 0 ≤ fstF m := by
        unfold fstF
        cases e : m.getLast? with
        | none => exact Int.le_refl _
        | some z =>
          show 0 ≤ z + 1
          have := (c z (List.mem_of_getLast? e)).1
          omega
      refine ⟨by simp [a], List.pairwise_append.mpr ⟨b, List.pairwise_singleton _ _, fun k hk z hz => ?_⟩, fun k hk => ?_⟩
      · rw [List.mem_singleton.mp hz]
        have := lst k hk
        omega
      · rcases List.mem_append.mp hk with hk | hk
        · have := c k hk
          exact ⟨this.1, by have := this.2; omega⟩
        · rw [List.mem_singleton.mp hk]
          exact ⟨by omega, by omega⟩
    · rintro ⟨a, b, c⟩
      obtain ⟨m, k, rfl⟩ : ∃ m k, l = m ++ [k] := by
        rcases List.eq_nil_or_concat l with e | ⟨m, k, e⟩
        · rw [e] at a; cases a
        · exact ⟨m, k, by rw [e, List.concat_eq_append]⟩
      have p := List.pairwise_append.mp b
      have hk := c k (by simp)
      have mk : ∀ z ∈ m, z < k := fun z hz => p.2.2 z hz k (by simp)
      have fk : fstF m ≤ k := by
        unfold fstF
        cases e : m.getLast? with
        | none => exact hk.1
        | some z => exact mk z (List.mem_of_getLast? e)
      have f0 : 0 ≤ fstF m := by
        unfold fstF
        cases e : m.getLast? with
        | none => exact Int.le_refl _
        | some z =>
          show 0 ≤ z + 1
          have := (c z (List.mem_append_left _ (List.mem_of_getLast? e))).1
          omega
      have hk2 := hk.2
      refine ⟨m, (lots_mem d i m).mpr ⟨by simpa using a, p.1, fun z hz => ?_⟩, List.mem_map.mpr ⟨(k - fstF m).toNat, List.mem_range.mpr (by omega), ?_⟩⟩
      · have := mk z hz
        exact ⟨(c z (List.mem_append_left _ hz)).1, by omega⟩
      · congr 2
        omega
omit Tb in
theorem lt_app {l m : List Int} : ∀ {a b : List Int}, l.length = m.length → l < m → l ++ a < m ++ b := by
  intro a b hl h
  obtain ⟨P, x, S, y, T, rfl, rfl, hxy⟩ : ∃ P b S' a T', l = P ++ b :: S' ∧ m = P ++ a :: T' ∧ b < a := by
    have go : ∀ {S T : List Int}, S.length = T.length → S < T → ∃ P b S' a T', S = P ++ b :: S' ∧ T = P ++ a :: T' ∧ b < a := by
      intro S
      induction S with
      | nil =>
        intro T h hl
        cases T with
        | nil => exact absurd hl (List.not_lt_nil _)
        | cons => simp at h
      | cons b S ih =>
        intro T h hl
        cases T with
        | nil => simp at h
        | cons a T =>
          rcases List.cons_lt_cons_iff.mp hl with z | ⟨z, w⟩
          · exact ⟨[], b, S, a, T, rfl, rfl, z⟩
          · obtain ⟨P, b', S', a', T', e1, e2, e3⟩ := ih (by simpa using h) w
            exact ⟨b :: P, b', S', a', T', by rw [e1]; rfl, by rw [e2, z]; rfl, e3⟩
    exact go hl h
  rw [List.append_assoc, List.append_assoc, List.cons_append, List.cons_append]
  have go2 : ∀ P : List Int, P ++ x :: (S ++ a) < P ++ y :: (T ++ b) := by
    intro P
    induction P with
    | nil => exact List.cons_lt_cons_iff.mpr (.inl hxy)
    | cons p P ih => exact List.cons_lt_cons_iff.mpr (.inr ⟨rfl, ih⟩)
  exact go2 P
omit Tb in
theorem lt_last (l : List Int) {a b : Int} (h : a < b) : l ++ [a] < l ++ [b] := by
  induction l with
  | nil => exact List.cons_lt_cons_iff.mpr (.inl h)
  | cons p P ih => exact List.cons_lt_cons_iff.mpr (.inr ⟨rfl, ih⟩)
omit Tb in
theorem lots_lt (d : Nat) : ∀ i, (lotsF d i).Pairwise (· < ·)
  | 0 => List.pairwise_singleton _ _
  | i + 1 => by
    have ih := lots_lt d i
    have hl : ∀ l ∈ lotsF d i, l.length = i := fun l h => ((lots_mem d i l).mp h).1
    unfold lotsF
    generalize lotsF d i = L at ih hl
    induction L with
    | nil => exact .nil
    | cons l L ihL =>
      rw [List.flatMap_cons]
      have p := List.pairwise_cons.mp ih
      refine List.pairwise_append.mpr ⟨?_, ihL p.2 (fun m hm => hl m (List.mem_cons_of_mem _ hm)), fun x hx y hy => ?_⟩
      · rw [List.pairwise_map]
        exact List.pairwise_lt_range.imp fun {a b} h => lt_last l (by omega)
      · obtain ⟨j, _, rfl⟩ := List.mem_map.mp hx
        obtain ⟨m, hm, hy⟩ := List.mem_flatMap.mp hy
        obtain ⟨j', _, rfl⟩ := List.mem_map.mp hy
        exact lt_app ((hl l (by simp)).trans (hl m (List.mem_cons_of_mem _ hm)).symm) (p.1 m hm)
omit Tb in
theorem lots_all {n m : Nat} (hm : m ≤ n) (l : List Int) : l ∈ lotsF (n - m) m ↔ l.Pairwise (· < ·) ∧ Lot n m l := by
  rw [lots_mem, show n - m + m = n by omega]
  constructor
  · rintro ⟨a, b, c⟩
    exact ⟨b, a, b.imp fun {x y} z e => by omega, c⟩
  · rintro ⟨a, b⟩
    exact ⟨b.len, a, b.rg⟩
/-! ### the first of the greatest -/
omit Tb in
theorem lot_miss {n m : Nat} {A B : List Int} (hA : Lot n m A) (hB : Lot n m B) {b : Int} (hb : b ∈ B) (hn : b ∉ A) : ∃ a ∈ A, a ∉ B := by
  apply Classical.byContradiction
  intro z
  have sub : A ⊆ B.erase b := fun a ha => by
    have haB : a ∈ B := Classical.byContradiction fun y => z ⟨a, ha, y⟩
    exact (List.mem_erase_of_ne (fun (e : a = b) => hn (e ▸ ha))).mpr haB
  have l := List.Nodup.length_le_of_subset hA.nd sub
  rw [List.length_erase_of_mem hb, hA.len, hB.len] at l
  have := List.length_pos_of_mem hb
  rw [hB.len] at this
  omega
omit Tb in
theorem swap_bef {rows : List Km.Row} {m : Nat} {ex : Int} {T S : List Int} (hm : 1 ≤ m) (hT : Kept rows m ex T) (hS : Lot rows.length m S) (e : (sp rows S + ex) * sq rows T = (sp rows T + ex) * sq rows S) {a b : Int} (ha : a ∈ T) (ha2 : a ∉ S) (hb : b ∈ S) (hb2 : b ∉ T) : a < b := by
  have key : (S.map (lf rows (sp rows T + ex) (sq rows T))).sum = (T.map (lf rows (sp rows T + ex) (sq rows T))).sum := by
    rw [lf_sum, lf_sum]
    rw [Int.add_mul, Int.mul_comm (sp rows S)] at e
    rw [Int.mul_comm (sq rows T) (sp rows T), Int.add_mul (sp rows T) ex (sq rows T)]
    omega
  have hU : Lot rows.length m (a :: S.erase b) := by
    refine ⟨?_, ?_, fun k hk => ?_⟩
    · rw [List.length_cons, List.length_erase_of_mem hb, hS.len]; omega
    · rw [List.nodup_cons]
      exact ⟨fun z => ha2 (List.mem_of_mem_erase z), hS.nd.erase b⟩
    · rcases List.mem_cons.mp hk with z | z
      · rw [z]; exact hT.lot.rg a ha
      · exact hS.rg k (List.mem_of_mem_erase z)
  have le := top_best hT.lot hU hm hT.top.le
  rw [List.map_cons, List.sum_cons] at le
  have es : (S.map (lf rows (sp rows T + ex) (sq rows T))).sum = lf rows (sp rows T + ex) (sq rows T) b + ((S.erase b).map (lf rows (sp rows T + ex) (sq rows T))).sum := by
    have := sum_perm ((List.perm_cons_erase hb).map (lf rows (sp rows T + ex) (sq rows T)))
    rw [List.map_cons, List.sum_cons] at this
    exact this
  rcases hT.top a ha b (hS.rg b hb) hb2 with z | ⟨z, w⟩
  · omega
  · exact w
omit Tb in
theorem lex_split : ∀ {S T : List Int}, S.length = T.length → S < T → ∃ P b S' a T', S = P ++ b :: S' ∧ T = P ++ a :: T' ∧ b < a
  | [], [], _, h => absurd h (List.not_lt_nil _)
  | [], _ :: _, h, _ => by simp at h
  | _ :: _, [], h, _ => by simp at h
  | b :: S, a :: T, h, hl => by
    rcases List.cons_lt_cons_iff.mp hl with z | ⟨z, w⟩
    · exact ⟨[], b, S, a, T, rfl, rfl, z⟩
    · obtain ⟨P, b', S', a', T', e1, e2, e3⟩ := lex_split (by simpa using h) w
      exact ⟨b :: P, b', S', a', T', by rw [e1]; rfl, by rw [e2, z]; rfl, e3⟩
omit Tb in
theorem first_best {rows : List Km.Row} {m : Nat} {ex : Int} {T S : List Int} (hm : 1 ≤ m) (hT : Kept rows m ex T) (hS : Lot rows.length m S) (hlt : S.Pairwise (· < ·)) (e : (sp rows S + ex) * sq rows T = (sp rows T + ex) * sq rows S) : ¬ S < T := by
  intro h
  obtain ⟨P, b, S', a, T', e1, e2, e3⟩ := lex_split (hS.len.trans hT.lot.len.symm) h
  have tl := hT.lt
  have hb : b ∈ S := by rw [e1]; simp
  rw [e1] at hlt
  rw [e2] at tl
  have s1 := List.pairwise_append.mp hlt
  have t1 := List.pairwise_append.mp tl
  have t2 := List.pairwise_cons.mp t1.2.1
  have hb2 : b ∉ T := fun z => by
    rw [e2] at z
    rcases List.mem_append.mp z with z | z
    · have := s1.2.2 b z b (by simp); omega
    · rcases List.mem_cons.mp z with z | z
      · omega
      · have := t2.1 b z; omega
  obtain ⟨c, hc, hc2⟩ := lot_miss hT.lot hS hb hb2
  have hcb := swap_bef hm hT hS e hc hc2 hb hb2
  rw [e2] at hc
  rcases List.mem_append.mp hc with z | z
  · exact hc2 (by rw [e1]; exact List.mem_append_left _ z)
  · rcases List.mem_cons.mp z with z | z
    · omega
    · have := t2.1 c z; omega
omit Tb in
theorem lt_trans_mk {p q p' q' p2 q2 : Int} (h1 : 0 < q) (h2 : 0 < q') (h3 : 0 < q2) (a : p * q' ≤ p' * q) (b : p' * q2 < p2 * q') : p * q2 < p2 * q := by
  have a2 : p * q' * q2 ≤ p' * q * q2 := Int.mul_le_mul_of_nonneg_right a (by omega)
  have b2 : p' * q2 * q < p2 * q' * q := Int.mul_lt_mul_of_pos_right b h1
  have e1 : p' * q * q2 = p' * q2 * q := Int.mul_right_comm ..
  have e2 : p * q' * q2 = p * q2 * q' := Int.mul_right_comm ..
  have e3 : p2 * q' * q = p2 * q * q' := Int.mul_right_comm ..
  have : p * q2 * q' < p2 * q * q' := by omega
  exact Int.lt_of_mul_lt_mul_right this (by omega)
/-- the first of the greatest of these -/
structure Best (rows : List Km.Row) (ex : Int) (L : List (List Int)) (B : List Int) : Prop where
  mem : B ∈ L
  best : ∀ S ∈ L, (sp rows S + ex) * sq rows B < (sp rows B + ex) * sq rows S ∨ (sp rows S + ex) * sq rows B ≤ (sp rows B + ex) * sq rows S ∧ B ≤ S
omit Tb in
theorem best_kept_eq {rows : List Km.Row} {m : Nat} {ex : Int} {L : List (List Int)} {B T : List Int} (hm : 1 ≤ m) (hr : RowsOk rows) (hL : ∀ l, l ∈ L ↔ l.Pairwise (· < ·) ∧ Lot rows.length m l) (hB : Best rows ex L B) (hT : Kept rows m ex T) : B = T := by
  obtain ⟨b1, b2⟩ := (hL B).mp hB.mem
  have le := hT.best hm b2
  rcases hB.best T ((hL T).mpr ⟨hT.lt, hT.lot⟩) with z | ⟨z, w⟩
  · omega
  · have := first_best hm hT b2 b1 (by omega)
    exact Std.le_antisymm w (Std.not_lt.mp this)
end Dl
set_option Elab.async false
set_option linter.all false
set_option maxRecDepth 100000
set_option maxHeartbeats 4000000
set_option synthInstance.maxHeartbeats 4000000
set_option synthInstance.maxSize 100000
/-! ## DR. laws that draw sheets' parts by a row of two numbers: promises of their helpers -/
namespace Dl
open PySem PySem.Spec PyProof.Rows L2 Cm Sk Km
variable [Tb : Tbls]
abbrev rlD (r : Ru) : D := .tup [.int r.a, .int r.b, .str r.z]
abbrev ptsD (es : List Wk) (dr : Int) : D := .tup [.tup (es.map fun e => tkD e.t), .tup (es.map fun e => rlD e.r), .tup (es.map fun e => resD e.o), .int dr]
/-! ### steps for what these need -/
section
variable {ρ : Rho} {μ : Mu} {Q : QD}
/-- one of two tuples, by a truth -/
instance {a b : List D} {c : Bool} : Stp (dIx (.d (.lst [.tup a, .tup b])) (.d (.int (if c = true then 1 else 0))) μ Q) (if c = true then Q (.d (.tup b)) μ else Q (.d (.tup a)) μ) := ⟨fun z => by
  cases c with
  | true => exact stp (A := dIx (.d (.lst [.tup a, .tup b])) (.d (.int 1)) μ Q) z
  | false => exact stp (A := dIx (.d (.lst [.tup a, .tup b])) (.d (.int 0)) μ Q) z⟩
instance (priority := 150) {k : Nat} {ds : List D} {i : Int} [g : LGet k μ (some (.lst ds))] : Stp (dIx (.cel k) (.d (.int i)) μ Q) (0 ≤ i ∧ i < ds.length ∧ ∀ d, ds[i.toNat]? = some d → Q (.d d) μ) := ⟨fun ⟨h0, h1, q⟩ => by
  have hlt : i.toNat < ds.length := by omega
  have e : atI ds i = some ds[i.toNat] := by
    have := atI_nat (List.getElem?_eq_getElem hlt)
    rwa [show ((i.toNat : Nat) : Int) = i by omega] at this
  exact ⟨i, rfl, .inr (.inl ⟨k, ds, _, rfl, g.eq, e, q _ (List.getElem?_eq_getElem hlt)⟩)⟩⟩
section
variable {α : Type} {xs : List α} {f : α → D}
instance (priority := 5000) : Stp (dIx (.d (.tup (xs.map f))) (.d (.int (-1))) μ Q) (0 < xs.length ∧ ∀ x, xs.getLast? = some x → Q (.d (f x)) μ) := ⟨fun ⟨h0, q⟩ => by
  obtain ⟨x, hx⟩ := Option.isSome_iff_exists.mp (List.getLast?_isSome.mpr (List.length_pos_iff.mp h0))
  exact ⟨-1, rfl, .inl ⟨_, _, _, rfl, rfl, atI_last hx, q x hx⟩⟩⟩
end
instance {a b c : D} : CutD [a, b, c] (some 1) none [b, c] := ⟨by unfold cutD; rfl⟩
instance {a b c d : D} : CutD [a, b, c, d] none (some 3) [a, b, c] := ⟨by unfold cutD; rfl⟩
end
omit Tb in
theorem zip_filter {α : Type} {β : Type} (p : α → Bool) (g : α → β) : ∀ (xs : List α) (i : Nat), ((xs.zipIdx i).filter fun q => p q.1).map (fun q => g q.1) = (xs.filter p).map g
  | [], _ => rfl
  | x :: xs, i => by
    rw [List.zipIdx_cons, List.filter_cons, List.filter_cons]
    show List.map _ (if p x = true then _ else _) = _
    split
    · rw [List.map_cons, List.map_cons, zip_filter p g xs]
    · exact zip_filter p g xs _
omit Tb in
theorem flat_take {α β : Type} (f : α → List β) (L : List α) (j : Nat) : ((L.take j).flatMap f).length ≤ (L.flatMap f).length := by
  have e : L.flatMap f = (L.take j).flatMap f ++ (L.drop j).flatMap f := by rw [← List.flatMap_append, List.take_append_drop]
  rw [e, List.length_append]
  omega
/-- a work's word -/
noncomputable def kpJ (es : List Wk) (dr : Int) : List Nat := if rowsF es = [] then [] else kpI es dr
theorem kpJ_cnt {es : List Wk} {dr : Int} (hS : ShOk es) (d0 : 0 ≤ dr) (d1 : dr ≤ 5) {i : Nat} (h : i ∈ kpJ es dr) : i ∈ (cntP es).map (·.2) := by
  unfold kpJ at h
  by_cases hn : rowsF es = []
  · rw [if_pos hn] at h; cases h
  · rw [if_neg hn] at h
    unfold kpI at h
    obtain ⟨k, hk, rfl⟩ := List.mem_map.mp h
    obtain ⟨s1, s3, s5, s6, s7⟩ := kp_sums (hS.dr d0 d1 hn)
    obtain ⟨k0, k1⟩ := s6 k hk
    have hl : (rowsF es).length = (cntP es).length := by unfold rowsF; rw [List.length_map]
    have hlt : k.toNat < ((cntP es).map (·.2)).length := by rw [List.length_map]; omega
    rw [List.getD_eq_getElem?_getD, List.getElem?_eq_getElem hlt]
    exact List.getElem_mem hlt
theorem wordsF_at {es : List Wk} {dr : Int} (hS : ShOk es) (d0 : 0 ≤ dr) (d1 : dr ≤ 5) {i : Nat} {e : Wk} (h : es[i]? = some e) :
    (wordsF es dr).getD i .non = if (scF e).isNone = true then .str "excused" else if e.t.x = true then .str "extra" else if i ∈ kpJ es dr then .str "kept" else .str "dropped" := by
  have hi : i < es.length := (List.getElem?_eq_some_iff.mp h).1
  have hc : i ∈ (cntP es).map (·.2) ↔ cntB e = true := by
    constructor
    · intro z
      obtain ⟨p, hp, rfl⟩ := List.mem_map.mp z
      obtain ⟨h1, h2⟩ := cntP_at hp
      rw [h] at h1
      cases h1
      exact h2
    · intro z
      refine List.mem_map.mpr ⟨(e, i), List.mem_filter.mpr ⟨List.mk_mem_zipIdx_iff_getElem?.mpr h, z⟩, rfl⟩
  have hk : i ∈ kpJ es dr → cntB e = true := fun z => hc.mp (kpJ_cnt hS d0 d1 z)
  have e0 : wordsF es dr = putL (.str "kept") (kpJ es dr) (putL (.str "dropped") ((cntP es).map (·.2)) (es.map w0D)) := rfl
  rw [List.getD_eq_getElem?_getD, e0]
  rw [putL_get _ _ _ _ (by rw [putL_len, List.length_map]; exact hi), putL_get _ _ _ _ (by rw [List.length_map]; exact hi), List.getElem?_map, h]
  unfold cntB at hc hk
  by_cases z1 : i ∈ kpJ es dr
  · have := hk z1
    rw [Bool.and_eq_true] at this
    obtain ⟨a, b⟩ := this
    rw [if_pos z1, if_neg (by cases hs : scF e <;> simp_all), if_neg (by simp_all), if_pos z1]
    rfl
  · rw [if_neg z1, if_neg z1]
    by_cases z2 : i ∈ (cntP es).map (·.2)
    · have := hc.mp z2
      rw [Bool.and_eq_true] at this
      obtain ⟨a, b⟩ := this
      rw [if_pos z2, if_neg (by cases hs : scF e <;> simp_all), if_neg (by simp_all)]
      rfl
    · have z3 : ¬ ((scF e).isSome && !e.t.x) = true := fun y => z2 (hc.mpr y)
      rw [if_neg z2]
      show w0D e = _
      unfold w0D
      cases hs : scF e with
      | none => rfl
      | some z =>
        rw [hs] at z3
        have : e.t.x = true := by cases hx : e.t.x <;> simp_all
        rw [if_neg (by simp), if_neg (by simp), if_pos this]
section
variable {e : Wk} {i : Nat} {J : List Nat} {W : D}
theorem word_ex (hn : isNon (.d (scD (scF e))) = true) : D.str "excused" = if (scF e).isNone = true then .str "excused" else W := by rw [nonS] at hn; rw [if_pos hn]
theorem word_x (hn : isNon (.d (scD (scF e))) = false) (hx : e.t.x = true) : D.str "extra" = if (scF e).isNone = true then .str "excused" else if e.t.x = true then .str "extra" else W := by
  rw [nonS] at hn
  rw [hn, if_neg Bool.false_ne_true, if_pos hx]
theorem word_k (hn : isNon (.d (scD (scF e))) = false) (hx : e.t.x = false) (hk : i ∈ J) : D.str "kept" = if (scF e).isNone = true then .str "excused" else if e.t.x = true then .str "extra" else if i ∈ J then .str "kept" else W := by
  rw [nonS] at hn
  rw [hn, hx, if_neg Bool.false_ne_true, if_neg Bool.false_ne_true, if_pos hk]
theorem word_d (hn : isNon (.d (scD (scF e))) = false) (hx : e.t.x = false) (hk : i ∉ J) : D.str "dropped" = if (scF e).isNone = true then .str "excused" else if e.t.x = true then .str "extra" else if i ∈ J then .str "kept" else .str "dropped" := by
  rw [nonS] at hn
  rw [hn, hx, if_neg Bool.false_ne_true, if_neg Bool.false_ne_true, if_neg hk]
end
/-! ### what can be shown -/
theorem ft_word {w : Str} (h : w = "kept" ∨ w = "dropped" ∨ w = "excused" ∨ w = "extra") : Ft (2 ^ 150) 0 8 (py (.str w)) := by
  rcases h with h | h | h | h <;> rw [h] <;> exact Ft.str (by decide +kernel) (by decide +kernel)
theorem ft_sc {e : Wk} (h : WkOk e) : Ft (2 ^ 150) 0 0 (py (scD (scF e))) := by
  cases hs : scF e with
  | none => exact Ft.non
  | some i =>
    have m0 := h.t.m0
    have m1 := h.t.m1
    have := score_range h.r h.o (by omega) hs
    exact Ft.int (by omega)
theorem ft_step {es : List Wk} {dr : Int} (hS : ShOk es) {p : Wk × Nat} (h : p ∈ es.zipIdx) : Ft (2 ^ 150) 1 12 (py (stepD es dr p)) := by
  have hz := zip_at h
  obtain ⟨w1, w2⟩ := wordsF_get es dr hz
  have hi : p.2 < es.length := (List.getElem?_eq_some_iff.mp hz).1
  have hw := hS.all p.1 (List.mem_of_getElem? hz)
  have m0 := hw.t.m0
  have m1 := hw.t.m1
  have l1 := hS.l1
  unfold stepD
  rw [w1]
  exact (FtAll.cons ((Ft.int (N := 2 ^ 150) (b := 0) (by omega)).mono (Nat.le_refl _) (Nat.le_refl _) (Nat.zero_le _)) (FtAll.cons (ft_word w2) (FtAll.cons (ft_sc hw) (FtAll.cons (Ft.int (N := 2 ^ 150) (b := 0) (by omega)) (FtAll.nil (b := 0)))))).tup
instance {es : List Wk} {dr : Int} : FtL (stepsF es dr) 1 (es.length * 13) (ShOk es) := ⟨fun h => by
  have := ftAll_map (m := 1) (b := 12) (f := stepD es dr) (xs := es.zipIdx) fun p hp => ft_step h hp
  rwa [List.length_zipIdx] at this⟩
instance {es : List Wk} {dr : Int} {p : Wk × Nat} : PlC (stepD es dr p) := ⟨by
  have : ∀ w, (wordsF es dr).getD p.2 .non = w → plain w = true → plain (stepD es dr p) = true := fun w h1 h2 => by
    unfold stepD
    rw [h1]
    unfold plain plainAll plainAll plainAll plainAll plainAll
    rw [h2, PlC.eq (d := scD (scF p.1))]; rfl
  refine this _ rfl ?_
  rw [List.getD_eq_getElem?_getD]
  unfold wordsF
  generalize (if rowsF es = [] then [] else kpI es dr) = is
  by_cases hi : p.2 < es.length
  · rw [putL_get _ _ _ _ (by rw [putL_len, List.length_map]; exact hi), putL_get _ _ _ _ (by rw [List.length_map]; exact hi), List.getElem?_map, List.getElem?_eq_getElem hi]
    split
    · rfl
    · split
      · rfl
      · show plain (w0D _) = true
        unfold w0D
        split <;> rfl
  · rw [List.getElem?_eq_none (by rw [putL_len, putL_len, List.length_map]; omega)]; rfl⟩
instance {es : List Wk} {dr : Int} : PlL (stepsF es dr) := by unfold stepsF; infer_instance
theorem stepsF_len (es : List Wk) (dr : Int) : (stepsF es dr).length = es.length := by unfold stepsF; rw [List.length_map, List.length_zipIdx]
/-- the mark as (points, most) -/
noncomputable def mkT (es : List Wk) (dr : Int) : D := if rowsF es = [] then .non else .tup [.int (kpP (rowsF es) dr (exF es)), .int (kpM (rowsF es) dr (exF es))]
instance {es : List Wk} {dr : Int} : PlC (mkT es dr) := ⟨by unfold mkT; split <;> rfl⟩
instance {es : List Wk} {dr : Int} : FtC (mkT es dr) 1 2 (ShOk es ∧ 0 ≤ dr ∧ dr ≤ 5) := ⟨fun ⟨h, d0, d1⟩ => by
  unfold mkT
  by_cases hn : rowsF es = []
  · rw [if_pos hn]; exact Ft.non
  · rw [if_neg hn]
    obtain ⟨⟨s1, s2⟩, ⟨s3, s4⟩, s5, s6, s7⟩ := kp_sums (h.dr d0 d1 hn)
    exact (FtAll.cons (Ft.int (b := 0) (by unfold kpP; omega)) (FtAll.cons (Ft.int (b := 0) (by unfold kpM; omega)) (FtAll.nil (b := 0)))).tup⟩
/-! ### promises -/
def T__law_works : FnT := fun ss μ Q => ∃ c m, ss = [.cel 0, .d (.int m)] ∧ μ = [some c] ∧ IsSt c ∧ (1 ≤ m ∧ m ≤ 12) ∧ ∀ (ts : List Tk) c', WorksOk ts → ts.length ≤ m → IsSt c' → Q (.d (.tup (ts.map tkD))) [some c']
def T__law_rule : FnT := fun ss μ Q => ∃ c, ss = [.cel 0] ∧ μ = [some c] ∧ IsSt c ∧ ∀ r c', RuOk r → IsSt c' → Q (.d (rlD r)) [some c']
def T__law_made (C : Addr) : FnT := fun ss μ Q => ∃ r, ss = [.d (rlD r)] ∧ μ = [] ∧ RuOk r ∧ Q (.d (ruD C r)) []
def T__law_try : FnT := fun ss μ Q => ∃ c t, ss = [.cel 0, .d (tkD t)] ∧ μ = [some c] ∧ IsSt c ∧ TkOk t ∧ ∀ u c', TryOk t.m u → IsSt c' → Q (.d (tryD u)) [some c']
def T__law_result : FnT := fun ss μ Q => ∃ c t, ss = [.cel 0, .d (tkD t)] ∧ μ = [some c] ∧ IsSt c ∧ TkOk t ∧ ∀ o c', ResOk t.m o → IsSt c' → Q (.d (resD o)) [some c']
def T__law_points : FnT := T_late_points
def T__law_score : FnT := fun ss μ Q => ∃ t r o, ss = [.d (tkD t), .d (rlD r), .d (resD o)] ∧ μ = [] ∧ TkOk t ∧ RuOk r ∧ ResOk t.m o ∧ Q (.d (scD (scoreF t r o))) []
def T__law_lots : FnT := fun ss μ Q => ∃ n m : Int, ss = [.d (.int n), .d (.int m)] ∧ μ = [] ∧ (1 ≤ m ∧ m ≤ n ∧ n ≤ 12 ∧ n - m ≤ 5) ∧ Q (.d (.lst ((lotsF (n - m).toNat m.toNat).map tupI))) []
def T__law_best : FnT := fun ss μ Q => ∃ rows d ex, ss = [.d (.tup (rows.map rowD)), .d (.int d), .d (.int ex)] ∧ μ = [] ∧ DrOk rows d ex ∧ Q (.d (.tup [.tup ((kpF rows d ex).map .int), .int (kpP rows d ex), .int (kpM rows d ex)])) []
def T__law_told : FnT := fun ss μ Q => ∃ (es : List Wk) (dr : Int), ss = [.d (.tup (es.map fun e => tkD e.t)), .d (.tup (es.map fun e => rlD e.r)), .d (.tup (es.map fun e => resD e.o)), .d (.int dr)] ∧ μ = [] ∧ ShOk es ∧ (0 ≤ dr ∧ dr ≤ 5) ∧ Q (.d (.tup [.tup ((rowsF es).map rowD), .int (exF es), mkT es dr, .lst (stepsF es dr)])) []
def T__law_shown : FnT := fun ss μ Q => ∃ es dr, ss = [.d (.lst (stepsF es dr))] ∧ μ = [] ∧ ShOk es ∧ (0 ≤ dr ∧ dr ≤ 5) ∧ Q (.d (.str (sheetS es dr))) []
def T__law_parts : FnT := fun ss μ Q => ∃ c m, ss = [.cel 0, .d (.int m)] ∧ μ = [some c] ∧ IsSt c ∧ (1 ≤ m ∧ m ≤ 12) ∧ ∀ (es : List Wk) dr c', ShOk es → es.length ≤ m → 0 ≤ dr → dr ≤ 5 → IsSt c' → Q (.d (ptsD es dr)) [some c']
def T__law_sheet (C Cr : Addr) : FnT := fun ss μ Q => ∃ es dr, ss = [.d (ptsD es dr)] ∧ μ = [] ∧ ShOk es ∧ (0 ≤ dr ∧ dr ≤ 5) ∧ Q (.d (shD C Cr es dr)) []
def T__law_marked (Cm : Addr) : FnT := fun ss μ Q => ∃ es dr, ss = [.d (mkF Cm es dr)] ∧ μ = [] ∧ ShOk es ∧ (0 ≤ dr ∧ dr ≤ 5) ∧ Q (.d (mkT es dr)) []
def T__law_same : FnT := fun ss μ Q => ∃ s x y, ss = [s, .d y] ∧ ((s = .d x ∧ μ = []) ∨ (s = .cel 0 ∧ ∃ ds, x = .lst ds ∧ μ = [some (.lst ds)])) ∧ plain x = true ∧ plain y = true ∧ Fit 60 60000 (py x) ∧ Fit 60 60000 (py y) ∧ Q (.d (.bl (decide ((py x).shown = (py y).shown)))) μ
/-- sheets' parts, however they are written -/
class PtL (ds1 ds2 ds3 : List D) (es : outParam (List Wk)) : Prop where
  e1 : ds1 = es.map fun e => tkD e.t
  e2 : ds2 = es.map fun e => rlD e.r
  e3 : ds3 = es.map fun e => resD e.o
instance {es : List Wk} : PtL (es.map fun e => tkD e.t) (es.map fun e => rlD e.r) (es.map fun e => resD e.o) es := ⟨rfl, rfl, rfl⟩
def withO (o : Res) (e : Wk) : Wk := ⟨e.t, e.r, o⟩
def withX (e : Wk) : Wk := ⟨⟨e.t.d, e.t.m, true⟩, e.r, e.o⟩
omit Tb in
theorem rep_map {α β : Type} (d : β) : ∀ xs : List α, List.replicate xs.length d = xs.map fun _ => d
  | [] => rfl
  | x :: xs => by rw [List.length_cons, List.replicate_succ, List.map_cons, rep_map d xs]
instance {es : List Wk} {n : Nat} [h : LLen es n] : PtL (es.map fun e => tkD e.t) (es.map fun e => rlD e.r) (List.replicate n (.str "excused")) (es.map (withO .exc)) := ⟨by rw [List.map_map]; rfl, by rw [List.map_map]; rfl, by rw [← h.eq, rep_map, List.map_map]; rfl⟩
instance {es : List Wk} : PtL (es.map fun e => tkD e.t) (es.map fun e => rlD e.r) (List.replicate es.length (.str "excused")) (es.map (withO .exc)) := ⟨by rw [List.map_map]; rfl, by rw [List.map_map]; rfl, by rw [rep_map, List.map_map]; rfl⟩
instance {es : List Wk} : PtL (es.map fun e => tkD e.t) (es.map fun e => rlD e.r) (List.replicate es.length .non) (es.map (withO .no)) := ⟨by rw [List.map_map]; rfl, by rw [List.map_map]; rfl, by rw [rep_map, List.map_map]; rfl⟩
instance {es : List Wk} : PtL (es.map fun e => .tup [.int e.t.d, .int e.t.m, .bl true]) (es.map fun e => rlD e.r) (es.map fun e => resD e.o) (es.map withX) := ⟨by rw [List.map_map]; rfl, by rw [List.map_map]; rfl, by rw [List.map_map]; rfl⟩
theorem ShOk.map {es : List Wk} (h : ShOk es) (f : Wk → Wk) (hd : ∀ e, (f e).t.d = e.t.d) (hf : ∀ e, WkOk e → WkOk (f e)) : ShOk (es.map f) := by
  refine ⟨by rw [List.length_map]; exact h.l0, by rw [List.length_map]; exact h.l1, fun e he => ?_, ?_⟩
  · obtain ⟨e', h', rfl⟩ := List.mem_map.mp he
    exact hf e' (h.all e' h')
  · rw [List.map_map]
    have : ((fun e : Wk => e.t.d) ∘ f) = fun e => e.t.d := funext hd
    rw [this]
    exact h.up
theorem ShOk.exc {es : List Wk} (h : ShOk es) : ShOk (es.map (withO .exc)) := h.map _ (fun _ => rfl) fun e he => ⟨he.t, he.r, trivial⟩
theorem ShOk.no {es : List Wk} (h : ShOk es) : ShOk (es.map (withO .no)) := h.map _ (fun _ => rfl) fun e he => ⟨he.t, he.r, trivial⟩
theorem ShOk.ext {es : List Wk} (h : ShOk es) : ShOk (es.map withX) := h.map _ (fun _ => rfl) fun e he => ⟨⟨he.t.d0, he.t.d1, he.t.m0, he.t.m1⟩, he.r, he.o⟩
section
variable {d m a b n ex dr : Int} {x : Bool} {z : Str} {cc : Cell} {Q : QD} {C Cr Cm : Addr} {ds ds1 ds2 ds3 : List D} {rows : List Km.Row} {es : List Wk}
instance : Stp (T__law_works [.cel 0, .d (.int m)] [some cc] Q) (IsSt cc ∧ (1 ≤ m ∧ m ≤ 12) ∧ ∀ (ts : List Tk) c', WorksOk ts → ts.length ≤ m → IsSt c' → Q (.d (.tup (ts.map tkD))) [some c']) := ⟨fun w => ⟨cc, m, rfl, rfl, w⟩⟩
instance : Stp (T__law_rule [.cel 0] [some cc] Q) (IsSt cc ∧ ∀ r c', RuOk r → IsSt c' → Q (.d (rlD r)) [some c']) := ⟨fun w => ⟨cc, rfl, rfl, w⟩⟩
instance : Stp (T__law_made C [.d (.tup [.int a, .int b, .str z])] [] Q) (RuOk ⟨a, b, z⟩ ∧ Q (.d (ruD C ⟨a, b, z⟩)) []) := ⟨fun w => ⟨⟨a, b, z⟩, rfl, rfl, w⟩⟩
instance : Stp (T__law_try [.cel 0, .d (.tup [.int d, .int m, .bl x])] [some cc] Q) (IsSt cc ∧ TkOk ⟨d, m, x⟩ ∧ ∀ u c', TryOk m u → IsSt c' → Q (.d (tryD u)) [some c']) := ⟨fun w => ⟨cc, ⟨d, m, x⟩, rfl, rfl, w⟩⟩
instance : Stp (T__law_result [.cel 0, .d (.tup [.int d, .int m, .bl x])] [some cc] Q) (IsSt cc ∧ TkOk ⟨d, m, x⟩ ∧ ∀ o c', ResOk m o → IsSt c' → Q (.d (resD o)) [some c']) := ⟨fun w => ⟨cc, ⟨d, m, x⟩, rfl, rfl, w⟩⟩
instance {p d c : Int} : Stp (T__law_points [.d (.int p), .d (.int d), .d (.int c)] [] Q) ((0 ≤ p ∧ p ≤ 1000) ∧ (0 ≤ d ∧ d ≤ 1000) ∧ (0 ≤ c ∧ c ≤ 1000) ∧ Q (.d (.int (lateF p d c))) []) := ⟨fun z => ⟨p, d, c, rfl, rfl, z⟩⟩
instance {o : Res} {r : D} [h : ResC r o] : Stp (T__law_score [.d (.tup [.int d, .int m, .bl x]), .d (.tup [.int a, .int b, .str z]), .d r] [] Q) (TkOk ⟨d, m, x⟩ ∧ RuOk ⟨a, b, z⟩ ∧ ResOk m o ∧ Q (.d (scD (scoreF ⟨d, m, x⟩ ⟨a, b, z⟩ o))) []) := ⟨fun w => ⟨⟨d, m, x⟩, ⟨a, b, z⟩, o, by rw [h.eq], rfl, w⟩⟩
instance : Stp (T__law_lots [.d (.int n), .d (.int m)] [] Q) ((1 ≤ m ∧ m ≤ n ∧ n ≤ 12 ∧ n - m ≤ 5) ∧ Q (.d (.lst ((lotsF (n - m).toNat m.toNat).map tupI))) []) := ⟨fun w => ⟨n, m, rfl, rfl, w⟩⟩
instance [h : RowsC ds rows] : Stp (T__law_best [.d (.tup ds), .d (.int d), .d (.int ex)] [] Q) (DrOk rows d ex ∧ Q (.d (.tup [.tup ((kpF rows d ex).map .int), .int (kpP rows d ex), .int (kpM rows d ex)])) []) := ⟨fun w => ⟨rows, d, ex, by rw [h.eq], rfl, w⟩⟩
instance [h : PtL ds1 ds2 ds3 es] : Stp (T__law_told [.d (.tup ds1), .d (.tup ds2), .d (.tup ds3), .d (.int dr)] [] Q) (ShOk es ∧ (0 ≤ dr ∧ dr ≤ 5) ∧ Q (.d (.tup [.tup ((rowsF es).map rowD), .int (exF es), mkT es dr, .lst (stepsF es dr)])) []) := ⟨fun w => ⟨es, dr, by rw [h.e1, h.e2, h.e3], rfl, w⟩⟩
instance : Stp (T__law_shown [.d (.lst (stepsF es dr))] [] Q) (ShOk es ∧ (0 ≤ dr ∧ dr ≤ 5) ∧ Q (.d (.str (sheetS es dr))) []) := ⟨fun w => ⟨es, dr, rfl, rfl, w⟩⟩
instance : Stp (T__law_parts [.cel 0, .d (.int m)] [some cc] Q) (IsSt cc ∧ (1 ≤ m ∧ m ≤ 12) ∧ ∀ (es : List Wk) dr c', ShOk es → es.length ≤ m → 0 ≤ dr → dr ≤ 5 → IsSt c' → Q (.d (ptsD es dr)) [some c']) := ⟨fun w => ⟨cc, m, rfl, rfl, w⟩⟩
instance [h : PtL ds1 ds2 ds3 es] : Stp (T__law_sheet C Cr [.d (.tup [.tup ds1, .tup ds2, .tup ds3, .int dr])] [] Q) (ShOk es ∧ (0 ≤ dr ∧ dr ≤ 5) ∧ Q (.d (shD C Cr es dr)) []) := ⟨fun w => ⟨es, dr, by rw [h.e1, h.e2, h.e3], rfl, w⟩⟩
instance : Stp (T__law_marked Cm [.d (mkF Cm es dr)] [] Q) (ShOk es ∧ (0 ≤ dr ∧ dr ≤ 5) ∧ Q (.d (mkT es dr)) []) := ⟨fun w => ⟨es, dr, rfl, rfl, w⟩⟩
instance {x y : D} : Stp (T__law_same [.d x, .d y] [] Q) (plain x = true ∧ plain y = true ∧ Fit 60 60000 (py x) ∧ Fit 60 60000 (py y) ∧ Q (.d (.bl (decide ((py x).shown = (py y).shown)))) []) := ⟨fun z => ⟨.d x, x, y, rfl, .inl ⟨rfl, rfl⟩, z⟩⟩
instance {x : D} : Stp (T__law_same [.d x, .d x] [] Q) (plain x = true ∧ Fit 60 60000 (py x) ∧ Q (.d (.bl true)) []) := ⟨fun ⟨a, b, z⟩ => ⟨.d x, x, x, rfl, .inl ⟨rfl, rfl⟩, a, a, b, b, by rw [decide_eq_true rfl]; exact z⟩⟩
instance {ds : List D} {y : D} : Stp (T__law_same [.cel 0, .d y] [some (.lst ds)] Q) (plain (.lst ds) = true ∧ plain y = true ∧ Fit 60 60000 (py (.lst ds)) ∧ Fit 60 60000 (py y) ∧ Q (.d (.bl (decide ((py (.lst ds)).shown = (py y).shown)))) [some (.lst ds)]) := ⟨fun z => ⟨.cel 0, .lst ds, y, rfl, .inr ⟨rfl, ds, rfl, rfl⟩, z⟩⟩
instance {ds : List D} : Stp (T__law_same [.cel 0, .d (.lst ds)] [some (.lst ds)] Q) (plain (.lst ds) = true ∧ Fit 60 60000 (py (.lst ds)) ∧ Q (.d (.bl true)) [some (.lst ds)]) := ⟨fun ⟨a, b, z⟩ => ⟨.cel 0, .lst ds, .lst ds, rfl, .inr ⟨rfl, ds, rfl, rfl⟩, a, a, b, b, by rw [decide_eq_true rfl]; exact z⟩⟩
end
end Dl
set_option Elab.async false
set_option linter.all false
set_option maxRecDepth 100000
set_option maxHeartbeats 4000000
set_option synthInstance.maxHeartbeats 4000000
set_option synthInstance.maxSize 100000
/-! ## DM. repr of a tuple some of whose parts are tuples of instances, shown by their own def -/
namespace Cm
open PySem PySem.Spec PyProof.Rows L2
section
variable {h : Heap}
theorem readsAll_mem : ∀ {vs : List Value} {ds : List PyData} {as : List Addr}, ReadsAll h vs ds as → ∀ v ∈ vs, ∃ d bs, Reads h v d bs
  | _, _, _, .nil, v, hv => nomatch hv
  | _, _, _, .cons a r, v, hv => by
    rcases List.mem_cons.mp hv with e | e
    · rw [e]; exact ⟨_, _, a⟩
    · exact readsAll_mem r v e
theorem reads_tup {a : Addr} {o : Obj} {items : Array Value} {n : Nat} {d : PyData} {as : List Addr} (r : Reads h (.ref a) d as) (ha : h.get? a = some o) (hc : o.cls = .type "tuple") (hd : o.data = .seq items n) : ∀ v ∈ items.toList, ∃ d bs, Reads h v d bs := by
  cases r with
  | list e c dd ra =>
    rw [ha] at e
    cases e
    rw [hc] at c
    exact absurd c (by simp)
  | tuple e c dd ra =>
    rw [ha] at e
    cases e
    rw [hd] at dd
    cases dd
    exact readsAll_mem ra
  | dict e c dd ra rb =>
    rw [ha] at e
    cases e
    rw [hc] at c
    exact absurd c (by simp)
theorem reads_own {x C : Addr} {o : Obj} {d : PyData} {as : List Addr} (ha : h.get? x = some o) (hc : o.cls = .ref C) : ¬ Reads h (.ref x) d as := by
  intro r
  cases r with
  | list e c dd ra =>
    rw [ha] at e
    cases e
    rw [hc] at c
    exact absurd c (by simp)
  | tuple e c dd ra =>
    rw [ha] at e
    cases e
    rw [hc] at c
    exact absurd c (by simp)
  | dict e c dd ra rb =>
    rw [ha] at e
    cases e
    rw [hc] at c
    exact absurd c (by simp)
end
section
variable {prog : Program} {w : World} {A : Around} {E : Value → Shared → Prop} {s : Shared}
/-- a tuple's text, items shown while J stands, within other reprs -/
theorem tupAt_J {a : Addr} {o : Obj} {items : Array Value} {n : Nat} {ts : List Str} {J : Shared → Prop} {R : Result → Shared → Prop} {g : List Code} {base : Nat} {id : String} {rest : List Value}
    (ha : s.heap.get? a = some o) (hc : o.cls = .type "tuple") (hd : o.data = .seq items n) (hg : A.guards = some g) (hcl : Clear g a)
    (hT : Paired (fun x t => ReprJ prog w (A.under (.builtin id ⟨.ref a :: rest, []⟩)) (fun e s' => R (.error e) s') J x t) items.toList ts) (hJ : J s)
    (hz : base + (tupleText ts).length ≤ sizeLine) (hR : ∀ s' u, J s' → R (.ok (.ret (.str (tupleText ts) u))) { s' with toks := s'.toks + 1 }) :
    wpOwn (model prog w) A (.builtin id ⟨.ref a :: rest, []⟩) (Builtin.tupleReprAt base ⟨[.ref a], []⟩) (fun fin s' => match fin with | .done f => R (.ok f) s' | .again c' => c'.quiet = true ∧ codeAny (model prog w) A c' R s') (fun e s' => R (.error e) s') s := by
  have hl : ts.length = items.size := by
    have := Paired.length hT
    simpa using this.symm
  have hp := piled_le_tupleText ts
  rw [tuple_repr_tree, tupleReprUnderWay_eq]
  refine wpOwn_bind (wpOwn_stackTailAny hg (tupGuardF_off _) (tupGuardF_pos _) ?_)
  have hn : (g.any fun c => tupGuardF (.ref a) (c, default)) = false := by
    rw [List.any_eq_false]
    intro c hcm
    rw [tupGuardF_of_clear hcl c hcm]
    exact Bool.false_ne_true
  rw [hn]
  refine wpOwn_of_wpAny ?_
  show wpAny _ _ (tupleReprRest base (.ref a)) _ _ s
  unfold tupleReprRest Builtin.Tuple.tupleItemsOf
  refine wpAny_bind (wpAny_bind (wpAny_seqItems ha hd (wpAny_pure ?_)))
  rw [← Array.forIn_toList]
  refine wpAny_bind (fold_J hT #[] base s (by omega) hJ fun s' J' => ?_)
  refine wpAny_bind (wpAny_mkStr (wpAny_pure ?_) (by have : (tupleText ts).length ≤ sizeLine := by omega
                                                     simpa [tupleText, hl] using this))
  have last := hR s' s'.toks J'
  simpa [tupleText, hl] using last
/-- .. as an item of another one -/
theorem under_tupJ {a : Addr} {o : Obj} {items : Array Value} {n : Nat} {ts : List Str} {J : Shared → Prop} {Q : Str → Shared → Prop} {g : List Code} {base : Nat}
    (ha : s.heap.get? a = some o) (hc : o.cls = .type "tuple") (hd : o.data = .seq items n) (hg : A.guards = some g) (hcl : Clear g a) (hu : A.units < cLine)
    (hT : Paired (fun x t => ReprJ prog w (A.under (.builtin "tuple.__repr__.under" ⟨[.ref a, rawInt base], []⟩)) E J x t) items.toList ts) (hJ : J s)
    (hz : base + (tupleText ts).length ≤ sizeLine) (hQ : ∀ s', J s' → Q (tupleText ts) { s' with toks := s'.toks + 1 }) : wpAny (model prog w) A (pyReprUnder base (.ref a)) Q E s := by
  refine wpAny_pyReprUnder_ref (by omega) (wpAny_pyReprObjUnder_twin (twin := "tuple.__repr__.under") ⟨o, ha, hc⟩ F.slot_tuple_repr rfl hu ?_)
  refine call_twin_own (F.quiet_tuple_repr_under _) F.entry_tuple_repr_under F.check_tuple_repr_under ⟨o, ha, hc⟩ F.slot_tuple_repr (F.args_tuple_repr_1 _) ?_
  refine tupAt_J (R := callEnd _ E) ha hc hd hg hcl ?_ hJ hz fun s' u J' => ?_
  · exact hT
  · exact ⟨⟨_, _, rfl⟩, _, _, rfl, hQ s' J'⟩
end
section
variable {X : Cx} {CX : CXT} {pins : List (Addr × Obj)} {σ : L2.St} {H : Hp} {s : Shared} {C gR : Addr} {k : Nat} {fd : FuncData} {ps : List Str} {sp : Sp} {E : XK}
/-- G: the heaps that may stand meanwhile -/
def InsTxt (C : Addr) (sp : Sp) (E : XK) (G : Hp → Prop) (v : V) (y : Str) : Prop := ∃ a dx fs, v = V.ref a ∧ (∀ H1, G H1 → H1 a = some (.ins C dx fs)) ∧ ∀ H1, G H1 → sp [.ref a] H1 (fun z H' => z = .str y ∧ G H') E
/-- an item: plain data, or a tuple of instances -/
inductive ItemM (C : Addr) (sp : Sp) (E : XK) (G : Hp → Prop) : V → Str → Prop
  | plain {v : V} {d : PyData} : (∀ H1, G H1 → ∀ p, H1 p = none → Dt H1 p v d) → Fit 60 60000 d → ItemM C sp E G v d.shown
  | inst {t : Addr} {vs : List V} {ts : List Str} : (∀ H1, G H1 → H1 t = some (.tup vs)) → Paired (InsTxt C sp E G) vs ts → ItemM C sp E G (.ref t) (tupleText ts)
def rReprM (C : Addr) (sp : Sp) (E : XK) : List V → Hp → VK → Prop := fun xs H Q => ∃ (G : Hp → Prop) (t : Addr) (vs : List V) (ts : List Str), xs = [.ref t] ∧ G H ∧ (∀ H1, G H1 → H1 t = some (.tup vs)) ∧ Paired (ItemM C sp E G) vs ts ∧
  (∃ t2 vs2 a dx fs, V.ref t2 ∈ vs ∧ V.ref a ∈ vs2 ∧ ∀ H1, G H1 → H1 t2 = some (.tup vs2) ∧ H1 a = some (.ins C dx fs)) ∧ (tupleText ts).length ≤ sizeLine ∧ ∀ H1, G H1 → Q (.str (tupleText ts)) H1
theorem room_tupU {A : Around} {args : Args} (r : Room (k + 1) A) : Room k (A.under (.builtin "tuple.__repr__.under" args)) := by
  refine ⟨?_, ?_, ?_⟩
  · exact r.hd
  · have h := r.dp
    have e : (A.under (.builtin "tuple.__repr__.under" args)).depth ≤ A.depth + 2 := by
      simp [Around.under, Code.weight, Code.isCreation, Code.isGuard, Code.isCaller, Code.frames, Code.isFrame, guardIds]
    omega
  · rw [units_under_tuple_repr_under]
    have h := r.un
    omega
theorem env_tupU {A : Around} {args : Args} {outer : List Env} (e : Env0 X.prog X.w X.K X.mg X.base A outer s H) : Env0 X.prog X.w X.K X.mg X.base (A.under (.builtin "tuple.__repr__.under" args)) outer s H :=
  ⟨by first | exact e.frames | (simpa [Around.under, Code.envs, Code.isFrame, pushEnvs] using e.frames), e.mod, e.bs, e.bsz, e.funs, e.frf, e.hok, e.bare⟩
theorem vals_mem {vs : List V} {us : List Value} (r : Vals vs us) {a : Addr} (h : V.ref a ∈ vs) : Value.ref a ∈ us := by
  induction r with
  | nil => cases h
  | cons r1 r2 ih =>
    rcases List.mem_cons.mp h with e | e
    · subst e
      cases r1
      exact List.mem_cons_self
    · exact List.mem_cons_of_mem _ (ih e)
theorem call_reprM (Fn : FnOk X.prog X.w X.K X.mg X.base CX k gR fd ps sp) (hr : Room (k + 4) X.A) (hg : X.A.guards = some []) (hs : PySem.W.findIn X.K (.ref C) "__repr__" = some (some (.ref gR))) (hf : PySem.W.isFn X.K (.ref gR) = true)
    (hb : Binds X.K fd ps []) (hx : Passes CX X E) : CallR X (.builtin "repr") (rReprM C sp E) := by
  intro pins s σ H xs us Q I r h
  obtain ⟨G, t, vs, ts, rfl, hG, ht, hp, hin, hz, q⟩ := h
  obtain ⟨u, rfl, ru⟩ := r.one
  cases ru
  obtain ⟨its, rv, ⟨o, ho, hc, n, hd⟩, _⟩ := I.tuple (SqT.of (ht H hG))
  let J : Shared → Prop := fun s' => ∃ H1, Inv X pins σ H1 s' ∧ G H1
  -- no plain data stands at t, at whatever state
  have noT : ∀ s', J s' → ¬ ∃ d as, Reads s'.heap (.ref t) d as := by
    rintro s' ⟨H1, I', g1⟩ ⟨d, as, rd⟩
    obtain ⟨t2, vs2, a, dx, fs, m2, ma, hh⟩ := hin
    obtain ⟨h2, hA⟩ := hh H1 g1
    obtain ⟨its1, rv1, ⟨o1, ho1, hc1, n1, hd1⟩, _⟩ := I'.tuple (SqT.of (ht H1 g1))
    obtain ⟨its2, rv2, ⟨o2, ho2, hc2, n2, hd2⟩, _⟩ := I'.tuple (SqT.of h2)
    obtain ⟨d1, as1, r1⟩ := reads_tup rd ho1 hc1 hd1 (.ref t2) (by simpa using vals_mem rv1 m2)
    obtain ⟨d2, as2, r2⟩ := reads_tup r1 ho2 hc2 hd2 (.ref a) (by simpa using vals_mem rv2 ma)
    obtain ⟨mA, JO, _⟩ := ins_get I'.hok hA
    obtain ⟨od, JO, _⟩ := JO.look
    obtain ⟨ox, hox, hcx⟩ : ∃ ox, s'.heap.get? a = some ox ∧ ox.cls = .ref C := ⟨_, JO.at_, JO.cls⟩
    exact reads_own hox hcx r2
  have hcg : ∀ b, (∃ s' d as, J s' ∧ Reads s'.heap (.ref b) d as) → Clear [Code.builtin "tuple.__repr__" ⟨[.ref t], []⟩] b := fun b ⟨s', d, as, I', rd⟩ => by
    refine (Clear.nil b).cons fun e => ?_
    subst e
    exact noT s' I' ⟨d, as, rd⟩
  refine call_repr_slot (show X.A.units + 1 < cLine from hr.in1.units0) ⟨o, ho, hc⟩ F.slot_tuple_repr ?_
  refine tuple_J (A := X.A.in1) (J := J) ho hc hd hg ?_ ⟨H, I, hG⟩ hz fun s' u J' => ?_
  case refine_2 =>
    obtain ⟨H1, I1, g1⟩ := J'
    exact ⟨_, _, rfl, .str (tupleText ts), H1, I1.tok _, ⟨_, rfl⟩, q H1 g1⟩
  have hgu : (X.A.in1.under (.builtin "tuple.__repr__" ⟨[.ref t], []⟩)).guards = some [Code.builtin "tuple.__repr__" ⟨[.ref t], []⟩] := guards_under_guard (isGuard_tuple_repr _) hg
  have rm : Room (k + 2) (X.A.in1.under (.builtin "tuple.__repr__" ⟨[.ref t], []⟩)) := room_tup (hr.in1)
  have ru := rm.un
  have each : ∀ {vs : List V} {us : List Value} {ts : List Str}, Vals vs us → Paired (ItemM C sp E G) vs ts → (∀ v ∈ vs, V.ref t ≠ v) →
      Paired (fun x t' => ReprJ X.prog X.w (X.A.in1.under (.builtin "tuple.__repr__" ⟨[.ref t], []⟩)) X.xe J x t') us ts := by
    intro vs us ts rv hp hne
    induction hp generalizing us with
    | nil => cases rv; exact .nil
    | cons h _ ih =>
      cases rv with
      | cons r1 r2 =>
        refine .cons ?_ (ih r2 fun v hv => hne v (List.mem_cons_of_mem _ hv))
        have hn0 := hne _ List.mem_cons_self
        cases h with
        | plain hdt hfit =>
          intro b hb2 s' Q' J' hQ
          obtain ⟨H1, I1, g1⟩ := J'
          obtain ⟨_, bs, m, kk⟩ := Dt.shows I1 (hdt H1 g1 _ (I1.hok.fresh (Nat.le_refl _))) r1 hfit.sh (hfit.shown (Nat.le_refl _))
          refine kk b hb2 _ _ X.xe s' Q' hgu (fun b hb => ?_) ?_ (fun _ _ e => e) fun h' tk hk => hQ _ ⟨H1, I1.kept hk, g1⟩
          · obtain ⟨d', as', rd, _⟩ := m b hb
            exact hcg b ⟨s', d', as', ⟨H1, I1, g1⟩, rd⟩
          · have := hfit.dp
            omega
        | @inst t2 vs2 ts2 ht2 hp2 =>
          cases r1
          intro b hb2 s' Q' J' hQ
          obtain ⟨H1, I1, g1⟩ := J'
          obtain ⟨its2, rv2, ⟨o2, ho2, hc2, n2, hd2⟩, _⟩ := I1.tuple (SqT.of (ht2 H1 g1))
          refine under_tupJ (J := J) ho2 hc2 hd2 hgu ((Clear.nil t2).cons fun e => hn0 (by rw [e])) rm.units0 ?_ ⟨H1, I1, g1⟩ hb2 fun s2 J2 => hQ _ (by obtain ⟨H2, I2, g2⟩ := J2; exact ⟨H2, I2.tok _, g2⟩)
          have rm2 : Room k ((X.A.in1.under (.builtin "tuple.__repr__" ⟨[.ref t], []⟩)).under (.builtin "tuple.__repr__.under" ⟨[.ref t2, rawInt b], []⟩)) := room_tupU (rm.mono (by omega))
          have each2 : ∀ {vs : List V} {us : List Value} {ts : List Str}, Vals vs us → Paired (InsTxt C sp E G) vs ts →
              Paired (fun x t' => ReprJ X.prog X.w ((X.A.in1.under (.builtin "tuple.__repr__" ⟨[.ref t], []⟩)).under (.builtin "tuple.__repr__.under" ⟨[.ref t2, rawInt b], []⟩)) X.xe J x t') us ts := by
            intro vs us ts rv hp
            induction hp generalizing us with
            | nil => cases rv; exact .nil
            | cons h _ ih =>
              cases rv with
              | cons r1 r2 =>
                refine .cons ?_ (ih r2)
                obtain ⟨a, dx, fs, rfl, ha, q⟩ := h
                cases r1
                intro b3 hb3 s3 Q3 J3 hQ3
                obtain ⟨H3, I3, g3⟩ := J3
                obtain ⟨mA, JO, _⟩ := ins_get I3.hok (ha H3 g3)
                obtain ⟨od, JO, _⟩ := JO.look
                refine under_own (by omega) rm2.units0 I3.kIn JO hs hf ?_
                refine wpAny_mono (fn_at (us := [.ref a]) (vs := [.ref a]) Fn rm2 (env_tupU (env_tup I3.env0.in1)) hb hx I3 (.cons rfl .nil) (q H3 g3)) (fun w s4 z => ?_) fun _ _ x => x
                obtain ⟨z', H', I', rz, rfl, g4⟩ := z
                obtain ⟨tk, rfl⟩ := rz
                exact ⟨_, tk, rfl, hQ3 s4 ⟨H', I', g4⟩⟩
          simpa using each2 rv2 hp2
  have hne : ∀ v ∈ vs, V.ref t ≠ v := by
    intro v hv e
    subst e
    have key : ∀ {vs : List V} {ts : List Str}, Paired (ItemM C sp E G) vs ts → V.ref t ∈ vs → ∃ y, ItemM C sp E G (.ref t) y := by
      intro vs ts hp hm
      induction hp with
      | nil => cases hm
      | cons h _ ih =>
        rcases List.mem_cons.mp hm with e | e
        · rw [e]; exact ⟨_, h⟩
        · exact ih e
    obtain ⟨y, hy⟩ := key hp hv
    cases hy with
    | plain hdt hfit =>
      obtain ⟨⟨as, rd⟩, _⟩ := Dt.shows I (hdt H hG _ (I.hok.fresh (Nat.le_refl _))) (show RelV (.ref t) (.ref t) from rfl) hfit.sh (hfit.shown (Nat.le_refl _))
      exact noT s ⟨H, I, hG⟩ ⟨_, as, rd⟩
    | @inst t2 vs2 ts2 ht2 hp2 =>
      have e2 : vs = vs2 := by
        have h1 := (ht H hG).symm.trans (ht2 H hG)
        injection h1 with h1
        injection h1
      subst e2
      have key2 : ∀ {vs : List V} {ts : List Str}, Paired (InsTxt C sp E G) vs ts → V.ref t ∈ vs → ∃ y, InsTxt C sp E G (.ref t) y := by
        intro vs ts hp hm
        induction hp with
        | nil => cases hm
        | cons h _ ih =>
          rcases List.mem_cons.mp hm with e | e
          · rw [e]; exact ⟨_, h⟩
          · exact ih e
      obtain ⟨y2, a, dx, fs, e, ha, _⟩ := key2 hp2 hv
      cases e
      have h1 := (ht H hG).symm.trans (ha H hG)
      cases h1
  simpa using each rv hp hne
end
end Cm
namespace Dl
open PySem PySem.Spec PyProof.Rows L2 Cm Sk Km
variable [Tb : Tbls]
/-! ### over data -/
/-- an instance's text by its own def -/
def OwnTxt (C : Addr) (Tf : FnT) (d : D) (y : Str) : Prop := (∃ ns ds, d = .ins C ns ds) ∧ Tf [.d d] [] (fun s _ => s = .d (.str y))
inductive ItD (C : Addr) (Tf : FnT) : D → Str → Prop
  | plain {d : D} : plain d = true → Fit 60 60000 (py d) → ItD C Tf d (py d).shown
  | inst {ds : List D} {ts : List Str} : Paired (OwnTxt C Tf) ds ts → ItD C Tf (.tup ds) (tupleText ts)
def dReprM (C : Addr) (Tf : FnT) : RDl := fun ss μ Q => ∃ ds ts, ss = [.d (.tup ds)] ∧ Paired (ItD C Tf) ds ts ∧ (∃ es e, D.tup es ∈ ds ∧ e ∈ es ∧ ∃ ns vs, e = .ins C ns vs) ∧ (tupleText ts).length ≤ sizeLine ∧ Q (.d (.str (tupleText ts))) μ
section
variable {K : PySem.W.Frag} {N : Addr → Prop} {M : Ms} {H : Hp} {μ : Mu} {C : Addr} {Tf : FnT} {E : XK}
theorem IsAll.mem {vs : List V} {ds : List D} (r : IsAll K N H vs ds) {d : D} (h : d ∈ ds) : ∃ v, v ∈ vs ∧ Is K N H v d := by
  obtain ⟨i, hi, e⟩ := List.getElem_of_mem h
  obtain ⟨v, h1, h2⟩ := r.getD (i := i) (by rw [List.getElem?_eq_getElem hi, e])
  exact ⟨v, List.mem_of_getElem? h1, h2⟩
abbrev Gd (K : PySem.W.Frag) (N : Addr → Prop) (H : Hp) : Hp → Prop := fun H1 => Kp [] H H1 ∧ StR K N [] H1 []
theorem Gd.go (st : StR K N M H μ) {H1 : Hp} (g : Gd K N H H1) : Go N H N H1 := fun b o n e => ⟨n, g.1 b o (fun z => n (st.sub b (.inr (inM_nil z)))) e⟩
theorem insTxts (st : StR K N M H μ) : ∀ {vs : List V} {ds : List D} {ts : List Str}, IsAll K N H vs ds → Paired (OwnTxt C Tf) ds ts → Paired (InsTxt C (spD K 1 Tf) E (Gd K N H)) vs ts := by
  intro vs ds ts r hp
  induction hp generalizing vs with
  | nil => cases r; exact .nil
  | @cons d t ds ts h _ ih =>
    cases r with
    | cons r1 r2 =>
      refine .cons ?_ (ih r2)
      obtain ⟨⟨ns, es, rfl⟩, hT⟩ := h
      obtain ⟨a, dx, us, rfl, na, ha, l, ra⟩ := r1.ins_inv
      refine ⟨a, dx, _, rfl, fun H1 g => (Gd.go st g a _ na ha).2, fun H1 g => ?_⟩
      have r1' : Is K N H1 (.ref a) (.ins C ns es) := (Is.ins na ha l ra).go (Gd.go st g)
      refine ⟨rfl, N, [], _, [], _, g.2, .cons (.d r1') .nil, hT, fun v H' s' μ' k st' rs e => ?_⟩
      subst e
      have l0 : μ' = [] := List.eq_nil_of_length_eq_zero st'.len.symm
      subst l0
      exact ⟨rs.d_inv.str_inv, g.1.trans k, st'⟩
theorem items_m (st : StR K N M H μ) : ∀ {vs : List V} {ds : List D} {ts : List Str}, IsAll K N H vs ds → Paired (ItD C Tf) ds ts → Paired (ItemM C (spD K 1 Tf) E (Gd K N H)) vs ts := by
  intro vs ds ts r hp
  induction hp generalizing vs with
  | nil => cases r; exact .nil
  | @cons d t ds ts h _ ih =>
    cases r with
    | cons r1 r2 =>
      refine .cons ?_ (ih r2)
      cases h with
      | plain hp hf => exact .plain (fun H1 g p hp1 => (r1.go (Gd.go st g)).dt hp1 hp) hf
      | inst hp =>
        obtain ⟨a, us, rfl, na, ha, ra⟩ := r1.tup_inv
        exact .inst (fun H1 g => (Gd.go st g a _ na ha).2) (insTxts st ra hp)
instance : CallD K (rReprM C (spD K 1 Tf) E) (dReprM C Tf) where
  go := by
    intro N M H μ vs ss Qd Qv st r ⟨ds, ts, e, hp, ⟨es, e1, m1, m2, ns, us, e2⟩, hz, q⟩ c
    subst e e2
    obtain ⟨v, rfl, r0⟩ := isSA1 r
    obtain ⟨a, ws, rfl, na, ha, ra⟩ := r0.d_inv.tup_inv
    obtain ⟨v1, w1, r1⟩ := ra.mem m1
    obtain ⟨a1, ws1, rfl, na1, ha1, ra1⟩ := r1.tup_inv
    obtain ⟨v2, w2, r2⟩ := ra1.mem m2
    obtain ⟨a2, dx2, ws2, rfl, na2, ha2, l2, ra2⟩ := r2.ins_inv
    refine ⟨Gd K N H, a, ws, ts, rfl, ⟨Kp.refl, st.none_⟩, fun H1 g => (Gd.go st g a _ na ha).2, items_m st ra hp, ⟨a1, ws1, a2, dx2, _, w1, w2, fun H1 g => ⟨(Gd.go st g a1 _ na1 ha1).2, (Gd.go st g a2 _ na2 ha2).2⟩⟩, hz, fun H1 g => ?_⟩
    exact c _ H1 _ μ (g.1.less fun b z => .inr (inM_nil z)) (st.keepAll g.1 g.2) (.d (.str _)) q
end
end Dl
set_option Elab.async false
set_option linter.all false
set_option maxRecDepth 100000
set_option maxHeartbeats 4000000
set_option synthInstance.maxHeartbeats 4000000
set_option synthInstance.maxSize 100000
/-! ## DJ. texts of rules, of sheets' parts -/
namespace Dl
open PySem PySem.Spec PyProof.Rows L2 Cm Sk Km
variable [Tb : Tbls]
theorem Ft.len {m b : Nat} {d : PyData} (f : Ft (2 ^ 150) m b d) : d.shown.length ≤ 252 * b + 250 := by
  have h := ok_leaves (show 2 ^ 150 < 2 ^ 200 by decide) d f.ok
  have h1 := PyData.shown_le_bulk 250 (by decide) d h.1
  have h2 := f.bk
  have h3 : (250 + 2) * d.bulk ≤ 252 * b := Nat.mul_le_mul (Nat.le_refl _) h2
  omega
/-! ### a rule's text -/
theorem lnR1 : (Str.ofString "Rules(drop=").length = 11 := by decide
theorem lnR2 : (Str.ofString ", cut=").length = 6 := by decide
theorem lnR3 : (Str.ofString ", second=").length = 9 := by decide
theorem lnR4 : (Str.ofString ")").length = 1 := by decide
def ruT (r : Ru) : Str := ((((((Str.empty ++ ("Rules(drop=" : Str)) ++ toString r.a) ++ (", cut=" : Str)) ++ toString r.b) ++ (", second=" : Str)) ++ r.z) ++ (")" : Str)
theorem ruT_len {r : Ru} (h : RuOk r) : (ruT r).length ≤ 40 := by
  have la := str_small h.a0 (show r.a ≤ 100 by have := h.a1; omega)
  have lb := str_small h.b0 h.b1
  have lz := h.zl
  have e1 : (toString r.a : Str) = Str.ofString (toString r.a) := rfl
  have e2 : (toString r.b : Str) = Str.ofString (toString r.b) := rfl
  unfold ruT
  simp only [strLen_append, lnE, lnR1, lnR2, lnR3, lnR4]
  omega
def T_Rules___repr__ (C : Addr) : FnT := fun ss μ Q => ∃ a b z, ss = [.d (ruD C ⟨a, b, z⟩)] ∧ μ = [] ∧ RuOk ⟨a, b, z⟩ ∧ Q (.d (.str (ruT ⟨a, b, z⟩))) []
theorem own_ru {C : Addr} {r : Ru} (h : RuOk r) : OwnTxt C (T_Rules___repr__ C) (ruD C r) (ruT r) := ⟨⟨_, _, rfl⟩, r.a, r.b, r.z, rfl, rfl, h, rfl⟩
theorem own_rus {C : Addr} : ∀ {es : List Wk}, (∀ e ∈ es, RuOk e.r) → Paired (OwnTxt C (T_Rules___repr__ C)) (es.map fun e => ruD C e.r) (es.map fun e => ruT e.r)
  | [], _ => .nil
  | e :: es, h => .cons (own_ru (h e (by simp))) (own_rus fun x hx => h x (by simp [hx]))
/-! ### sheets' parts -/
instance {es : List Wk} : FtL (es.map fun e => tkD e.t) 1 (es.length * 4) (ShOk es) := ⟨fun h => ftAll_map (m := 1) (b := 3) (f := fun e : Wk => tkD e.t) (xs := es) fun e he => by
  obtain ⟨h1, h2, h3, h4⟩ := (h.all e he).t
  exact (FtAll.cons (Ft.int (b := 0) (by omega)) (FtAll.cons (Ft.int (b := 0) (by omega)) (FtAll.cons (Ft.bl (b := 0)) (FtAll.nil (b := 0))))).tup⟩
theorem ft_tryD {m : Int} {t : Int × Int} (hm : m ≤ 100) (h : TryOk m t) : Ft (2 ^ 150) 1 2 (py (tryD t)) := by
  obtain ⟨h1, h2, h3, h4⟩ := h
  exact (FtAll.cons (Ft.int (b := 0) (by omega)) (FtAll.cons (Ft.int (b := 0) (by omega)) (FtAll.nil (b := 0)))).tup
theorem ft_resD {m : Int} {o : Res} (hm : m ≤ 100) (h : ResOk m o) : Ft (2 ^ 150) 2 9 (py (resD o)) := by
  rcases o with _ | _ | ts
  · exact Ft.non
  · exact (Ft.str (b := 7) (by decide +kernel) (by decide +kernel)).mono (Nat.le_refl _) (Nat.zero_le _) (by decide)
  · obtain ⟨l1, l3, hall, hp⟩ := h
    have := ftAll_map (m := 1) (b := 2) (f := tryD) (xs := ts) fun t ht => ft_tryD hm (hall t ht)
    exact (this.mono (Nat.le_refl _) (Nat.le_refl _) (show ts.length * (2 + 1) ≤ 9 by omega)).tup
instance {es : List Wk} : FtL (es.map fun e => resD e.o) 2 (es.length * 10) (ShOk es) := ⟨fun h => ftAll_map (m := 2) (b := 9) (f := fun e : Wk => resD e.o) (xs := es) fun e he => ft_resD (h.all e he).t.m1 (h.all e he).o⟩
def rssT (es : List Wk) : Str := (py (.tup (es.map fun e => resD e.o))).shown
def wksT (es : List Wk) : Str := (py (.tup (es.map fun e => tkD e.t))).shown
def rusT (es : List Wk) : Str := tupleText (es.map fun e => ruT e.r)
theorem wks_fit {es : List Wk} (h : ShOk es) : Fit 60 60000 (py (.tup (es.map fun e => tkD e.t))) ∧ (wksT es).length ≤ 20000 := by
  have l := h.l1
  have f : Ft (2 ^ 150) 2 (es.length * 4) (py (.tup (es.map fun e => tkD e.t))) := FtC.go (d := .tup (es.map fun e => tkD e.t)) h
  have f := f.mono (Nat.le_refl _) (Nat.le_refl _) (show es.length * 4 ≤ 48 by omega)
  exact ⟨f.fit (by decide) (by decide) (by decide), Nat.le_trans (Ft.len f) (by decide)⟩
theorem rss_fit {es : List Wk} (h : ShOk es) : Fit 60 60000 (py (.tup (es.map fun e => resD e.o))) ∧ (rssT es).length ≤ 40000 := by
  have l := h.l1
  have f : Ft (2 ^ 150) 3 (es.length * 10) (py (.tup (es.map fun e => resD e.o))) := FtC.go (d := .tup (es.map fun e => resD e.o)) h
  have f := f.mono (Nat.le_refl _) (Nat.le_refl _) (show es.length * 10 ≤ 120 by omega)
  exact ⟨f.fit (by decide) (by decide) (by decide), Nat.le_trans (Ft.len f) (by decide)⟩
theorem rus_len {es : List Wk} (h : ShOk es) : (rusT es).length ≤ 1000 := by
  have l := h.l1
  have h1 := tupleText_len_le (es.map fun e => ruT e.r)
  have h2 := sum_lens (b := 40) (ys := es.map fun e => ruT e.r) fun y hy => by
    obtain ⟨e, he, rfl⟩ := List.mem_map.mp hy
    exact ruT_len (h.all e he).r
  rw [List.length_map] at h1 h2
  unfold rusT
  omega
/-- the text of what is shown: plain data, or a tuple with a tuple of instances among its parts -/
def ShT (C : Addr) (Tf : FnT) (x : D) (t : Str) : Prop := (plain x = true ∧ Fit 60 60000 (py x) ∧ t = (py x).shown) ∨
  (∃ ds ts, x = .tup ds ∧ Paired (ItD C Tf) ds ts ∧ (∃ es e, D.tup es ∈ ds ∧ e ∈ es ∧ ∃ ns vs, e = .ins C ns vs) ∧ (tupleText ts).length ≤ sizeLine ∧ t = tupleText ts)
theorem has_ru {C : Addr} {es : List Wk} {ds : List D} (h : ShOk es) (hm : D.tup (es.map fun e => ruD C e.r) ∈ ds) : ∃ fs e, D.tup fs ∈ ds ∧ e ∈ fs ∧ ∃ ns vs, e = D.ins C ns vs := by
  have l := h.l0
  obtain ⟨e, he⟩ : ∃ e, e ∈ es := ⟨es[0], List.getElem_mem _⟩
  exact ⟨_, ruD C e.r, hm, List.mem_map.mpr ⟨e, he, rfl⟩, _, _, rfl⟩
def heldT (es : List Wk) : Str := tupleText [wksT es, rusT es, rssT es]
theorem held_ok {C : Addr} {es : List Wk} (h : ShOk es) : ShT C (T_Rules___repr__ C) (.tup [.tup (es.map fun e => tkD e.t), .tup (es.map fun e => ruD C e.r), .tup (es.map fun e => resD e.o)]) (heldT es) := by
  obtain ⟨f1, l1⟩ := wks_fit h
  obtain ⟨f2, l2⟩ := rss_fit h
  have l3 := rus_len h
  refine .inr ⟨_, _, rfl, .cons (.plain PlC.eq f1) (.cons (.inst (own_rus fun e he => (h.all e he).r)) (.cons (.plain PlC.eq f2) .nil)), has_ru h (by simp), ?_, rfl⟩
  have := tupleText_len_le [wksT es, rusT es, rssT es]
  simp only [List.map_cons, List.map_nil, List.sum_cons, List.sum_nil, List.length_cons, List.length_nil] at this
  exact Nat.le_trans (Nat.le_trans this (show _ ≤ 100000 by omega)) (by decide)
theorem held4_ok {C : Addr} {es : List Wk} {dr : Int} (h : ShOk es) (d0 : 0 ≤ dr) (d1 : dr ≤ 5) : ∃ t, ShT C (T_Rules___repr__ C) (.tup [.tup (es.map fun e => tkD e.t), .tup (es.map fun e => ruD C e.r), .tup (es.map fun e => resD e.o), .int dr]) t := by
  obtain ⟨f1, l1⟩ := wks_fit h
  obtain ⟨f2, l2⟩ := rss_fit h
  have l3 := rus_len h
  have f : Ft (2 ^ 150) 0 0 (py (.int dr)) := Ft.int (by omega)
  have l4 := Ft.len f
  refine ⟨_, .inr ⟨_, _, rfl, .cons (.plain PlC.eq f1) (.cons (.inst (own_rus fun e he => (h.all e he).r)) (.cons (.plain PlC.eq f2) (.cons (.plain PlC.eq (f.fit (by decide) (by decide) (by decide))) .nil))), has_ru h (by simp), ?_, rfl⟩⟩
  have := tupleText_len_le [wksT es, rusT es, rssT es, (py (.int dr)).shown]
  simp only [List.map_cons, List.map_nil, List.sum_cons, List.sum_nil, List.length_cons, List.length_nil] at this
  exact Nat.le_trans (Nat.le_trans this (show _ ≤ 100000 by omega)) (by decide)
/-! ### one reading of a call or another -/
def rOrC (r r' : List V → Hp → VK → Prop) : List V → Hp → VK → Prop := fun xs H Q => r xs H Q ∨ r' xs H Q
theorem cr_or {X : Cx} {f : Value} {r r' : List V → Hp → VK → Prop} (h : CallR X f r) (h' : CallR X f r') : CallR X f (rOrC r r') := callOr h h'
def dOrC (r r' : RDl) : RDl := fun ss μ Q => r ss μ Q ∨ r' ss μ Q
instance {K : PySem.W.Frag} {r r' : List V → Hp → VK → Prop} {d d' : RDl} [a : CallD K r d] [b : CallD K r' d'] : CallD K (rOrC r r') (dOrC d d') where
  go := by
    intro N M H μ vs ss Qd Qv st r h c
    rcases h with h | h
    · exact .inl (a.go N M H μ vs ss Qd Qv st r h c)
    · exact .inr (b.go N M H μ vs ss Qd Qv st r h c)
/-- repr(x), whatever is shown -/
theorem repr_any {C : Addr} {Tf : FnT} {x : D} {t : Str} {μ : Mu} {Q : QD} (h : ShT C Tf x t) (q : Q (.d (.str t)) μ) : dOrC dRepr (dReprM C Tf) [.d x] μ Q := by
  rcases h with ⟨p, f, rfl⟩ | ⟨ds, ts, rfl, hp, hi, hz, rfl⟩
  · exact .inl ⟨.d x, x, rfl, rfl, p, f, q⟩
  · exact .inr ⟨ds, ts, rfl, hp, hi, hz, q⟩
instance {C : Addr} {es : List Wk} {μ : Mu} {Q : QD} : Stp (dOrC dRepr (dReprM C (T_Rules___repr__ C)) [.d (.tup [.tup (es.map fun e => tkD e.t), .tup (es.map fun e => ruD C e.r), .tup (es.map fun e => resD e.o)])] μ Q) (ShOk es ∧ Q (.d (.str (heldT es))) μ) := ⟨fun ⟨h, q⟩ => repr_any (held_ok h) q⟩
def TM_same (C : Addr) : FnT := fun ss μ Q => ∃ x y tx ty, ss = [.d x, .d y] ∧ μ = [] ∧ ShT C (T_Rules___repr__ C) x tx ∧ ShT C (T_Rules___repr__ C) y ty ∧ Q (.d (.bl (decide (tx = ty)))) []
instance {C : Addr} {es : List Wk} {dr : Int} {Q : QD} : Stp (TM_same C [.d (.tup [.tup (es.map fun e => tkD e.t), .tup (es.map fun e => ruD C e.r), .tup (es.map fun e => resD e.o), .int dr]), .d (.tup [.tup (es.map fun e => tkD e.t), .tup (es.map fun e => ruD C e.r), .tup (es.map fun e => resD e.o), .int dr])] [] Q) (ShOk es ∧ (0 ≤ dr ∧ dr ≤ 5) ∧ Q (.d (.bl true)) []) := ⟨fun ⟨h, ⟨d0, d1⟩, q⟩ => by
  obtain ⟨t, ht⟩ := held4_ok (C := C) h d0 d1
  exact ⟨_, _, t, t, rfl, rfl, ht, ht, by rw [decide_eq_true rfl]; exact q⟩⟩
instance (priority := 500) {C : Addr} {x : D} {Q : QD} [p : PlC x] : Stp (TM_same C [.d x, .d x] [] Q) (Fit 60 60000 (py x) ∧ Q (.d (.bl true)) []) := ⟨fun ⟨f, q⟩ => ⟨x, x, _, _, rfl, rfl, .inl ⟨p.eq, f, rfl⟩, .inl ⟨p.eq, f, rfl⟩, by rw [decide_eq_true rfl]; exact q⟩⟩
section
variable {α : Type} {xs : List α} {f : α → D} {μ : Mu} {Q : QD}
instance (priority := 3000) : Stp (dLen [.d (.tup (xs.map f))] μ Q) (Q (.d (.int xs.length)) μ) := ⟨fun z => ⟨_, rfl, .inl ⟨xs.map f, rfl, by rw [List.length_map]; exact z⟩⟩⟩
end
end Dl
set_option Elab.async false
set_option linter.all false
set_option maxRecDepth 100000
set_option maxHeartbeats 4000000
set_option synthInstance.maxHeartbeats 4000000
set_option synthInstance.maxSize 100000
namespace Dl
open PySem PySem.Spec PyProof.Rows L2 Cm Sk Km
variable [Tb : Tbls]
def top (i : Nat) : Stmt := PySem.Challenge.pw_classmarks_k50_sheets_rows_and_extra_poi.main.body.getD i (.Pass ⟨0, 0, 0, 0⟩)
variable [Tb : Tbls]
structure Tx (K : PySem.W.Frag) (mg : Str → Option Value) where
  C_Rules : Addr
  m_Rules : mg "Rules" = some (.ref C_Rules)
  cl_Rules : Cls K C_Rules
  is_Rules : IsiC K C_Rules
  na_Rules_drop : NoAttr K C_Rules "drop"
  na_Rules_cut : NoAttr K C_Rules "cut"
  na_Rules_second : NoAttr K C_Rules "second"
  C_Sheet : Addr
  m_Sheet : mg "Sheet" = some (.ref C_Sheet)
  cl_Sheet : Cls K C_Sheet
  is_Sheet : IsiC K C_Sheet
  na_Sheet_works : NoAttr K C_Sheet "works"
  na_Sheet_rules : NoAttr K C_Sheet "rules"
  na_Sheet_results : NoAttr K C_Sheet "results"
  na_Sheet_drop : NoAttr K C_Sheet "drop"
  f_is_whole_from : Addr
  fd_is_whole_from : FuncData
  F_is_whole_from : Fun K "is_whole_from" "is_whole_from" (top 11) f_is_whole_from fd_is_whole_from
  b_is_whole_from : Binds K fd_is_whole_from ["thing", "least"] []
  m_is_whole_from : mg "is_whole_from" = some (.ref f_is_whole_from)
  f_is_whole_in : Addr
  fd_is_whole_in : FuncData
  F_is_whole_in : Fun K "is_whole_in" "is_whole_in" (top 12) f_is_whole_in fd_is_whole_in
  b_is_whole_in : Binds K fd_is_whole_in ["thing", "least", "most"] []
  m_is_whole_in : mg "is_whole_in" = some (.ref f_is_whole_in)
  f_is_drop : Addr
  fd_is_drop : FuncData
  F_is_drop : Fun K "is_drop" "is_drop" (top 20) f_is_drop fd_is_drop
  b_is_drop : Binds K fd_is_drop ["thing"] []
  m_is_drop : mg "is_drop" = some (.ref f_is_drop)
  f_is_cut : Addr
  fd_is_cut : FuncData
  F_is_cut : Fun K "is_cut" "is_cut" (top 21) f_is_cut fd_is_cut
  b_is_cut : Binds K fd_is_cut ["thing"] []
  m_is_cut : mg "is_cut" = some (.ref f_is_cut)
  f_is_second : Addr
  fd_is_second : FuncData
  F_is_second : Fun K "is_second" "is_second" (top 22) f_is_second fd_is_second
  b_is_second : Binds K fd_is_second ["thing"] []
  m_is_second : mg "is_second" = some (.ref f_is_second)
  f_Rules___init__ : Addr
  fd_Rules___init__ : FuncData
  F_Rules___init__ : FnD K "__init__" "Rules.__init__" (inClass (top 23) 0) [(.int 0), (.int 0), (.str "best")] f_Rules___init__ fd_Rules___init__
  b_Rules___init__ : Binds K fd_Rules___init__ ["self", "drop", "cut", "second"] []
  k1_Rules___init___drop_cut_second : KBn K fd_Rules___init__ ["self", "drop", "cut", "second"] 1 ["drop", "cut", "second"] (fun us ws => [nU us 0, nU ws 0, nU ws 1, nU ws 2]) (fun us ws => [nV us 0, nV ws 0, nV ws 1, nV ws 2])
  k4_Rules___init__ : KBn K fd_Rules___init__ ["self", "drop", "cut", "second"] 4 [] (fun us ws => [nU us 0, nU us 1, nU us 2, nU us 3]) (fun us ws => [nV us 0, nV us 1, nV us 2, nV us 3])
  f_Rules___repr__ : Addr
  fd_Rules___repr__ : FuncData
  F_Rules___repr__ : Fun K "__repr__" "Rules.__repr__" (inClass (top 23) 2) f_Rules___repr__ fd_Rules___repr__
  b_Rules___repr__ : Binds K fd_Rules___repr__ ["self"] []
  f_rules_like : Addr
  fd_rules_like : FuncData
  F_rules_like : Fun K "rules_like" "rules_like" (top 24) f_rules_like fd_rules_like
  b_rules_like : Binds K fd_rules_like ["rules"] []
  m_rules_like : mg "rules_like" = some (.ref f_rules_like)
  f_has_parts : Addr
  fd_has_parts : FuncData
  F_has_parts : Fun K "has_parts" "has_parts" (top 26) f_has_parts fd_has_parts
  b_has_parts : Binds K fd_has_parts ["thing", "least", "most"] []
  m_has_parts : mg "has_parts" = some (.ref f_has_parts)
  f_never_falls : Addr
  fd_never_falls : FuncData
  F_never_falls : Fun K "never_falls" "never_falls" (top 27) f_never_falls fd_never_falls
  b_never_falls : Binds K fd_never_falls ["numbers"] []
  m_never_falls : mg "never_falls" = some (.ref f_never_falls)
  f_is_day : Addr
  fd_is_day : FuncData
  F_is_day : Fun K "is_day" "is_day" (top 32) f_is_day fd_is_day
  b_is_day : Binds K fd_is_day ["thing"] []
  m_is_day : mg "is_day" = some (.ref f_is_day)
  f_is_work : Addr
  fd_is_work : FuncData
  F_is_work : Fun K "is_work" "is_work" (top 33) f_is_work fd_is_work
  b_is_work : Binds K fd_is_work ["thing"] []
  m_is_work : mg "is_work" = some (.ref f_is_work)
  f_are_works : Addr
  fd_are_works : FuncData
  F_are_works : Fun K "are_works" "are_works" (top 34) f_are_works fd_are_works
  b_are_works : Binds K fd_are_works ["thing"] []
  m_are_works : mg "are_works" = some (.ref f_are_works)
  f_look_at_works : Addr
  fd_look_at_works : FuncData
  F_look_at_works : Fun K "look_at_works" "look_at_works" (top 35) f_look_at_works fd_look_at_works
  b_look_at_works : Binds K fd_look_at_works ["works"] []
  m_look_at_works : mg "look_at_works" = some (.ref f_look_at_works)
  f_late_points : Addr
  fd_late_points : FuncData
  F_late_points : FnD K "late_points" "late_points" (top 50) [(.int 0)] f_late_points fd_late_points
  b_late_points : Binds K fd_late_points ["points", "days", "cut"] []
  m_late_points : mg "late_points" = some (.ref f_late_points)
  f_is_try : Addr
  fd_is_try : FuncData
  F_is_try : Fun K "is_try" "is_try" (top 51) f_is_try fd_is_try
  b_is_try : Binds K fd_is_try ["work", "thing"] []
  m_is_try : mg "is_try" = some (.ref f_is_try)
  f_are_tries : Addr
  fd_are_tries : FuncData
  F_are_tries : Fun K "are_tries" "are_tries" (top 52) f_are_tries fd_are_tries
  b_are_tries : Binds K fd_are_tries ["work", "thing"] []
  m_are_tries : mg "are_tries" = some (.ref f_are_tries)
  f_is_result : Addr
  fd_is_result : FuncData
  F_is_result : Fun K "is_result" "is_result" (top 53) f_is_result fd_is_result
  b_is_result : Binds K fd_is_result ["work", "thing"] []
  m_is_result : mg "is_result" = some (.ref f_is_result)
  f_score : Addr
  fd_score : FuncData
  F_score : Fun K "score" "score" (top 54) f_score fd_score
  b_score : Binds K fd_score ["work", "rules", "result"] []
  m_score : mg "score" = some (.ref f_score)
  f_counted_of : Addr
  fd_counted_of : FuncData
  F_counted_of : Fun K "counted_of" "counted_of" (top 55) f_counted_of fd_counted_of
  b_counted_of : Binds K fd_counted_of ["rules", "points"] []
  m_counted_of : mg "counted_of" = some (.ref f_counted_of)
  f_are_rules_for : Addr
  fd_are_rules_for : FuncData
  F_are_rules_for : Fun K "are_rules_for" "are_rules_for" (top 57) f_are_rules_for fd_are_rules_for
  b_are_rules_for : Binds K fd_are_rules_for ["works", "thing"] []
  m_are_rules_for : mg "are_rules_for" = some (.ref f_are_rules_for)
  f_are_results_of : Addr
  fd_are_results_of : FuncData
  F_are_results_of : Fun K "are_results_of" "are_results_of" (top 58) f_are_results_of fd_are_results_of
  b_are_results_of : Binds K fd_are_results_of ["works", "thing"] []
  m_are_results_of : mg "are_results_of" = some (.ref f_are_results_of)
  f_scores_of : Addr
  fd_scores_of : FuncData
  F_scores_of : Fun K "scores_of" "scores_of" (top 59) f_scores_of fd_scores_of
  b_scores_of : Binds K fd_scores_of ["sheet"] []
  m_scores_of : mg "scores_of" = some (.ref f_scores_of)
  f_counted_in : Addr
  fd_counted_in : FuncData
  F_counted_in : Fun K "counted_in" "counted_in" (top 60) f_counted_in fd_counted_in
  b_counted_in : Binds K fd_counted_in ["works", "scores"] []
  m_counted_in : mg "counted_in" = some (.ref f_counted_in)
  f_Sheet___init__ : Addr
  fd_Sheet___init__ : FuncData
  F_Sheet___init__ : FnD K "__init__" "Sheet.__init__" (inClass (top 63) 0) [(.int 0)] f_Sheet___init__ fd_Sheet___init__
  b_Sheet___init__ : Binds K fd_Sheet___init__ ["self", "works", "rules", "results", "drop"] []
  k1_Sheet___init___drop_results_rules_works : KBn K fd_Sheet___init__ ["self", "works", "rules", "results", "drop"] 1 ["drop", "results", "rules", "works"] (fun us ws => [nU us 0, nU ws 3, nU ws 2, nU ws 1, nU ws 0]) (fun us ws => [nV us 0, nV ws 3, nV ws 2, nV ws 1, nV ws 0])
  k4_Sheet___init__ : ∃ gW, KBn K fd_Sheet___init__ ["self", "works", "rules", "results", "drop"] 4 [] gW (fun us ws => [nV us 0, nV us 1, nV us 2, nV us 3, (.int 0)])
  k5_Sheet___init__ : KBn K fd_Sheet___init__ ["self", "works", "rules", "results", "drop"] 5 [] (fun us ws => [nU us 0, nU us 1, nU us 2, nU us 3, nU us 4]) (fun us ws => [nV us 0, nV us 1, nV us 2, nV us 3, nV us 4])
  f_Sheet___len__ : Addr
  fd_Sheet___len__ : FuncData
  F_Sheet___len__ : Fun K "__len__" "Sheet.__len__" (inClass (top 63) 1) f_Sheet___len__ fd_Sheet___len__
  b_Sheet___len__ : Binds K fd_Sheet___len__ ["self"] []
  f_Sheet_rows : Addr
  fd_Sheet_rows : FuncData
  mt_Sheet_rows : Meth K C_Sheet "rows" f_Sheet_rows
  F_Sheet_rows : Fun K "rows" "Sheet.rows" (inClass (top 63) 4) f_Sheet_rows fd_Sheet_rows
  b_Sheet_rows : Binds K fd_Sheet_rows ["self"] []
  f_Sheet_extra : Addr
  fd_Sheet_extra : FuncData
  mt_Sheet_extra : Meth K C_Sheet "extra" f_Sheet_extra
  F_Sheet_extra : Fun K "extra" "Sheet.extra" (inClass (top 63) 5) f_Sheet_extra fd_Sheet_extra
  b_Sheet_extra : Binds K fd_Sheet_extra ["self"] []
  f__law_cell_at : Addr
  fd__law_cell_at : FuncData
  F__law_cell_at : Fun K "_law_cell_at" "_law_cell_at" (top 65) f__law_cell_at fd__law_cell_at
  b__law_cell_at : Binds K fd__law_cell_at ["_law_script", "_law_k"] []
  m__law_cell_at : mg "_law_cell_at" = some (.ref f__law_cell_at)
  f__law_state : Addr
  fd__law_state : FuncData
  F__law_state : Fun K "_law_state" "_law_state" (top 66) f__law_state fd__law_state
  b__law_state : Binds K fd__law_state ["_law_script", "_law_k"] []
  m__law_state : mg "_law_state" = some (.ref f__law_state)
  f__law_take : Addr
  fd__law_take : FuncData
  F__law_take : Fun K "_law_take" "_law_take" (top 67) f__law_take fd__law_take
  b__law_take : Binds K fd__law_take ["_law_state_here", "_law_many"] []
  m__law_take : mg "_law_take" = some (.ref f__law_take)
  f__law_works : Addr
  fd__law_works : FuncData
  F__law_works : Fun K "_law_works" "_law_works" (top 68) f__law_works fd__law_works
  b__law_works : Binds K fd__law_works ["_law_state_here", "_law_most"] []
  m__law_works : mg "_law_works" = some (.ref f__law_works)
  f__law_rule : Addr
  fd__law_rule : FuncData
  F__law_rule : Fun K "_law_rule" "_law_rule" (top 69) f__law_rule fd__law_rule
  b__law_rule : Binds K fd__law_rule ["_law_state_here"] []
  m__law_rule : mg "_law_rule" = some (.ref f__law_rule)
  f__law_made : Addr
  fd__law_made : FuncData
  F__law_made : Fun K "_law_made" "_law_made" (top 70) f__law_made fd__law_made
  b__law_made : Binds K fd__law_made ["_law_rule_here"] []
  m__law_made : mg "_law_made" = some (.ref f__law_made)
  f__law_try : Addr
  fd__law_try : FuncData
  F__law_try : Fun K "_law_try" "_law_try" (top 71) f__law_try fd__law_try
  b__law_try : Binds K fd__law_try ["_law_state_here", "_law_task"] []
  m__law_try : mg "_law_try" = some (.ref f__law_try)
  f__law_result : Addr
  fd__law_result : FuncData
  c__law_result : Addr
  P__law_result : Addr
  t__law_result : TabQ Tb.ts P__law_result "_law_result.<locals>.<lambda>"
  F__law_result : FunT K "_law_result" "_law_result" (top 72) f__law_result fd__law_result c__law_result
  b__law_result : Binds K fd__law_result ["_law_state_here", "_law_task"] []
  m__law_result : mg "_law_result" = some (.ref f__law_result)
  f__law_points : Addr
  fd__law_points : FuncData
  F__law_points : Fun K "_law_points" "_law_points" (top 73) f__law_points fd__law_points
  b__law_points : Binds K fd__law_points ["_law_got", "_law_dates", "_law_loss"] []
  m__law_points : mg "_law_points" = some (.ref f__law_points)
  f__law_score : Addr
  fd__law_score : FuncData
  F__law_score : Fun K "_law_score" "_law_score" (top 74) f__law_score fd__law_score
  b__law_score : Binds K fd__law_score ["_law_task", "_law_rule_here", "_law_outcome"] []
  m__law_score : mg "_law_score" = some (.ref f__law_score)
  f__law_lots : Addr
  fd__law_lots : FuncData
  F__law_lots : Fun K "_law_lots" "_law_lots" (top 75) f__law_lots fd__law_lots
  b__law_lots : Binds K fd__law_lots ["_law_many", "_law_few"] []
  m__law_lots : mg "_law_lots" = some (.ref f__law_lots)
  f__law_best : Addr
  fd__law_best : FuncData
  F__law_best : Fun K "_law_best" "_law_best" (top 76) f__law_best fd__law_best
  b__law_best : Binds K fd__law_best ["_law_rows", "_law_leave", "_law_extra"] []
  m__law_best : mg "_law_best" = some (.ref f__law_best)
  f__law_told : Addr
  fd__law_told : FuncData
  F__law_told : Fun K "_law_told" "_law_told" (top 77) f__law_told fd__law_told
  b__law_told : Binds K fd__law_told ["_law_tasks", "_law_ruled", "_law_outcomes", "_law_leave"] []
  m__law_told : mg "_law_told" = some (.ref f__law_told)
  f__law_parts : Addr
  fd__law_parts : FuncData
  F__law_parts : Fun K "_law_parts" "_law_parts" (top 78) f__law_parts fd__law_parts
  b__law_parts : Binds K fd__law_parts ["_law_state_here", "_law_most"] []
  m__law_parts : mg "_law_parts" = some (.ref f__law_parts)
  f__law_same : Addr
  fd__law_same : FuncData
  F__law_same : Fun K "_law_same" "_law_same" (top 79) f__law_same fd__law_same
  b__law_same : Binds K fd__law_same ["_law_found", "_law_due"] []
  m__law_same : mg "_law_same" = some (.ref f__law_same)
  f_law : Addr
  fd_law : FuncData
  F_law : Fun K "law" "law" (top 80) f_law fd_law
  b_law : Binds K fd_law ["_law_script"] []
  m_law : mg "law" = some (.ref f_law)
  M_Rules : Mk K C_Rules f_Rules___init__
  rp_Rules : PySem.W.findIn K (.ref C_Rules) "__repr__" = some (some (.ref f_Rules___repr__))
  rf_Rules : PySem.W.isFn K (.ref f_Rules___repr__) = true
  M_Sheet : Mk K C_Sheet f_Sheet___init__
  sl_Sheet : PySem.W.findIn K (.ref C_Sheet) "__len__" = some (some (.ref f_Sheet___len__))
  lf_Sheet : PySem.W.isFn K (.ref f_Sheet___len__) = true
  m_EXCUSED : ∃ t, mg "EXCUSED" = some (.str "excused" t)
  m_LAST_DAY : ∃ t, mg "LAST_DAY" = some (.int 200 t)
  m_MOST_CUT : ∃ t, mg "MOST_CUT" = some (.int 100 t)
  m_MOST_DROP : ∃ t, mg "MOST_DROP" = some (.int 5 t)
  m_MOST_POINTS : ∃ t, mg "MOST_POINTS" = some (.int 100 t)
  m_MOST_TRIES : ∃ t, mg "MOST_TRIES" = some (.int 3 t)
  m_MOST_WORKS : ∃ t, mg "MOST_WORKS" = some (.int 12 t)
  a_SECONDS : Addr
  m_SECONDS : mg "SECONDS" = some (.ref a_SECONDS)
  l_SECONDS : WrT K a_SECONDS [(.str "best"), (.str "last"), (.str "mean")]
  m__law_one : mg "_law_one" = none
  m_all : mg "all" = none
  m_bool : mg "bool" = none
  m_enumerate : mg "enumerate" = none
  m_int : mg "int" = none
  m_isinstance : mg "isinstance" = none
  m_len : mg "len" = none
  m_list : mg "list" = none
  m_max : mg "max" = none
  m_min : mg "min" = none
  m_range : mg "range" = none
  m_repr : mg "repr" = none
  m_sorted : mg "sorted" = none
  m_str : mg "str" = none
  m_sum : mg "sum" = none
  m_tuple : mg "tuple" = none
  m_zip : mg "zip" = none
local macro_rules | `(tactic| walk_at "AX") => `(tactic| first
  | assumption
  | omega
  | decide
  | (refine sm_of ?_; omega)
  | (simp only [List.length_map, List.length_append, List.length_cons, List.length_nil, List.length_set, List.length_reverse]; omega)
  | exact rfl
  | (refine And.intro ?_ ?_ <;> omega))
local macro_rules | `(tactic| walk_at "W") => `(tactic| first
  | refine' stp ?_
  | ((with_reducible refine' And.intro ?a ?_); (case a => walk_at "AX"))
  | ((with_reducible intro hm) <;> (try simp only [List.mem_cons, List.not_mem_nil, or_false] at hm))
  | ((with_reducible refine' r_ite ?_ ?_) <;> intro hc <;> (try simp only [decide_eq_true_eq, decide_eq_false_iff_not, Bool.not_eq_true', Bool.not_eq_false', Bool.not_eq_true, Bool.not_eq_false, Bool.not_true, Bool.not_false, Bool.true_eq_false, Bool.false_eq_true, Int.not_lt, Int.not_le] at hc) <;> (try (exfalso; first | omega | exact hc trivial | exact hc)))
  | dsimp only)
local macro_rules | `(tactic| walk_at "AX") => `(tactic| (refine fit_of ?h1 ?h2 ?h3; (case h2 => decide); (case h3 => omega); (case h1 => ((repeat' (with_reducible apply And.intro)) <;> first | exact True.intro | omega | assumption))))
local macro_rules | `(tactic| walk_at "AX") => `(tactic| exact PlC.eq)
local macro_rules | `(tactic| walk_at "AX") => `(tactic| decide +kernel)
local macro_rules | `(tactic| walk_at "AX") => `(tactic| first | omega | assumption | (simp only [List.length_map, List.length_append, List.length_cons, List.length_nil, List.length_set, List.length_reverse, List.length_take, List.length_drop]; omega))
section
variable {P : Program} {w : World} {K : PySem.W.Frag} {mg : Str → Option Value} {base : Heap}
theorem sc_is_whole_from : FnScope ["thing", "least"] ["thing", "least"] (defScope (top 11)) := ⟨rfl, rfl, rfl, by decide +kernel, rfl, by decide +kernel, by decide +kernel⟩
theorem ok_is_whole_from (T : Tx K mg)  :
    Fg P w K mg base CX0 1 T.f_is_whole_from T.fd_is_whole_from ["thing", "least"] (spD K 2 T_is_whole_from) := by
  refine fg_of0 T.F_is_whole_from sc_is_whole_from (spD_len rfl) (fun cdv A outer s H vs Q E hr hg h => ?_)
  refine ⟨_, (pss_one (ps_ret (pe_and (pe_callB (r := rIsi K) call_isi (by rfl) T.m_isinstance (by decide +kernel) (pa_cons (pv 0) (pa_cons (pe_bltn (v := .ty "int") (by rfl) T.m_int (by decide +kernel) rfl) pa_nil))) (pe_and (pe_not (pe_callB (r := rIsi K) call_isi (by rfl) T.m_isinstance (by decide +kernel) (pa_cons (pv 0) (pa_cons (pe_bltn (v := .ty "bool") (by rfl) T.m_bool (by decide +kernel) rfl) pa_nil)))) (pe_one (pe_cmpR op_lesse (pv 1) (pv 0) (nomark _))))))), ?_⟩
  refine body_d (Nm := ["thing", "least"]) inferInstance ?_ h
  clear h
  rintro ss μ Q ⟨i, lo, rfl, rfl, q⟩
  refine dstart (ρ' := [some _, some _]) rfl (b := 0) rfl ?_
  repeat' (walk_at "W")
  exact q
theorem sc_is_whole_in : FnScope ["thing", "least", "most"] ["thing", "least", "most"] (defScope (top 12)) := ⟨rfl, rfl, rfl, by decide +kernel, rfl, by decide +kernel, by decide +kernel⟩
theorem ok_is_whole_in (T : Tx K mg) (G_is_whole_from : Fg P w K mg base CX0 1 T.f_is_whole_from T.fd_is_whole_from ["thing", "least"] (spD K 2 T_is_whole_from)) :
    Fg P w K mg base CX0 2 T.f_is_whole_in T.fd_is_whole_in ["thing", "least", "most"] (spD K 3 T_is_whole_in) := by
  refine fg_of0 T.F_is_whole_in sc_is_whole_in (spD_len rfl) (fun cdv A outer s H vs Q E hr hg h => ?_)
  refine ⟨_, (pss_one (ps_ret (pe_and (pg_call G_is_whole_from (hr.mono (by decide)) hg rfl T.m_is_whole_from T.F_is_whole_from.kp T.b_is_whole_from .nil pass0 (pa_cons (pv 0) (pa_cons (pv 1) pa_nil))) (pe_one (pe_cmpR op_lesse (pv 0) (pv 2) (nomark _)))))), ?_⟩
  refine body_d (Nm := ["thing", "least", "most"]) inferInstance ?_ h
  clear h
  rintro ss μ Q ⟨i, lo, hi, rfl, rfl, q⟩
  refine dstart (ρ' := [some _, some _, some _]) rfl (b := 0) rfl ?_
  repeat' (walk_at "W")
  all_goals (refine conv_b ?_ q; simp [*]; try omega)
theorem sc_is_drop : FnScope ["thing"] ["thing"] (defScope (top 20)) := ⟨rfl, rfl, rfl, by decide +kernel, rfl, by decide +kernel, by decide +kernel⟩
theorem ok_is_drop (T : Tx K mg) (G_is_whole_in : Fg P w K mg base CX0 2 T.f_is_whole_in T.fd_is_whole_in ["thing", "least", "most"] (spD K 3 T_is_whole_in)) :
    Fg P w K mg base CX0 3 T.f_is_drop T.fd_is_drop ["thing"] (spD K 1 T_is_drop) := by
  refine fg_of0 T.F_is_drop sc_is_drop (spD_len rfl) (fun cdv A outer s H vs Q E hr hg h => ?_)
  refine ⟨_, (pss_one (ps_ret (pg_call G_is_whole_in (hr.mono (by decide)) hg rfl T.m_is_whole_in T.F_is_whole_in.kp T.b_is_whole_in .nil pass0 (pa_cons (pv 0) (pa_cons pe_int (pa_cons (pe_gint rfl T.m_MOST_DROP) pa_nil)))))), ?_⟩
  refine body_d (Nm := ["thing"]) inferInstance ?_ h
  clear h
  rintro ss μ Q ⟨i, rfl, rfl, q⟩
  refine dstart (ρ' := [some _]) rfl (b := 0) rfl ?_
  repeat' (walk_at "W")
  exact q
theorem sc_is_cut : FnScope ["thing"] ["thing"] (defScope (top 21)) := ⟨rfl, rfl, rfl, by decide +kernel, rfl, by decide +kernel, by decide +kernel⟩
theorem ok_is_cut (T : Tx K mg) (G_is_whole_in : Fg P w K mg base CX0 2 T.f_is_whole_in T.fd_is_whole_in ["thing", "least", "most"] (spD K 3 T_is_whole_in)) :
    Fg P w K mg base CX0 3 T.f_is_cut T.fd_is_cut ["thing"] (spD K 1 T_is_cut) := by
  refine fg_of0 T.F_is_cut sc_is_cut (spD_len rfl) (fun cdv A outer s H vs Q E hr hg h => ?_)
  refine ⟨_, (pss_one (ps_ret (pg_call G_is_whole_in (hr.mono (by decide)) hg rfl T.m_is_whole_in T.F_is_whole_in.kp T.b_is_whole_in .nil pass0 (pa_cons (pv 0) (pa_cons pe_int (pa_cons (pe_gint rfl T.m_MOST_CUT) pa_nil)))))), ?_⟩
  refine body_d (Nm := ["thing"]) inferInstance ?_ h
  clear h
  rintro ss μ Q ⟨i, rfl, rfl, q⟩
  refine dstart (ρ' := [some _]) rfl (b := 0) rfl ?_
  repeat' (walk_at "W")
  exact q
theorem sc_is_day : FnScope ["thing"] ["thing"] (defScope (top 32)) := ⟨rfl, rfl, rfl, by decide +kernel, rfl, by decide +kernel, by decide +kernel⟩
theorem ok_is_day (T : Tx K mg) (G_is_whole_in : Fg P w K mg base CX0 2 T.f_is_whole_in T.fd_is_whole_in ["thing", "least", "most"] (spD K 3 T_is_whole_in)) :
    Fg P w K mg base CX0 3 T.f_is_day T.fd_is_day ["thing"] (spD K 1 T_is_day) := by
  refine fg_of0 T.F_is_day sc_is_day (spD_len rfl) (fun cdv A outer s H vs Q E hr hg h => ?_)
  refine ⟨_, (pss_one (ps_ret (pg_call G_is_whole_in (hr.mono (by decide)) hg rfl T.m_is_whole_in T.F_is_whole_in.kp T.b_is_whole_in .nil pass0 (pa_cons (pv 0) (pa_cons pe_int (pa_cons (pe_gint rfl T.m_LAST_DAY) pa_nil)))))), ?_⟩
  refine body_d (Nm := ["thing"]) inferInstance ?_ h
  clear h
  rintro ss μ Q ⟨i, rfl, rfl, q⟩
  refine dstart (ρ' := [some _]) rfl (b := 0) rfl ?_
  repeat' (walk_at "W")
  exact q
theorem sc_is_second : FnScope ["thing"] ["thing"] (defScope (top 22)) := ⟨rfl, rfl, rfl, by decide +kernel, rfl, by decide +kernel, by decide +kernel⟩
theorem ok_is_second (T : Tx K mg)  :
    Fg P w K mg base CX0 1 T.f_is_second T.fd_is_second ["thing"] (spD K 1 T_is_second) := by
  refine fg_of0 T.F_is_second sc_is_second (spD_len rfl) (fun cdv A outer s H vs Q E hr hg h => ?_)
  refine ⟨_, (pss_one (ps_ret (pe_and (pe_callB (r := rIsi K) call_isi (by rfl) T.m_isinstance (by decide +kernel) (pa_cons (pv 0) (pa_cons (pe_bltn (v := .ty "str") (by rfl) T.m_str (by decide +kernel) rfl) pa_nil))) (pe_one (pe_cmpR (r := rIn K false) op_in_seq (pv 0) (pe_gcon (vs := [.str "best", .str "last", .str "mean"]) rfl T.m_SECONDS) (by rfl)))))), ?_⟩
  refine body_d (Nm := ["thing"]) inferInstance ?_ h
  clear h
  rintro ss μ Q ⟨z, rfl, rfl, hz, q⟩
  have hS := T.l_SECONDS
  refine dstart (ρ' := [some _]) rfl (b := 0) rfl ?_
  repeat' (walk_at "W")
  refine conv_b ?_ q
  rw [if_neg Bool.false_ne_true]
  exact in_seconds hz
theorem sc_Rules___init__ : FnScope ["self", "drop", "cut", "second"] ["self", "drop", "cut", "second"] (defScope (inClass (top 23) 0)) := ⟨rfl, rfl, rfl, by decide +kernel, rfl, by decide +kernel, by decide +kernel⟩
theorem ok_Rules___init__ (T : Tx K mg) (G_is_cut : Fg P w K mg base CX0 3 T.f_is_cut T.fd_is_cut ["thing"] (spD K 1 T_is_cut)) (G_is_drop : Fg P w K mg base CX0 3 T.f_is_drop T.fd_is_drop ["thing"] (spD K 1 T_is_drop)) (G_is_second : Fg P w K mg base CX0 1 T.f_is_second T.fd_is_second ["thing"] (spD K 1 T_is_second)) :
    Fg P w K mg base CX0 4 T.f_Rules___init__ T.fd_Rules___init__ ["self", "drop", "cut", "second"] (spD K 4 (T_Rules___init__ T.C_Rules)) := by
  refine fgd_of0 T.F_Rules___init__ sc_Rules___init__ (spD_len rfl) (fun cdv A outer s H vs Q E hr hg h => ?_)
  refine ⟨_, (pss_cons (ps_if (pt_not (pt_val (pg_call G_is_drop (hr.mono (by decide)) hg rfl T.m_is_drop T.F_is_drop.kp T.b_is_drop .nil pass0 (pa_cons (pv 1) pa_nil))))
    (pss_one ps_never)
    pss_nil)
    (pss_cons (ps_if (pt_not (pt_val (pg_call G_is_cut (hr.mono (by decide)) hg rfl T.m_is_cut T.F_is_cut.kp T.b_is_cut .nil pass0 (pa_cons (pv 2) pa_nil))))
    (pss_one ps_never)
    pss_nil)
    (pss_cons (ps_if (pt_not (pt_val (pg_call G_is_second (hr.mono (by decide)) hg rfl T.m_is_second T.F_is_second.kp T.b_is_second .nil pass0 (pa_cons (pv 3) pa_nil))))
    (pss_one ps_never)
    pss_nil)
    (pss_cons (ps_fldK K rfl (ps_fld (pv 0) (pv 1) rfl))
    (pss_cons (ps_fldK K rfl (ps_fld (pv 0) (pv 2) rfl))
    (pss_one (ps_fldK K rfl (ps_fld (pv 0) (pv 3) rfl)))))))), ?_⟩
  refine body_d (Nm := ["self", "drop", "cut", "second"]) inferInstance ?_ h
  clear h
  rintro ss μ Q ⟨a, b, z, rfl, rfl, hR, q⟩
  have c1 := T.cl_Rules
  have n1 := T.na_Rules_drop
  have n2 := T.na_Rules_cut
  have n3 := T.na_Rules_second
  obtain ⟨h1, h2, h3, h4, h5⟩ := hR
  dsimp only at h1 h2 h3 h4 h5
  refine dstart (ρ' := [some _, some _, some _, some _]) rfl (b := 1) rfl ?_
  repeat' (walk_at "W")
  exact q
theorem sc_rules_like : FnScope ["rules"] ["rules"] (defScope (top 24)) := ⟨rfl, rfl, rfl, by decide +kernel, rfl, by decide +kernel, by decide +kernel⟩
theorem ok_rules_like (T : Tx K mg) (G_Rules___init__ : Fg P w K mg base CX0 4 T.f_Rules___init__ T.fd_Rules___init__ ["self", "drop", "cut", "second"] (spD K 4 (T_Rules___init__ T.C_Rules))) :
    Fg P w K mg base CX0 6 T.f_rules_like T.fd_rules_like ["rules"] (spD K 1 (T_rules_like T.C_Rules)) := by
  refine fg_of0 T.F_rules_like sc_rules_like (spD_len rfl) (fun cdv A outer s H vs Q E hr hg h => ?_)
  refine ⟨_, (pss_one (ps_ret (pg_makeN T.M_Rules G_Rules___init__ (hr.mono (by decide)) hg rfl T.m_Rules T.k4_Rules___init__ pass0 (pa_cons (pe_fldK K rfl (pe_fld (pv 0) rfl)) (pa_cons (pe_fldK K rfl (pe_fld (pv 0) rfl)) (pa_cons (pe_fldK K rfl (pe_fld (pv 0) rfl)) pa_nil))) pk_nil))), ?_⟩
  refine body_d (Nm := ["rules"]) inferInstance ?_ h
  clear h
  rintro ss μ Q ⟨a, b, z, rfl, rfl, hR, q⟩
  have c1 := T.cl_Rules
  have n1 := T.na_Rules_drop
  have n2 := T.na_Rules_cut
  have n3 := T.na_Rules_second
  have hR' := hR
  obtain ⟨h1, h2, h3, h4, h5⟩ := hR'
  dsimp only at h1 h2 h3 h4 h5
  refine dstart (ρ' := [some _]) rfl (b := 0) rfl ?_
  repeat' (walk_at "W")
  exact q
theorem sc_has_parts : FnScope ["thing", "least", "most"] ["thing", "least", "most"] (defScope (top 26)) := ⟨rfl, rfl, rfl, by decide +kernel, rfl, by decide +kernel, by decide +kernel⟩
theorem ok_has_parts (T : Tx K mg)  :
    Fg P w K mg base CX0 1 T.f_has_parts T.fd_has_parts ["thing", "least", "most"] (spD K 3 T_has_parts) := by
  refine fg_of0 T.F_has_parts sc_has_parts (spD_len rfl) (fun cdv A outer s H vs Q E hr hg h => ?_)
  refine ⟨_, (pss_one (ps_ret (pe_and (pe_callB (r := rIsi K) call_isi (by rfl) T.m_isinstance (by decide +kernel) (pa_cons (pv 0) (pa_cons (pe_bltn (v := .ty "tuple") (by rfl) T.m_tuple (by decide +kernel) rfl) pa_nil))) (pe_one (pe_chain op_lesse op_lesse (pv 1) (pe_callB (r := Cm.rLen K) call_size (by rfl) T.m_len (by decide +kernel) (pa_cons (pv 0) pa_nil)) (pv 2)))))), ?_⟩
  refine body_d (Nm := ["thing", "least", "most"]) inferInstance ?_ h
  clear h
  rintro ss μ Q ⟨ds, lo, hi, rfl, rfl, q⟩
  refine dstart (ρ' := [some _, some _, some _]) rfl (b := 0) rfl ?_
  repeat' (walk_at "W")
  all_goals (refine conv_b ?_ q; simp [*]; try omega)
theorem sc_never_falls : FnScope ["numbers"] ["numbers"] (defScope (top 27)) := ⟨rfl, rfl, rfl, by decide +kernel, rfl, by decide +kernel, by decide +kernel⟩
theorem ok_never_falls (T : Tx K mg)  :
    Fg P w K mg base CX0 1 T.f_never_falls T.fd_never_falls ["numbers"] (spD K 1 T_never_falls) := by
  refine fg_of0 T.F_never_falls sc_never_falls (spD_len rfl) (fun cdv A outer s H vs Q E hr hg h => ?_)
  refine ⟨_, (pss_one (ps_ret (pe_cmpR (r := rSame K) (op_same hr.units) (pe_callTy (r := rListOf K) call_listed (by rfl) T.m_list (by decide +kernel) (pa_cons (pv 0) pa_nil)) (pe_callB (r := rSortedA K) (cr_sortedA hr.units) (by rfl) T.m_sorted (by decide +kernel) (pa_cons (pv 0) pa_nil)) (nomark _)))), ?_⟩
  refine body_d (Nm := ["numbers"]) inferInstance ?_ h
  clear h
  rintro ss μ Q ⟨ns, rfl, rfl, h1, h3, q⟩
  refine dstart (ρ' := [some _]) rfl (b := 0) rfl ?_
  repeat' (walk_at "W")
  refine conv_b ?_ q
  rw [decide_eq_true_eq]
  exact (sortI_uniq (List.Perm.refl ns) h3)
theorem sc_is_work : FnScope ["thing", "day", "most", "extra"] ["thing"] (defScope (top 33)) := ⟨rfl, rfl, rfl, by decide +kernel, rfl, by decide +kernel, by decide +kernel⟩
theorem ok_is_work (T : Tx K mg) (G_has_parts : Fg P w K mg base CX0 1 T.f_has_parts T.fd_has_parts ["thing", "least", "most"] (spD K 3 T_has_parts)) (G_is_day : Fg P w K mg base CX0 3 T.f_is_day T.fd_is_day ["thing"] (spD K 1 T_is_day)) (G_is_whole_in : Fg P w K mg base CX0 2 T.f_is_whole_in T.fd_is_whole_in ["thing", "least", "most"] (spD K 3 T_is_whole_in)) :
    Fg P w K mg base CX0 4 T.f_is_work T.fd_is_work ["thing"] (spD K 1 T_is_work) := by
  refine fg_of0 T.F_is_work sc_is_work (spD_len rfl) (fun cdv A outer s H vs Q E hr hg h => ?_)
  refine ⟨_, (pss_cons (ps_if (pt_not (pt_val (pg_call G_has_parts (hr.mono (by decide)) hg rfl T.m_has_parts T.F_has_parts.kp T.b_has_parts .nil pass0 (pa_cons (pv 0) (pa_cons pe_int (pa_cons pe_int pa_nil))))))
    (pss_one (ps_ret pe_bl))
    pss_nil)
    (pss_cons (ps_asg (pv 0) (pg_tupK K 3 rfl rfl (pg_tup rfl (pgs_cons (pg_name (i := 1) sc_is_work.nd rfl (by first | exact Or.inl rfl | exact Or.inr rfl)) (pgs_cons (pg_name (i := 2) sc_is_work.nd rfl (by first | exact Or.inl rfl | exact Or.inr rfl)) (pgs_cons (pg_name (i := 3) sc_is_work.nd rfl (by first | exact Or.inl rfl | exact Or.inr rfl)) pgs_nil))))))
    (pss_one (ps_ret (pe_and (pg_call G_is_day (hr.mono (by decide)) hg rfl T.m_is_day T.F_is_day.kp T.b_is_day .nil pass0 (pa_cons (pv 1) pa_nil)) (pe_and (pg_call G_is_whole_in (hr.mono (by decide)) hg rfl T.m_is_whole_in T.F_is_whole_in.kp T.b_is_whole_in .nil pass0 (pa_cons (pv 2) (pa_cons pe_int (pa_cons (pe_gint rfl T.m_MOST_POINTS) pa_nil)))) (pe_one (pe_callB (r := rIsi K) call_isi (by rfl) T.m_isinstance (by decide +kernel) (pa_cons (pv 3) (pa_cons (pe_bltn (v := .ty "bool") (by rfl) T.m_bool (by decide +kernel) rfl) pa_nil)))))))))), ?_⟩
  refine body_d (Nm := ["thing", "day", "most", "extra"]) inferInstance ?_ h
  clear h
  rintro ss μ Q ⟨d, m, x, rfl, rfl, ⟨h1, h2, h3, h4⟩, q⟩
  dsimp only at h1 h2 h3 h4
  refine dstart (ρ' := [some _, none, none, none]) rfl (b := 0) rfl ?_
  repeat' (walk_at "W")
  all_goals exact q
theorem sc_are_works : FnScope ["thing", "part", "work"] ["thing"] (defScope (top 34)) := ⟨rfl, rfl, rfl, by decide +kernel, rfl, by decide +kernel, by decide +kernel⟩
theorem ok_are_works (T : Tx K mg) (G_has_parts : Fg P w K mg base CX0 1 T.f_has_parts T.fd_has_parts ["thing", "least", "most"] (spD K 3 T_has_parts)) (G_is_work : Fg P w K mg base CX0 4 T.f_is_work T.fd_is_work ["thing"] (spD K 1 T_is_work)) (G_never_falls : Fg P w K mg base CX0 1 T.f_never_falls T.fd_never_falls ["numbers"] (spD K 1 T_never_falls)) :
    Fg P w K mg base CX0 5 T.f_are_works T.fd_are_works ["thing"] (spD K 1 T_are_works) := by
  refine fg_of0 T.F_are_works sc_are_works (spD_len rfl) (fun cdv A outer s H vs Q E hr hg h => ?_)
  refine ⟨_, (pss_cons (ps_if (PW.pt (pw_or (pt_not (pt_val (pg_call G_has_parts (hr.mono (by decide)) hg rfl T.m_has_parts T.F_has_parts.kp T.b_has_parts .nil pass0 (pa_cons (pv 0) (pa_cons pe_int (pa_cons (pe_gint rfl T.m_MOST_WORKS) pa_nil)))))) (pw_or1 (pt_not (pt_val (pe_callB (r := rAll K) (cr_all rfl) (by rfl) T.m_all (by decide +kernel) (pa_cons (pe_lc (own := [("part", 1)]) (g := (gName 1)) (tt := tYes) rfl sc_are_works.nd (pi_seqK K rfl (pi_seq (pv 0))) (blkOk_by (N := ["thing", "part", "work"]) (sc := defScope (top 34)) (by decide +kernel)) (fun _ _ _ _ _ => (pg_name (i := 1) sc_are_works.nd rfl (by first | exact Or.inl rfl | exact Or.inr rfl))) (fun _ _ _ _ _ => pts_nil) (fun _ _ _ _ _ => (pg_call G_is_work (hr.mono (by decide)) hg rfl T.m_is_work T.F_is_work.kp T.b_is_work .nil pass0 (pa_cons (pv 1) pa_nil)))) pa_nil)))))))
    (pss_one (ps_ret pe_bl))
    pss_nil)
    (pss_one (ps_ret (pg_call G_never_falls (hr.mono (by decide)) hg rfl T.m_never_falls T.F_never_falls.kp T.b_never_falls .nil pass0 (pa_cons (pe_lc (own := [("work", 2)]) (g := (gName 2)) (tt := tYes) rfl sc_are_works.nd (pi_seqK K rfl (pi_seq (pv 0))) (blkOk_by (N := ["thing", "part", "work"]) (sc := defScope (top 34)) (by decide +kernel)) (fun _ _ _ _ _ => (pg_name (i := 2) sc_are_works.nd rfl (by first | exact Or.inl rfl | exact Or.inr rfl))) (fun _ _ _ _ _ => pts_nil) (fun _ _ _ _ _ => (pe_ix (r := rIx K) ix_seq (pv 2) pe_int (fun _ _ => rfl)))) pa_nil))))), ?_⟩
  refine body_d (Nm := ["thing", "part", "work"]) inferInstance ?_ h
  clear h
  rintro ss μ Q ⟨α, es, f, rfl, rfl, ⟨h1, h2, h3, h4⟩, q⟩
  rw [List.length_map] at h1 h2
  rw [List.map_map] at h4
  refine dstart (ρ' := [some _, none, none]) rfl (b := 0) rfl ?_
  repeat' (walk_at "W")
  refine lc_of (fun e => tkD (f e)) (fun _ => .bl true) (by omega) (fun r acc q hr ha hq => ?_) ?_
  · have := h3 _ (List.mem_map_of_mem hr)
    repeat' (walk_at "W")
    exact hq
  · repeat' (walk_at "W")
    all_goals first | (exfalso; rename_i hc; revert hc; simp; done) | skip
    refine lc_of (fun e => tkD (f e)) (fun e => .int (f e).d) (by omega) (fun r acc q hr ha hq => ?_) ?_
    · repeat' (walk_at "W")
      exact hq
    · repeat' (walk_at "W")
      exact q
theorem sc_look_at_works : FnScope ["works"] ["works"] (defScope (top 35)) := ⟨rfl, rfl, rfl, by decide +kernel, rfl, by decide +kernel, by decide +kernel⟩
theorem ok_look_at_works (T : Tx K mg) (G_are_works : Fg P w K mg base CX0 5 T.f_are_works T.fd_are_works ["thing"] (spD K 1 T_are_works)) :
    Fg P w K mg base CX0 6 T.f_look_at_works T.fd_look_at_works ["works"] (spD K 1 T_look_at_works) := by
  refine fg_of0 T.F_look_at_works sc_look_at_works (spD_len rfl) (fun cdv A outer s H vs Q E hr hg h => ?_)
  refine ⟨_, (pss_one (ps_if (pt_not (pt_val (pg_call G_are_works (hr.mono (by decide)) hg rfl T.m_are_works T.F_are_works.kp T.b_are_works .nil pass0 (pa_cons (pv 0) pa_nil))))
    (pss_one ps_never)
    pss_nil)), ?_⟩
  refine body_d (Nm := ["works"]) inferInstance ?_ h
  clear h
  rintro ss μ Q ⟨α, es, f, rfl, rfl, h, q⟩
  refine dstart (ρ' := [some _]) rfl (b := 0) rfl ?_
  repeat' (walk_at "W")
  all_goals exact q
theorem sc_late_points : FnScope ["points", "days", "cut"] ["points", "days", "cut"] (defScope (top 50)) := ⟨rfl, rfl, rfl, by decide +kernel, rfl, by decide +kernel, by decide +kernel⟩
theorem ok_late_points (T : Tx K mg)  :
    Fg P w K mg base CX0 1 T.f_late_points T.fd_late_points ["points", "days", "cut"] (spD K 3 T_late_points) := by
  refine fgd_of0 T.F_late_points sc_late_points (spD_len rfl) (fun cdv A outer s H vs Q E hr hg h => ?_)
  refine ⟨_, (pss_one (ps_ret (pe_callB (call_most rfl) (by rfl) T.m_max (by decide +kernel) (pa_cons pe_int (pa_cons (pe_op op_minus (pv 0) (pe_op op_div (pe_op (r := rTimes K) op_times (pe_op (r := rTimes K) op_times (pv 0) (pv 2)) (pv 1)) pe_int)) pa_nil))))), ?_⟩
  refine body_d (Nm := ["points", "days", "cut"]) inferInstance ?_ h
  clear h
  rintro ss μ Q ⟨p, d, c, rfl, rfl, ⟨h1, h2⟩, ⟨h3, h4⟩, ⟨h5, h6⟩, q⟩
  have hw := late_wide h1 h2 h5 h6
  refine dstart (ρ' := [some _, some _, some _]) rfl (b := 0) rfl ?_
  repeat' (walk_at "W")
  exact q
theorem sc_is_try : FnScope ["work", "thing", "points", "day"] ["work", "thing"] (defScope (top 51)) := ⟨rfl, rfl, rfl, by decide +kernel, rfl, by decide +kernel, by decide +kernel⟩
theorem ok_is_try (T : Tx K mg) (G_has_parts : Fg P w K mg base CX0 1 T.f_has_parts T.fd_has_parts ["thing", "least", "most"] (spD K 3 T_has_parts)) (G_is_day : Fg P w K mg base CX0 3 T.f_is_day T.fd_is_day ["thing"] (spD K 1 T_is_day)) (G_is_whole_in : Fg P w K mg base CX0 2 T.f_is_whole_in T.fd_is_whole_in ["thing", "least", "most"] (spD K 3 T_is_whole_in)) :
    Fg P w K mg base CX0 4 T.f_is_try T.fd_is_try ["work", "thing"] (spD K 2 T_is_try) := by
  refine fg_of0 T.F_is_try sc_is_try (spD_len rfl) (fun cdv A outer s H vs Q E hr hg h => ?_)
  refine ⟨_, (pss_cons (ps_if (pt_not (pt_val (pg_call G_has_parts (hr.mono (by decide)) hg rfl T.m_has_parts T.F_has_parts.kp T.b_has_parts .nil pass0 (pa_cons (pv 1) (pa_cons pe_int (pa_cons pe_int pa_nil))))))
    (pss_one (ps_ret pe_bl))
    pss_nil)
    (pss_cons (ps_asg (pv 1) (pg_tupK K 2 rfl rfl (pg_tup rfl (pgs_cons (pg_name (i := 2) sc_is_try.nd rfl (by first | exact Or.inl rfl | exact Or.inr rfl)) (pgs_cons (pg_name (i := 3) sc_is_try.nd rfl (by first | exact Or.inl rfl | exact Or.inr rfl)) pgs_nil)))))
    (pss_one (ps_ret (pe_and (pg_call G_is_whole_in (hr.mono (by decide)) hg rfl T.m_is_whole_in T.F_is_whole_in.kp T.b_is_whole_in .nil pass0 (pa_cons (pv 2) (pa_cons pe_int (pa_cons (pe_ix (r := rIx K) ix_seq (pv 0) pe_int (fun _ _ => rfl)) pa_nil)))) (pe_one (pg_call G_is_day (hr.mono (by decide)) hg rfl T.m_is_day T.F_is_day.kp T.b_is_day .nil pass0 (pa_cons (pv 3) pa_nil)))))))), ?_⟩
  refine body_d (Nm := ["work", "thing", "points", "day"]) inferInstance ?_ h
  clear h
  rintro ss μ Q ⟨d, m, x, p, e, rfl, rfl, ⟨h1, h2⟩, ⟨h3, h4⟩, q⟩
  refine dstart (ρ' := [some _, some _, none, none]) rfl (b := 0) rfl ?_
  repeat' (walk_at "W")
  all_goals (refine conv_b ?_ q; simp [*])
theorem sc_are_tries : FnScope ["work", "thing", "part", "points", "day"] ["work", "thing"] (defScope (top 52)) := ⟨rfl, rfl, rfl, by decide +kernel, rfl, by decide +kernel, by decide +kernel⟩
theorem ok_are_tries (T : Tx K mg) (G_has_parts : Fg P w K mg base CX0 1 T.f_has_parts T.fd_has_parts ["thing", "least", "most"] (spD K 3 T_has_parts)) (G_is_try : Fg P w K mg base CX0 4 T.f_is_try T.fd_is_try ["work", "thing"] (spD K 2 T_is_try)) (G_never_falls : Fg P w K mg base CX0 1 T.f_never_falls T.fd_never_falls ["numbers"] (spD K 1 T_never_falls)) :
    Fg P w K mg base CX0 5 T.f_are_tries T.fd_are_tries ["work", "thing"] (spD K 2 T_are_tries) := by
  refine fg_of0 T.F_are_tries sc_are_tries (spD_len rfl) (fun cdv A outer s H vs Q E hr hg h => ?_)
  refine ⟨_, (pss_cons (ps_if (PW.pt (pw_or (pt_not (pt_val (pg_call G_has_parts (hr.mono (by decide)) hg rfl T.m_has_parts T.F_has_parts.kp T.b_has_parts .nil pass0 (pa_cons (pv 1) (pa_cons pe_int (pa_cons (pe_gint rfl T.m_MOST_TRIES) pa_nil)))))) (pw_or1 (pt_not (pt_val (pe_callB (r := rAll K) (cr_all rfl) (by rfl) T.m_all (by decide +kernel) (pa_cons (pe_lc (own := [("part", 2)]) (g := (gName 2)) (tt := tYes) rfl sc_are_tries.nd (pi_seqK K rfl (pi_seq (pv 1))) (blkOk_by (N := ["work", "thing", "part", "points", "day"]) (sc := defScope (top 52)) (by decide +kernel)) (fun _ _ _ _ _ => (pg_name (i := 2) sc_are_tries.nd rfl (by first | exact Or.inl rfl | exact Or.inr rfl))) (fun _ _ _ _ _ => pts_nil) (fun _ _ _ _ _ => (pg_call G_is_try (hr.mono (by decide)) hg rfl T.m_is_try T.F_is_try.kp T.b_is_try .nil pass0 (pa_cons (pv 0) (pa_cons (pv 2) pa_nil))))) pa_nil)))))))
    (pss_one (ps_ret pe_bl))
    pss_nil)
    (pss_one (ps_ret (pg_call G_never_falls (hr.mono (by decide)) hg rfl T.m_never_falls T.F_never_falls.kp T.b_never_falls .nil pass0 (pa_cons (pe_lc (own := [("points", 3), ("day", 4)]) (g := (gTup K 2 (gCons (gName 3) (gCons (gName 4) gNil)))) (tt := tYes) rfl sc_are_tries.nd (pi_seqK K rfl (pi_seq (pv 1))) (blkOk_by (N := ["work", "thing", "part", "points", "day"]) (sc := defScope (top 52)) (by decide +kernel)) (fun _ _ _ _ _ => (pg_tupK K 2 rfl rfl (pg_tup rfl (pgs_cons (pg_name (i := 3) sc_are_tries.nd rfl (by first | exact Or.inl rfl | exact Or.inr rfl)) (pgs_cons (pg_name (i := 4) sc_are_tries.nd rfl (by first | exact Or.inl rfl | exact Or.inr rfl)) pgs_nil))))) (fun _ _ _ _ _ => pts_nil) (fun _ _ _ _ _ => (pv 4))) pa_nil))))), ?_⟩
  refine body_d (Nm := ["work", "thing", "part", "points", "day"]) inferInstance ?_ h
  clear h
  rintro ss μ Q ⟨d, m, x, ts, rfl, rfl, ⟨l1, l3, hall, hp⟩, q⟩
  have hl : ∀ t ∈ ts, _ := hall
  refine dstart (ρ' := [some _, some _, none, none, none]) rfl (b := 0) rfl ?_
  repeat' (walk_at "W")
  refine lc_of tryD (fun _ => .bl true) (by omega) (fun r acc q hr ha hq => ?_) ?_
  · obtain ⟨u1, u2, u3, u4⟩ := hall r hr
    unfold tryD
    repeat' (walk_at "W")
    exact hq
  · repeat' (walk_at "W")
    all_goals first | (exfalso; rename_i hc; revert hc; simp; done) | skip
    refine lc_of tryD (fun t => .int t.2) (by omega) (fun r acc q hr ha hq => ?_) ?_
    · unfold tryD
      repeat' (walk_at "W")
      exact hq
    · repeat' (walk_at "W")
      exact q
theorem sc_is_result : FnScope ["work", "thing"] ["work", "thing"] (defScope (top 53)) := ⟨rfl, rfl, rfl, by decide +kernel, rfl, by decide +kernel, by decide +kernel⟩
theorem ok_is_result (T : Tx K mg) (G_are_tries : Fg P w K mg base CX0 5 T.f_are_tries T.fd_are_tries ["work", "thing"] (spD K 2 T_are_tries)) (G_is_work : Fg P w K mg base CX0 4 T.f_is_work T.fd_is_work ["thing"] (spD K 1 T_is_work)) :
    Fg P w K mg base CX0 6 T.f_is_result T.fd_is_result ["work", "thing"] (spD K 2 T_is_result) := by
  refine fg_of0 T.F_is_result sc_is_result (spD_len rfl) (fun cdv A outer s H vs Q E hr hg h => ?_)
  refine ⟨_, (pss_cons (ps_if (pt_not (pt_val (pg_call G_is_work (hr.mono (by decide)) hg rfl T.m_is_work T.F_is_work.kp T.b_is_work .nil pass0 (pa_cons (pv 0) pa_nil))))
    (pss_one ps_never)
    pss_nil)
    (pss_cons (ps_if (pt_val (pe_callB (r := rIsi K) call_isi (by rfl) T.m_isinstance (by decide +kernel) (pa_cons (pv 1) (pa_cons (pe_bltn (v := .ty "str") (by rfl) T.m_str (by decide +kernel) rfl) pa_nil))))
    (pss_one (ps_ret (pe_cmpR (r := rSame K) (op_same hr.units) (pv 1) (pe_gstr rfl T.m_EXCUSED) (nomark _))))
    pss_nil)
    (pss_one (ps_ret (pe_or (pe_cmpR op_isNo (pv 1) pe_non (nomark _)) (pe_one (pg_call G_are_tries (hr.mono (by decide)) hg rfl T.m_are_tries T.F_are_tries.kp T.b_are_tries .nil pass0 (pa_cons (pv 0) (pa_cons (pv 1) pa_nil))))))))), ?_⟩
  refine body_d (Nm := ["work", "thing"]) inferInstance ?_ h
  clear h
  rintro ss μ Q ⟨d, m, x, o, rfl, rfl, hT, hR, q⟩
  cases o with
  | no =>
    simp only [resD]
    refine dstart (ρ' := [some _, some _]) rfl (b := 0) rfl ?_
    repeat' (walk_at "W")
    all_goals exact q
  | exc =>
    simp only [resD]
    refine dstart (ρ' := [some _, some _]) rfl (b := 0) rfl ?_
    repeat' (walk_at "W")
    all_goals exact conv_b (decide_eq_true rfl) q
  | tr ts =>
    simp only [resD]
    refine dstart (ρ' := [some _, some _]) rfl (b := 0) rfl ?_
    repeat' (walk_at "W")
    all_goals exact q
end

section
variable {P : Program} {w : World} {K : PySem.W.Frag} {mg : Str → Option Value} {base : Heap}
theorem sc_counted_of : FnScope ["rules", "points"] ["rules", "points"] (defScope (top 55)) := ⟨rfl, rfl, rfl, by decide +kernel, rfl, by decide +kernel, by decide +kernel⟩
theorem ok_counted_of (T : Tx K mg)  :
    Fg P w K mg base CX0 1 T.f_counted_of T.fd_counted_of ["rules", "points"] (spD K 2 (T_counted_of T.C_Rules)) := by
  refine fg_of0 T.F_counted_of sc_counted_of (spD_len rfl) (fun cdv A outer s H vs Q E hr hg h => ?_)
  refine ⟨_, (pss_cons (ps_if (pt_cmpR (r := rSame K) (op_same hr.units) (pe_fldK K rfl (pe_fld (pv 0) rfl)) pe_str (nomark _))
    (pss_one (ps_ret (pe_callB (r := rMax K) (cr_max rfl) (by rfl) T.m_max (by decide +kernel) (pa_cons (pv 1) pa_nil))))
    pss_nil)
    (pss_cons (ps_if (pt_cmpR (r := rSame K) (op_same hr.units) (pe_fldK K rfl (pe_fld (pv 0) rfl)) pe_str (nomark _))
    (pss_one (ps_ret (pe_ix (r := rIx K) ix_seq (pv 1) (pe_un un_minus pe_int) (fun _ _ => rfl))))
    pss_nil)
    (pss_one (ps_ret (pe_op op_div (pe_callB (r := rSum K) (cr_sum rfl) (by rfl) T.m_sum (by decide +kernel) (pa_cons (pv 1) pa_nil)) (pe_callB (r := Cm.rLen K) call_size (by rfl) T.m_len (by decide +kernel) (pa_cons (pv 1) pa_nil))))))), ?_⟩
  refine body_d (Nm := ["rules", "points"]) inferInstance ?_ h
  clear h
  rintro ss μ Q ⟨a, b, z, ns, rfl, rfl, hR, l1, l3, q⟩
  have c1 := T.cl_Rules
  have n1 := T.na_Rules_drop
  have n2 := T.na_Rules_cut
  have n3 := T.na_Rules_second
  refine dstart (ρ' := [some _, some _]) rfl (b := 0) rfl ?_
  repeat' (walk_at "W")
  · rename_i hc m hm hb
    exact conv_i (by unfold countF; rw [if_pos hc]; exact maxI_eq hm hb) q
  · rename_i hc0 hc x hx
    exact conv_i (by unfold countF; rw [if_neg hc0, if_pos hc, hx]; rfl) q
  · rename_i hc0 hc
    exact conv_i (by unfold countF; rw [if_neg hc0, if_neg hc]) q
theorem sc_score : FnScope ["work", "rules", "result", "points", "day"] ["work", "rules", "result"] (defScope (top 54)) := ⟨rfl, rfl, rfl, by decide +kernel, rfl, by decide +kernel, by decide +kernel⟩
theorem ok_score (T : Tx K mg) (G_counted_of : Fg P w K mg base CX0 1 T.f_counted_of T.fd_counted_of ["rules", "points"] (spD K 2 (T_counted_of T.C_Rules))) (G_is_result : Fg P w K mg base CX0 6 T.f_is_result T.fd_is_result ["work", "thing"] (spD K 2 T_is_result)) (G_is_work : Fg P w K mg base CX0 4 T.f_is_work T.fd_is_work ["thing"] (spD K 1 T_is_work)) (G_late_points : Fg P w K mg base CX0 1 T.f_late_points T.fd_late_points ["points", "days", "cut"] (spD K 3 T_late_points)) :
    Fg P w K mg base CX0 7 T.f_score T.fd_score ["work", "rules", "result"] (spD K 3 (T_score T.C_Rules)) := by
  refine fg_of0 T.F_score sc_score (spD_len rfl) (fun cdv A outer s H vs Q E hr hg h => ?_)
  refine ⟨_, (pss_cons (ps_if (pt_not (pt_val (pg_call G_is_work (hr.mono (by decide)) hg rfl T.m_is_work T.F_is_work.kp T.b_is_work .nil pass0 (pa_cons (pv 0) pa_nil))))
    (pss_one ps_never)
    pss_nil)
    (pss_cons (ps_if (pt_not (pt_val (pe_callB (r := rIsi K) call_isi (by rfl) T.m_isinstance (by decide +kernel) (pa_cons (pv 1) (pa_cons (pe_gref rfl T.m_Rules) pa_nil)))))
    (pss_one ps_never)
    pss_nil)
    (pss_cons (ps_if (pt_not (pt_val (pg_call G_is_result (hr.mono (by decide)) hg rfl T.m_is_result T.F_is_result.kp T.b_is_result .nil pass0 (pa_cons (pv 0) (pa_cons (pv 2) pa_nil)))))
    (pss_one ps_never)
    pss_nil)
    (pss_cons (ps_if (pt_cmpR op_isNo (pv 2) pe_non (nomark _))
    (pss_one (ps_ret pe_int))
    pss_nil)
    (pss_cons (ps_if (pt_cmpR (r := rSame K) (op_same hr.units) (pv 2) (pe_gstr rfl T.m_EXCUSED) (nomark _))
    (pss_one (ps_ret pe_non))
    pss_nil)
    (pss_one (ps_ret (pg_call G_counted_of (hr.mono (by decide)) hg rfl T.m_counted_of T.F_counted_of.kp T.b_counted_of .nil pass0 (pa_cons (pv 1) (pa_cons (pe_lc (own := [("points", 3), ("day", 4)]) (g := (gTup K 2 (gCons (gName 3) (gCons (gName 4) gNil)))) (tt := tYes) rfl sc_score.nd (pi_seqK K rfl (pi_seq (pv 2))) (blkOk_by (N := ["work", "rules", "result", "points", "day"]) (sc := defScope (top 54)) (by decide +kernel)) (fun _ _ _ _ _ => (pg_tupK K 2 rfl rfl (pg_tup rfl (pgs_cons (pg_name (i := 3) sc_score.nd rfl (by first | exact Or.inl rfl | exact Or.inr rfl)) (pgs_cons (pg_name (i := 4) sc_score.nd rfl (by first | exact Or.inl rfl | exact Or.inr rfl)) pgs_nil))))) (fun _ _ _ _ _ => pts_nil) (fun _ _ _ _ _ => (pg_call G_late_points (hr.mono (by decide)) hg rfl T.m_late_points T.F_late_points.kp T.b_late_points .nil pass0 (pa_cons (pv 3) (pa_cons (pe_callB (call_most rfl) (by rfl) T.m_max (by decide +kernel) (pa_cons pe_int (pa_cons (pe_op op_minus (pv 4) (pe_ix (r := rIx K) ix_seq (pv 0) pe_int (fun _ _ => rfl))) pa_nil))) (pa_cons (pe_fldK K rfl (pe_fld (pv 1) rfl)) pa_nil)))))) pa_nil)))))))))), ?_⟩
  refine body_d (Nm := ["work", "rules", "result", "points", "day"]) inferInstance ?_ h
  clear h
  rintro ss μ Q ⟨d, m, x, a, b, z, o, rfl, rfl, hT, hR, hO, q⟩
  have c1 := T.cl_Rules
  have n1 := T.na_Rules_drop
  have n2 := T.na_Rules_cut
  have n3 := T.na_Rules_second
  have i1 := T.is_Rules
  have hT' := hT
  obtain ⟨h1, h2, h3, h4⟩ := hT'
  have hR' := hR
  obtain ⟨g1, g2, g3, g4, g5⟩ := hR'
  dsimp only at h1 h2 h3 h4 g1 g2 g3 g4 g5
  rcases o with _ | _ | ts
  · simp only [resD]
    refine dstart (ρ' := [some _, some _, some _, none, none]) rfl (b := 0) rfl ?_
    repeat' (walk_at "W")
    all_goals exact q
  · simp only [resD]
    refine dstart (ρ' := [some _, some _, some _, none, none]) rfl (b := 0) rfl ?_
    repeat' (walk_at "W")
    all_goals exact q
  · have hO' := hO
    obtain ⟨l1, l3, hall, hp⟩ := hO'
    simp only [resD]
    refine dstart (ρ' := [some _, some _, some _, none, none]) rfl (b := 0) rfl ?_
    repeat' (walk_at "W")
    refine ⟨eqOk_tries l3, ?_⟩
    repeat' (walk_at "W")
    refine lc_of (xs := ts) tryD (fun t => .int (lateOf d b t)) (by omega) (fun r acc q hr ha hq => ?_) ?_
    · obtain ⟨u1, u2, u3, u4⟩ := hall r hr
      unfold tryD
      repeat' (walk_at "W")
      exact hq
    · repeat' (walk_at "W")
      exact q
theorem sc_are_rules_for : FnScope ["works", "thing", "part"] ["works", "thing"] (defScope (top 57)) := ⟨rfl, rfl, rfl, by decide +kernel, rfl, by decide +kernel, by decide +kernel⟩
theorem ok_are_rules_for (T : Tx K mg) (G_has_parts : Fg P w K mg base CX0 1 T.f_has_parts T.fd_has_parts ["thing", "least", "most"] (spD K 3 T_has_parts)) :
    Fg P w K mg base CX0 2 T.f_are_rules_for T.fd_are_rules_for ["works", "thing"] (spD K 2 (T_are_rules_for T.C_Rules)) := by
  refine fg_of0 T.F_are_rules_for sc_are_rules_for (spD_len rfl) (fun cdv A outer s H vs Q E hr hg h => ?_)
  refine ⟨_, (pss_one (ps_ret (pe_and (pg_call G_has_parts (hr.mono (by decide)) hg rfl T.m_has_parts T.F_has_parts.kp T.b_has_parts .nil pass0 (pa_cons (pv 1) (pa_cons (pe_callB (r := Cm.rLen K) call_size (by rfl) T.m_len (by decide +kernel) (pa_cons (pv 0) pa_nil)) (pa_cons (pe_callB (r := Cm.rLen K) call_size (by rfl) T.m_len (by decide +kernel) (pa_cons (pv 0) pa_nil)) pa_nil)))) (pe_one (pe_callB (r := rAll K) (cr_all rfl) (by rfl) T.m_all (by decide +kernel) (pa_cons (pe_lc (own := [("part", 2)]) (g := (gName 2)) (tt := tYes) rfl sc_are_rules_for.nd (pi_seqK K rfl (pi_seq (pv 1))) (blkOk_by (N := ["works", "thing", "part"]) (sc := defScope (top 57)) (by decide +kernel)) (fun _ _ _ _ _ => (pg_name (i := 2) sc_are_rules_for.nd rfl (by first | exact Or.inl rfl | exact Or.inr rfl))) (fun _ _ _ _ _ => pts_nil) (fun _ _ _ _ _ => (pe_callB (r := rIsi K) call_isi (by rfl) T.m_isinstance (by decide +kernel) (pa_cons (pv 2) (pa_cons (pe_gref rfl T.m_Rules) pa_nil))))) pa_nil)))))), ?_⟩
  refine body_d (Nm := ["works", "thing", "part"]) inferInstance ?_ h
  clear h
  rintro ss μ Q ⟨es, rfl, rfl, ⟨l0, l1, hall, hup⟩, q⟩
  unfold wksD rusD
  have c1 := T.cl_Rules
  have i1 := T.is_Rules
  refine dstart (ρ' := [some _, some _, none]) rfl (b := 0) rfl ?_
  repeat' (walk_at "W")
  refine lc_of (xs := es) (fun e => ruD T.C_Rules e.r) (fun _ => .bl true) (by omega) (fun r acc q hr ha hq => ?_) ?_
  · repeat' (walk_at "W")
    exact hq
  · repeat' (walk_at "W")
    refine conv_b ?_ q
    simp
theorem sc_are_results_of : FnScope ["works", "thing", "work", "part"] ["works", "thing"] (defScope (top 58)) := ⟨rfl, rfl, rfl, by decide +kernel, rfl, by decide +kernel, by decide +kernel⟩
theorem ok_are_results_of (T : Tx K mg) (G_has_parts : Fg P w K mg base CX0 1 T.f_has_parts T.fd_has_parts ["thing", "least", "most"] (spD K 3 T_has_parts)) (G_is_result : Fg P w K mg base CX0 6 T.f_is_result T.fd_is_result ["work", "thing"] (spD K 2 T_is_result)) :
    Fg P w K mg base CX0 7 T.f_are_results_of T.fd_are_results_of ["works", "thing"] (spD K 2 T_are_results_of) := by
  refine fg_of0 T.F_are_results_of sc_are_results_of (spD_len rfl) (fun cdv A outer s H vs Q E hr hg h => ?_)
  refine ⟨_, (pss_cons (ps_if (pt_not (pt_val (pg_call G_has_parts (hr.mono (by decide)) hg rfl T.m_has_parts T.F_has_parts.kp T.b_has_parts .nil pass0 (pa_cons (pv 1) (pa_cons (pe_callB (r := Cm.rLen K) call_size (by rfl) T.m_len (by decide +kernel) (pa_cons (pv 0) pa_nil)) (pa_cons (pe_callB (r := Cm.rLen K) call_size (by rfl) T.m_len (by decide +kernel) (pa_cons (pv 0) pa_nil)) pa_nil))))))
    (pss_one (ps_ret pe_bl))
    pss_nil)
    (pss_one (ps_ret (pe_callB (r := rAll K) (cr_all rfl) (by rfl) T.m_all (by decide +kernel) (pa_cons (pe_lc (own := [("work", 2), ("part", 3)]) (g := (gTup K 2 (gCons (gName 2) (gCons (gName 3) gNil)))) (tt := tYes) rfl sc_are_results_of.nd (pi_zB2 K rfl rfl T.m_zip (pa_cons (pv 0) (pa_cons (pv 1) pa_nil))) (blkOk_by (N := ["works", "thing", "work", "part"]) (sc := defScope (top 58)) (by decide +kernel)) (fun _ _ _ _ _ => (pg_tupK K 2 rfl rfl (pg_tup rfl (pgs_cons (pg_name (i := 2) sc_are_results_of.nd rfl (by first | exact Or.inl rfl | exact Or.inr rfl)) (pgs_cons (pg_name (i := 3) sc_are_results_of.nd rfl (by first | exact Or.inl rfl | exact Or.inr rfl)) pgs_nil))))) (fun _ _ _ _ _ => pts_nil) (fun _ _ _ _ _ => (pg_call G_is_result (hr.mono (by decide)) hg rfl T.m_is_result T.F_is_result.kp T.b_is_result .nil pass0 (pa_cons (pv 2) (pa_cons (pv 3) pa_nil))))) pa_nil))))), ?_⟩
  refine body_d (Nm := ["works", "thing", "work", "part"]) inferInstance ?_ h
  clear h
  rintro ss μ Q ⟨es, rfl, rfl, ⟨l0, l1, hall, hup⟩, q⟩
  unfold wksD rssD
  refine dstart (ρ' := [some _, some _, none, none]) rfl (b := 0) rfl ?_
  repeat' (walk_at "W")
  refine ⟨by simp, ?_⟩
  rw [zip2D_map]
  refine ⟨rfl, ?_⟩
  refine lc_of (xs := es) (fun e => .tup [tkD e.t, resD e.o]) (fun _ => .bl true) (by omega) (fun r acc q hr ha hq => ?_) ?_
  · obtain ⟨w1, w2, w3⟩ := hall r hr
    repeat' (walk_at "W")
    exact hq
  · repeat' (walk_at "W")
    refine conv_b ?_ q
    simp
theorem sc_scores_of : FnScope ["sheet", "work", "rules", "result"] ["sheet"] (defScope (top 59)) := ⟨rfl, rfl, rfl, by decide +kernel, rfl, by decide +kernel, by decide +kernel⟩
theorem ok_scores_of (T : Tx K mg) (G_score : Fg P w K mg base CX0 7 T.f_score T.fd_score ["work", "rules", "result"] (spD K 3 (T_score T.C_Rules))) :
    Fg P w K mg base CX0 8 T.f_scores_of T.fd_scores_of ["sheet"] (spD K 1 (T_scores_of T.C_Sheet T.C_Rules)) := by
  refine fg_of0 T.F_scores_of sc_scores_of (spD_len rfl) (fun cdv A outer s H vs Q E hr hg h => ?_)
  refine ⟨_, (pss_one (ps_ret (pe_lc (own := [("work", 1), ("rules", 2), ("result", 3)]) (g := (gTup K 3 (gCons (gName 1) (gCons (gName 2) (gCons (gName 3) gNil))))) (tt := tYes) rfl sc_scores_of.nd (pi_zB3 K rfl rfl T.m_zip (pa_cons (pe_fldK K rfl (pe_fld (pv 0) rfl)) (pa_cons (pe_fldK K rfl (pe_fld (pv 0) rfl)) (pa_cons (pe_fldK K rfl (pe_fld (pv 0) rfl)) pa_nil)))) (blkOk_by (N := ["sheet", "work", "rules", "result"]) (sc := defScope (top 59)) (by decide +kernel)) (fun _ _ _ _ _ => (pg_tupK K 3 rfl rfl (pg_tup rfl (pgs_cons (pg_name (i := 1) sc_scores_of.nd rfl (by first | exact Or.inl rfl | exact Or.inr rfl)) (pgs_cons (pg_name (i := 2) sc_scores_of.nd rfl (by first | exact Or.inl rfl | exact Or.inr rfl)) (pgs_cons (pg_name (i := 3) sc_scores_of.nd rfl (by first | exact Or.inl rfl | exact Or.inr rfl)) pgs_nil)))))) (fun _ _ _ _ _ => pts_nil) (fun _ _ _ _ _ => (pg_call G_score (hr.mono (by decide)) hg rfl T.m_score T.F_score.kp T.b_score .nil pass0 (pa_cons (pv 1) (pa_cons (pv 2) (pa_cons (pv 3) pa_nil)))))))), ?_⟩
  refine body_d (Nm := ["sheet", "work", "rules", "result"]) inferInstance ?_ h
  clear h
  rintro ss μ Q ⟨es, dr, rfl, rfl, ⟨l0, l1, hall, hup⟩, q⟩
  have c1 := T.cl_Sheet
  have n1 := T.na_Sheet_works
  have n2 := T.na_Sheet_rules
  have n3 := T.na_Sheet_results
  have n4 := T.na_Sheet_drop
  refine dstart (ρ' := [some _, none, none, none]) rfl (b := 0) rfl ?_
  repeat' (walk_at "W")
  refine ⟨by simp, by simp, ?_⟩
  rw [zip3D_map]
  refine ⟨rfl, ?_⟩
  refine lc_of (xs := es) (fun e => .tup [tkD e.t, ruD T.C_Rules e.r, resD e.o]) (fun e => scD (scF e)) (by omega) (fun r acc q hr ha hq => ?_) ?_
  · obtain ⟨w1, w2, w3⟩ := hall r hr
    repeat' (walk_at "W")
    exact hq
  · repeat' (walk_at "W")
    exact q
theorem sc_Sheet___init__ : FnScope ["self", "works", "rules", "results", "drop", "each"] ["self", "works", "rules", "results", "drop"] (defScope (inClass (top 63) 0)) := ⟨rfl, rfl, rfl, by decide +kernel, rfl, by decide +kernel, by decide +kernel⟩
theorem ok_Sheet___init__ (T : Tx K mg) (G_are_results_of : Fg P w K mg base CX0 7 T.f_are_results_of T.fd_are_results_of ["works", "thing"] (spD K 2 T_are_results_of)) (G_are_rules_for : Fg P w K mg base CX0 2 T.f_are_rules_for T.fd_are_rules_for ["works", "thing"] (spD K 2 (T_are_rules_for T.C_Rules))) (G_is_drop : Fg P w K mg base CX0 3 T.f_is_drop T.fd_is_drop ["thing"] (spD K 1 T_is_drop)) (G_look_at_works : Fg P w K mg base CX0 6 T.f_look_at_works T.fd_look_at_works ["works"] (spD K 1 T_look_at_works)) (G_rules_like : Fg P w K mg base CX0 6 T.f_rules_like T.fd_rules_like ["rules"] (spD K 1 (T_rules_like T.C_Rules))) :
    Fg P w K mg base CX0 8 T.f_Sheet___init__ T.fd_Sheet___init__ ["self", "works", "rules", "results", "drop"] (spD K 5 (T_Sheet___init__ T.C_Sheet T.C_Rules)) := by
  refine fgd_of0 T.F_Sheet___init__ sc_Sheet___init__ (spD_len rfl) (fun cdv A outer s H vs Q E hr hg h => ?_)
  refine ⟨_, (pss_cons (ps_expr (pg_call G_look_at_works (hr.mono (by decide)) hg rfl T.m_look_at_works T.F_look_at_works.kp T.b_look_at_works .nil pass0 (pa_cons (pv 1) pa_nil)))
    (pss_cons (ps_if (pt_not (pt_val (pg_call G_are_rules_for (hr.mono (by decide)) hg rfl T.m_are_rules_for T.F_are_rules_for.kp T.b_are_rules_for .nil pass0 (pa_cons (pv 1) (pa_cons (pv 2) pa_nil)))))
    (pss_one ps_never)
    pss_nil)
    (pss_cons (ps_if (pt_not (pt_val (pg_call G_are_results_of (hr.mono (by decide)) hg rfl T.m_are_results_of T.F_are_results_of.kp T.b_are_results_of .nil pass0 (pa_cons (pv 1) (pa_cons (pv 3) pa_nil)))))
    (pss_one ps_never)
    pss_nil)
    (pss_cons (ps_if (pt_not (pt_val (pg_call G_is_drop (hr.mono (by decide)) hg rfl T.m_is_drop T.F_is_drop.kp T.b_is_drop .nil pass0 (pa_cons (pv 4) pa_nil))))
    (pss_one ps_never)
    pss_nil)
    (pss_cons (ps_fldK K rfl (ps_fld (pv 0) (pv 1) rfl))
    (pss_cons (ps_fldK K rfl (ps_fld (pv 0) (pe_callTy (r := rTupOf K) call_tupled (by rfl) T.m_tuple (by decide +kernel) (pa_cons (pe_lc (own := [("each", 5)]) (g := (gName 5)) (tt := tYes) rfl sc_Sheet___init__.nd (pi_seqK K rfl (pi_seq (pv 2))) (blkOk_by (N := ["self", "works", "rules", "results", "drop", "each"]) (sc := defScope (inClass (top 63) 0)) (by decide +kernel)) (fun _ _ _ _ _ => (pg_name (i := 5) sc_Sheet___init__.nd rfl (by first | exact Or.inl rfl | exact Or.inr rfl))) (fun _ _ _ _ _ => pts_nil) (fun _ _ _ _ _ => (pg_call G_rules_like (hr.mono (by decide)) hg rfl T.m_rules_like T.F_rules_like.kp T.b_rules_like .nil pass0 (pa_cons (pv 5) pa_nil)))) pa_nil)) rfl))
    (pss_cons (ps_fldK K rfl (ps_fld (pv 0) (pv 3) rfl))
    (pss_one (ps_fldK K rfl (ps_fld (pv 0) (pv 4) rfl)))))))))), ?_⟩
  refine body_d (Nm := ["self", "works", "rules", "results", "drop", "each"]) inferInstance ?_ h
  clear h
  rintro ss μ Q ⟨es, dr, rfl, rfl, hS, ⟨d0, d1⟩, q⟩
  have hS' := hS
  have hW := hS.works
  obtain ⟨l0, l1, hall, hup⟩ := hS'
  unfold wksD rusD rssD at *
  have c1 := T.cl_Sheet
  have n1 := T.na_Sheet_works
  have n2 := T.na_Sheet_rules
  have n3 := T.na_Sheet_results
  have n4 := T.na_Sheet_drop
  refine dstart (ρ' := [some _, some _, some _, some _, some _, none]) rfl (b := 1) rfl ?_
  repeat' (walk_at "W")
  refine lc_of (xs := es) (fun e => ruD T.C_Rules e.r) (fun e => ruD T.C_Rules e.r) (by omega) (fun r acc q hr ha hq => ?_) ?_
  · obtain ⟨w1, w2, w3⟩ := hall r hr
    repeat' (walk_at "W")
    exact hq
  · repeat' (walk_at "W")
    exact q
theorem sc_counted_in : FnScope ["works", "scores", "number", "work"] ["works", "scores"] (defScope (top 60)) := ⟨rfl, rfl, rfl, by decide +kernel, rfl, by decide +kernel, by decide +kernel⟩
theorem ok_counted_in (T : Tx K mg)  :
    Fg P w K mg base CX0 1 T.f_counted_in T.fd_counted_in ["works", "scores"] (spD K 2 T_counted_in) := by
  refine fg_of0 T.F_counted_in sc_counted_in (spD_len rfl) (fun cdv A outer s H vs Q E hr hg h => ?_)
  refine ⟨_, (pss_one (ps_ret (pe_lc (own := [("number", 2), ("work", 3)]) (g := (gTup K 2 (gCons (gName 2) (gCons (gName 3) gNil)))) (tt := _) rfl sc_counted_in.nd (pi_enumT K rfl rfl T.m_enumerate (pv 0)) (blkOk_by (N := ["works", "scores", "number", "work"]) (sc := defScope (top 60)) (by decide +kernel)) (fun _ _ _ _ _ => (pg_tupK K 2 rfl rfl (pg_tup rfl (pgs_cons (pg_name (i := 2) sc_counted_in.nd rfl (by first | exact Or.inl rfl | exact Or.inr rfl)) (pgs_cons (pg_name (i := 3) sc_counted_in.nd rfl (by first | exact Or.inl rfl | exact Or.inr rfl)) pgs_nil))))) (fun _ _ _ _ _ => (pts_one (PW.pt (pw_and (pt_cmpR op_notNo (pe_ix (r := rIx K) ix_seq (pv 1) (pv 2) (fun _ _ => rfl)) pe_non (nomark _)) (pw_and1 (pt_not (pt_val (pe_ix (r := rIx K) ix_seq (pv 3) pe_int (fun _ _ => rfl))))))))) (fun _ _ _ _ _ => (pv 2))))), ?_⟩
  refine body_d (Nm := ["works", "scores", "number", "work"]) inferInstance ?_ h
  clear h
  rintro ss μ Q ⟨es, rfl, rfl, ⟨l0, l1, hall, hup⟩, q⟩
  unfold wksD
  refine dstart (ρ' := [some _, some _, none, none]) rfl (b := 0) rfl ?_
  repeat' (walk_at "W")
  rw [enD_map]
  refine lc_fof (xs := es.zipIdx) (fun p => .tup [.int (p.2 : Nat), tkD p.1.t]) (fun p => .int (p.2 : Nat)) (fun p => cntB p.1) (by rw [List.length_zipIdx]; omega) (fun r acc q hr ha hy hn => ?_) ?_
  · have hz := zip_at hr
    have hA := AtM.nat hz
    obtain ⟨⟨t, ru, o⟩, i⟩ := r
    repeat' (walk_at "W")
    · rename_i h1 h2
      exact hy (cnt_t h1 h2)
    · rename_i h1 h2
      exact hn (cnt_f1 h2)
    · rename_i h1
      exact hn (cnt_f2 h1)
  · repeat' (walk_at "W")
    exact q
theorem sc_Sheet_rows : FnScope ["self", "scores", "number"] ["self"] (defScope (inClass (top 63) 4)) := ⟨rfl, rfl, rfl, by decide +kernel, rfl, by decide +kernel, by decide +kernel⟩
theorem ok_Sheet_rows (T : Tx K mg) (G_counted_in : Fg P w K mg base CX0 1 T.f_counted_in T.fd_counted_in ["works", "scores"] (spD K 2 T_counted_in)) (G_scores_of : Fg P w K mg base CX0 8 T.f_scores_of T.fd_scores_of ["sheet"] (spD K 1 (T_scores_of T.C_Sheet T.C_Rules))) :
    Fg P w K mg base CX0 9 T.f_Sheet_rows T.fd_Sheet_rows ["self"] (spD K 1 (T_Sheet_rows T.C_Sheet T.C_Rules)) := by
  refine fg_of0 T.F_Sheet_rows sc_Sheet_rows (spD_len rfl) (fun cdv A outer s H vs Q E hr hg h => ?_)
  refine ⟨_, (pss_cons (ps_set (i := 1) sc_Sheet_rows.nd rfl (by first | exact Or.inl rfl | exact Or.inr rfl) (pg_call G_scores_of (hr.mono (by decide)) hg rfl T.m_scores_of T.F_scores_of.kp T.b_scores_of .nil pass0 (pa_cons (pv 0) pa_nil)))
    (pss_one (ps_ret (pe_callTy (r := rTupOf K) call_tupled (by rfl) T.m_tuple (by decide +kernel) (pa_cons (pe_lc (own := [("number", 2)]) (g := (gName 2)) (tt := tYes) rfl sc_Sheet_rows.nd (pi_seqK K rfl (pi_seq (pg_call G_counted_in (hr.mono (by decide)) hg rfl T.m_counted_in T.F_counted_in.kp T.b_counted_in .nil pass0 (pa_cons (pe_fldK K rfl (pe_fld (pv 0) rfl)) (pa_cons (pv 1) pa_nil))))) (blkOk_by (N := ["self", "scores", "number"]) (sc := defScope (inClass (top 63) 4)) (by decide +kernel)) (fun _ _ _ _ _ => (pg_name (i := 2) sc_Sheet_rows.nd rfl (by first | exact Or.inl rfl | exact Or.inr rfl))) (fun _ _ _ _ _ => pts_nil) (fun _ _ _ _ _ => (pe_tup (pa_cons (pe_ix (r := rIx K) ix_seq (pv 1) (pv 2) (fun _ _ => rfl)) (pa_cons (pe_ix (r := rIx K) ix_seq (pe_ix (r := rIx K) ix_seq (pe_fldK K rfl (pe_fld (pv 0) rfl)) (pv 2) (fun _ _ => rfl)) pe_int (fun _ _ => rfl)) pa_nil))))) pa_nil))))), ?_⟩
  refine body_d (Nm := ["self", "scores", "number"]) inferInstance ?_ h
  clear h
  rintro ss μ Q ⟨es, dr, rfl, rfl, hS, q⟩
  have hS' := hS
  obtain ⟨l0, l1, hall, hup⟩ := hS'
  have c1 := T.cl_Sheet
  have n1 := T.na_Sheet_works
  have n2 := T.na_Sheet_rules
  have n3 := T.na_Sheet_results
  have n4 := T.na_Sheet_drop
  refine dstart (ρ' := [some _, none, none]) rfl (b := 0) rfl ?_
  repeat' (walk_at "W")
  refine lc_of (xs := cntP es) (fun p => .int (p.2 : Nat)) (fun p => rowD (rowF p.1)) (by have := rows_len es; unfold rowsF at this; rw [List.length_map] at this; omega) (fun r acc q hr ha hq => ?_) ?_
  · obtain ⟨hz, hb⟩ := cntP_at hr
    have hA := AtM.nat hz
    have hs := sc_get hb
    repeat' (walk_at "W")
    rw [hs]
    exact hq
  · repeat' (walk_at "W")
    refine conv_d (P := fun d => Q (.d d) []) ?_ q
    unfold rowsF
    rw [List.map_map]; rfl
theorem sc_Sheet_extra : FnScope ["self", "work", "points"] ["self"] (defScope (inClass (top 63) 5)) := ⟨rfl, rfl, rfl, by decide +kernel, rfl, by decide +kernel, by decide +kernel⟩
theorem ok_Sheet_extra (T : Tx K mg) (G_scores_of : Fg P w K mg base CX0 8 T.f_scores_of T.fd_scores_of ["sheet"] (spD K 1 (T_scores_of T.C_Sheet T.C_Rules))) :
    Fg P w K mg base CX0 9 T.f_Sheet_extra T.fd_Sheet_extra ["self"] (spD K 1 (T_Sheet_extra T.C_Sheet T.C_Rules)) := by
  refine fg_of0 T.F_Sheet_extra sc_Sheet_extra (spD_len rfl) (fun cdv A outer s H vs Q E hr hg h => ?_)
  refine ⟨_, (pss_one (ps_ret (pe_callB (r := rSum K) (cr_sum rfl) (by rfl) T.m_sum (by decide +kernel) (pa_cons (pe_lc (own := [("work", 1), ("points", 2)]) (g := (gTup K 2 (gCons (gName 1) (gCons (gName 2) gNil)))) (tt := _) rfl sc_Sheet_extra.nd (pi_zB2 K rfl rfl T.m_zip (pa_cons (pe_fldK K rfl (pe_fld (pv 0) rfl)) (pa_cons (pg_call G_scores_of (hr.mono (by decide)) hg rfl T.m_scores_of T.F_scores_of.kp T.b_scores_of .nil pass0 (pa_cons (pv 0) pa_nil)) pa_nil))) (blkOk_by (N := ["self", "work", "points"]) (sc := defScope (inClass (top 63) 5)) (by decide +kernel)) (fun _ _ _ _ _ => (pg_tupK K 2 rfl rfl (pg_tup rfl (pgs_cons (pg_name (i := 1) sc_Sheet_extra.nd rfl (by first | exact Or.inl rfl | exact Or.inr rfl)) (pgs_cons (pg_name (i := 2) sc_Sheet_extra.nd rfl (by first | exact Or.inl rfl | exact Or.inr rfl)) pgs_nil))))) (fun _ _ _ _ _ => (pts_one (PW.pt (pw_and (pt_val (pe_ix (r := rIx K) ix_seq (pv 1) pe_int (fun _ _ => rfl))) (pw_and1 (pt_cmpR op_notNo (pv 2) pe_non (nomark _))))))) (fun _ _ _ _ _ => (pv 2))) pa_nil)))), ?_⟩
  refine body_d (Nm := ["self", "work", "points"]) inferInstance ?_ h
  clear h
  rintro ss μ Q ⟨es, dr, rfl, rfl, hS, q⟩
  have hx := ex_range hS
  have hS' := hS
  obtain ⟨l0, l1, hall, hup⟩ := hS'
  have c1 := T.cl_Sheet
  have n1 := T.na_Sheet_works
  have n2 := T.na_Sheet_rules
  have n3 := T.na_Sheet_results
  have n4 := T.na_Sheet_drop
  refine dstart (ρ' := [some _, none, none]) rfl (b := 0) rfl ?_
  repeat' (walk_at "W")
  refine ⟨by simp, ?_⟩
  rw [zip2D_map]
  refine ⟨rfl, ?_⟩
  refine lc_fof (xs := es) (fun e => .tup [tkD e.t, scD (scF e)]) (fun e => .int ((scF e).getD 0)) (fun e => e.t.x && (scF e).isSome) (by omega) (fun r acc q hr ha hy hn => ?_) ?_
  · repeat' (walk_at "W")
    · rename_i h1 h2
      obtain ⟨g1, g2⟩ := non_get h2
      rw [g1]
      exact hy (by rw [h1, g2]; rfl)
    · rename_i h1 h2
      exact hn (by rw [non_no h2, Bool.and_false])
    · rename_i h1
      exact hn (by rw [h1]; rfl)
  · repeat' (walk_at "W")
    all_goals first | exact q | skip
end

local macro_rules | `(tactic| walk_at "AX") => `(tactic| (simp only [strLen_append, lnE, lnR1, lnR2, lnR3, lnR4]; omega))
section
variable {P : Program} {w : World} {K : PySem.W.Frag} {mg : Str → Option Value} {base : Heap}
theorem sc_Rules___repr__ : FnScope ["self"] ["self"] (defScope (inClass (top 23) 2)) := ⟨rfl, rfl, rfl, by decide +kernel, rfl, by decide +kernel, by decide +kernel⟩
theorem ok_Rules___repr__ (T : Tx K mg)  :
    FnOk P w K mg base CX0 1 T.f_Rules___repr__ T.fd_Rules___repr__ ["self"] (spD K 1 (T_Rules___repr__ T.C_Rules)) := by
  refine T.F_Rules___repr__.ok sc_Rules___repr__ (spD_len rfl) (fun cdv A outer s H vs Q E hr h => ?_)
  refine ⟨_, (pss_one (ps_ret (pe_joinedD (PJ.cons pe_str (PJ.cons (pe_fmt (pe_fldK K rfl (pe_fld (pv 0) rfl))) (PJ.cons pe_str (PJ.cons (pe_fmt (pe_fldK K rfl (pe_fld (pv 0) rfl))) (PJ.cons pe_str (PJ.cons (pe_fmt (pe_fldK K rfl (pe_fld (pv 0) rfl))) (PJ.cons pe_str PJ.nil)))))))))), ?_⟩
  refine body_d (Nm := ["self"]) inferInstance ?_ h
  clear h
  rintro ss μ Q ⟨a, b, z, rfl, rfl, hR, q⟩
  have c1 := T.cl_Rules
  have n1 := T.na_Rules_drop
  have n2 := T.na_Rules_cut
  have n3 := T.na_Rules_second
  have zl := hR.zl
  obtain ⟨h1, h2, h3, h4, h5⟩ := hR
  dsimp only at h1 h2 h3 h4 h5 zl
  have la : (Str.ofString (toString a)).length ≤ 3 := str_small h1 (show a ≤ 100 by omega)
  have lb : (Str.ofString (toString b)).length ≤ 3 := str_small h3 h4
  refine dstart (ρ' := [some _]) rfl (b := 0) rfl ?_
  repeat' (walk_at "W")
  all_goals exact q
theorem sc_Sheet___len__ : FnScope ["self"] ["self"] (defScope (inClass (top 63) 1)) := ⟨rfl, rfl, rfl, by decide +kernel, rfl, by decide +kernel, by decide +kernel⟩
theorem ok_Sheet___len__ (T : Tx K mg) (G_Sheet_rows : Fg P w K mg base CX0 9 T.f_Sheet_rows T.fd_Sheet_rows ["self"] (spD K 1 (T_Sheet_rows T.C_Sheet T.C_Rules))) :
    Fg P w K mg base CX0 10 T.f_Sheet___len__ T.fd_Sheet___len__ ["self"] (spD K 1 (T_Sheet___len__ T.C_Sheet T.C_Rules)) := by
  refine fg_of0 T.F_Sheet___len__ sc_Sheet___len__ (spD_len rfl) (fun cdv A outer s H vs Q E hr hg h => ?_)
  refine ⟨_, (pss_one (ps_ret (pe_callB (r := Cm.rLen K) call_size (by rfl) T.m_len (by decide +kernel) (pa_cons (pg_meth0 (pv 0) T.cl_Sheet T.mt_Sheet_rows G_Sheet_rows (hr.mono (by decide)) hg T.b_Sheet_rows .nil pass0) pa_nil)))), ?_⟩
  refine body_d (Nm := ["self"]) inferInstance ?_ h
  clear h
  rintro ss μ Q ⟨es, dr, rfl, rfl, hS, q⟩
  have hl := rows_len es
  have l1 := hS.l1
  refine dstart (ρ' := [some _]) rfl (b := 0) rfl ?_
  repeat' (walk_at "W")
  all_goals exact q
end

section
variable {P : Program} {w : World} {K : PySem.W.Frag} {mg : Str → Option Value} {base : Heap}
theorem sc__law_cell_at : FnScope ["_law_script", "_law_k"] ["_law_script", "_law_k"] (defScope (top 65)) := ⟨rfl, rfl, rfl, by decide +kernel, rfl, by decide +kernel, by decide +kernel⟩
theorem ok__law_cell_at (T : Tx K mg)  :
    Fg P w K mg base CX0 1 T.f__law_cell_at T.fd__law_cell_at ["_law_script", "_law_k"] (spD K 2 T__law_cell_at) := by
  refine fg_of0 T.F__law_cell_at sc__law_cell_at (spD_len rfl) (fun cdv A outer s H vs Q E hr hg h => ?_)
  refine ⟨_, (pss_cons (ps_if (pt_cmpR op_less (pv 1) (pe_callB (r := Cm.rLen K) call_size (by rfl) T.m_len (by decide +kernel) (pa_cons (pv 0) pa_nil)) (nomark _))
    (pss_one (ps_ret (pe_ix (r := rIx K) ix_seq (pv 0) (pv 1) (fun _ _ => rfl))))
    pss_nil)
    (pss_one (ps_ret pe_int))), ?_⟩
  refine body_d (Nm := ["_law_script", "_law_k"]) inferInstance ?_ h
  clear h
  rintro ss μ Q ⟨ns, k, rfl, rfl, h0, q⟩
  refine dstart (ρ' := [some _, some _]) rfl (b := 0) rfl ?_
  repeat' (walk_at "W")
  all_goals exact q _
theorem sc__law_state : FnScope ["_law_script", "_law_k", "_law_cell"] ["_law_script", "_law_k"] (defScope (top 66)) := ⟨rfl, rfl, rfl, by decide +kernel, rfl, by decide +kernel, by decide +kernel⟩
theorem ok__law_state (T : Tx K mg) (G__law_cell_at : Fg P w K mg base CX0 1 T.f__law_cell_at T.fd__law_cell_at ["_law_script", "_law_k"] (spD K 2 T__law_cell_at)) :
    Fg P w K mg base CX0 2 T.f__law_state T.fd__law_state ["_law_script", "_law_k"] (spN K 2 T__law_state) := by
  refine fg_of0 T.F__law_state sc__law_state (spN_len rfl) (fun cdv A outer s H vs Q E hr hg h => ?_)
  refine ⟨_, (pss_cons (ps_set (i := 2) sc__law_state.nd rfl (by first | exact Or.inl rfl | exact Or.inr rfl) (pg_call G__law_cell_at (hr.mono (by decide)) hg rfl T.m__law_cell_at T.F__law_cell_at.kp T.b__law_cell_at .nil pass0 (pa_cons (pv 0) (pa_cons (pv 1) pa_nil))))
    (pss_cons (ps_if (pt_cmpR op_moree (pv 2) (pe_op op_power pe_int pe_int) (nomark _))
    (pss_one (ps_retF (pe_lst (pa_cons (pe_op op_minus (pv 2) (pe_op op_power pe_int pe_int)) (pa_cons (pe_op (r := rPlus K) op_plus (pe_op op_rest (pv 2) pe_int) pe_int) pa_nil)))))
    pss_nil)
    (pss_one (ps_retF (pe_lst (pa_cons pe_int (pa_cons (pe_op (r := rPlus K) op_plus (pe_op op_rest (pv 2) pe_int) pe_int) pa_nil))))))), ?_⟩
  refine body_n (Nm := ["_law_script", "_law_k", "_law_cell"]) inferInstance ?_ h
  clear h
  rintro ss μ Q ⟨ns, k, rfl, rfl, h0, q⟩
  refine dstartN (ρ' := [some _, some _, none]) rfl (b := 0) rfl ?_
  repeat' (walk_at "W")
  · refine q _ ⟨_, _, rfl, ?_, ?_, ?_⟩
    · have : (10 : Int) ^ (Int.toNat 18) = 1000000000000000000 := by decide
      omega
    · omega
    · omega
  · exact q _ ⟨_, _, rfl, by omega, by omega, by omega⟩
theorem sc__law_take : FnScope ["_law_state_here", "_law_many", "_law_found", "_law_stirred"] ["_law_state_here", "_law_many"] (defScope (top 67)) := ⟨rfl, rfl, rfl, by decide +kernel, rfl, by decide +kernel, by decide +kernel⟩
theorem ok__law_take (T : Tx K mg)  :
    Fg P w K mg base CX0 1 T.f__law_take T.fd__law_take ["_law_state_here", "_law_many"] (spD K 2 T__law_take) := by
  refine fg_of0 T.F__law_take sc__law_take (spD_len rfl) (fun cdv A outer s H vs Q E hr hg h => ?_)
  refine ⟨_, (pss_cons (ps_if (pt_cmpR op_more (pe_ix (r := rIx K) ix_seq (pv 0) pe_int (fun _ _ => rfl)) pe_int (nomark _))
    (pss_cons (ps_set (i := 2) sc__law_take.nd rfl (by first | exact Or.inl rfl | exact Or.inr rfl) (pe_op op_rest (pe_ix (r := rIx K) ix_seq (pv 0) pe_int (fun _ _ => rfl)) (pv 1)))
    (pss_cons (ps_asg (pe_op op_div (pe_ix (r := rIx K) ix_seq (pv 0) pe_int (fun _ _ => rfl)) (pv 1)) (pg_sub (pv 0) pe_int set_list))
    (pss_one (ps_ret (pv 2)))))
    pss_nil)
    (pss_cons (ps_asg (pe_op op_rest (pe_op (r := rPlus K) op_plus (pe_op (r := rTimes K) op_times (pe_ix (r := rIx K) ix_seq (pv 0) pe_int (fun _ _ => rfl)) pe_int) pe_int) pe_int) (pg_sub (pv 0) pe_int set_list))
    (pss_cons (ps_set (i := 3) sc__law_take.nd rfl (by first | exact Or.inl rfl | exact Or.inr rfl) (pe_op op_rest (pe_op (r := rPlus K) op_plus (pe_op (r := rPlus K) op_plus (pe_op (r := rTimes K) op_times (pe_ix (r := rIx K) ix_seq (pv 0) pe_int (fun _ _ => rfl)) (pe_ix (r := rIx K) ix_seq (pv 0) pe_int (fun _ _ => rfl))) (pe_op (r := rTimes K) op_times pe_int (pe_ix (r := rIx K) ix_seq (pv 0) pe_int (fun _ _ => rfl)))) pe_int) pe_int))
    (pss_cons (ps_set (i := 3) sc__law_take.nd rfl (by first | exact Or.inl rfl | exact Or.inr rfl) (pe_op op_rest (pe_op (r := rPlus K) op_plus (pe_op (r := rPlus K) op_plus (pe_op (r := rTimes K) op_times (pv 3) (pv 3)) (pe_op (r := rTimes K) op_times pe_int (pv 3))) pe_int) pe_int))
    (pss_one (ps_ret (pe_op op_rest (pe_op op_div (pv 3) pe_int) (pv 1)))))))), ?_⟩
  refine body_d (Nm := ["_law_state_here", "_law_many", "_law_found", "_law_stirred"]) inferInstance ?_ h
  clear h
  rintro ss μ Q ⟨c, n, rfl, rfl, ⟨a, b, rfl, ha, hb, hc⟩, n0, n1, q⟩
  refine dstart (ρ' := [some _, some _, none, none]) rfl (b := 1) rfl ?_
  repeat' (walk_at "W")
  · exact q _ _ (Int.emod_nonneg _ (by omega)) (Int.emod_lt_of_pos _ n0) ⟨_, _, rfl, Int.ediv_nonneg (by omega) (by omega), hb, hc⟩
  · exact q _ _ (Int.emod_nonneg _ (by omega)) (Int.emod_lt_of_pos _ n0) ⟨_, _, rfl, ha, by omega, by omega⟩
theorem sc__law_rule : FnScope ["_law_state_here", "_law_leave", "_law_loss"] ["_law_state_here"] (defScope (top 69)) := ⟨rfl, rfl, rfl, by decide +kernel, rfl, by decide +kernel, by decide +kernel⟩
theorem ok__law_rule (T : Tx K mg) (G__law_take : Fg P w K mg base CX0 1 T.f__law_take T.fd__law_take ["_law_state_here", "_law_many"] (spD K 2 T__law_take)) :
    Fg P w K mg base CX0 2 T.f__law_rule T.fd__law_rule ["_law_state_here"] (spD K 1 T__law_rule) := by
  refine fg_of0 T.F__law_rule sc__law_rule (spD_len rfl) (fun cdv A outer s H vs Q E hr hg h => ?_)
  refine ⟨_, (pss_cons (ps_par (i := 1) (j := 2) (by rfl) sc__law_rule.nd rfl rfl (by decide) rfl rfl (pa_cons (pg_call G__law_take (hr.mono (by decide)) hg rfl T.m__law_take T.F__law_take.kp T.b__law_take .nil pass0 (pa_cons (pv 0) (pa_cons pe_int pa_nil))) (pa_cons (pe_ix (r := rIx K) ix_seq (pe_lst (pa_cons pe_int (pa_cons pe_int (pa_cons (pg_call G__law_take (hr.mono (by decide)) hg rfl T.m__law_take T.F__law_take.kp T.b__law_take .nil pass0 (pa_cons (pv 0) (pa_cons pe_int pa_nil))) (pa_cons (pg_call G__law_take (hr.mono (by decide)) hg rfl T.m__law_take T.F__law_take.kp T.b__law_take .nil pass0 (pa_cons (pv 0) (pa_cons pe_int pa_nil))) pa_nil))))) (pg_call G__law_take (hr.mono (by decide)) hg rfl T.m__law_take T.F__law_take.kp T.b__law_take .nil pass0 (pa_cons (pv 0) (pa_cons pe_int pa_nil))) (fun _ _ => rfl)) pa_nil)) (by rfl))
    (pss_one (ps_ret (pe_tup (pa_cons (pv 1) (pa_cons (pv 2) (pa_cons (pe_ix (r := rIx K) ix_seq (pe_lst (pa_cons pe_str (pa_cons pe_str (pa_cons pe_str pa_nil)))) (pg_call G__law_take (hr.mono (by decide)) hg rfl T.m__law_take T.F__law_take.kp T.b__law_take .nil pass0 (pa_cons (pv 0) (pa_cons pe_int pa_nil))) (fun _ _ => rfl)) pa_nil))))))), ?_⟩
  refine body_d (Nm := ["_law_state_here", "_law_leave", "_law_loss"]) inferInstance ?_ h
  clear h
  rintro ss μ Q ⟨c, rfl, rfl, hc, q⟩
  refine dstart (ρ' := [some _, none, none]) rfl (b := 1) rfl ?_
  repeat' (walk_at "W")
  refine q ⟨_, _, _⟩ _ (RuOk.mk ?_ ?_ ?_ ?_ ?_) (by assumption) <;> dsimp only <;> first | assumption | omega
theorem sc__law_made : FnScope ["_law_rule_here"] ["_law_rule_here"] (defScope (top 70)) := ⟨rfl, rfl, rfl, by decide +kernel, rfl, by decide +kernel, by decide +kernel⟩
theorem ok__law_made (T : Tx K mg) (G_Rules___init__ : Fg P w K mg base CX0 4 T.f_Rules___init__ T.fd_Rules___init__ ["self", "drop", "cut", "second"] (spD K 4 (T_Rules___init__ T.C_Rules))) :
    Fg P w K mg base CX0 6 T.f__law_made T.fd__law_made ["_law_rule_here"] (spD K 1 (T__law_made T.C_Rules)) := by
  refine fg_of0 T.F__law_made sc__law_made (spD_len rfl) (fun cdv A outer s H vs Q E hr hg h => ?_)
  refine ⟨_, (pss_one (ps_ret (pg_makeN0 T.M_Rules G_Rules___init__ (hr.mono (by decide)) hg rfl T.m_Rules T.k1_Rules___init___drop_cut_second pass0 (pk_cons (pe_ix (r := rIx K) ix_seq (pv 0) pe_int (fun _ _ => rfl)) (pk_cons (pe_ix (r := rIx K) ix_seq (pv 0) pe_int (fun _ _ => rfl)) (pk_cons (pe_ix (r := rIx K) ix_seq (pv 0) pe_int (fun _ _ => rfl)) pk_nil)))))), ?_⟩
  refine body_d (Nm := ["_law_rule_here"]) inferInstance ?_ h
  clear h
  rintro ss μ Q ⟨⟨a, b, z⟩, rfl, rfl, hR, q⟩
  refine dstart (ρ' := [some _]) rfl (b := 0) rfl ?_
  repeat' (walk_at "W")
  exact q
theorem sc__law_try : FnScope ["_law_state_here", "_law_task", "_law_got", "_law_far"] ["_law_state_here", "_law_task"] (defScope (top 71)) := ⟨rfl, rfl, rfl, by decide +kernel, rfl, by decide +kernel, by decide +kernel⟩
theorem ok__law_try (T : Tx K mg) (G__law_take : Fg P w K mg base CX0 1 T.f__law_take T.fd__law_take ["_law_state_here", "_law_many"] (spD K 2 T__law_take)) :
    Fg P w K mg base CX0 2 T.f__law_try T.fd__law_try ["_law_state_here", "_law_task"] (spD K 2 T__law_try) := by
  refine fg_of0 T.F__law_try sc__law_try (spD_len rfl) (fun cdv A outer s H vs Q E hr hg h => ?_)
  refine ⟨_, (pss_cons (ps_set (i := 2) sc__law_try.nd rfl (by first | exact Or.inl rfl | exact Or.inr rfl) (pe_ix (r := rIx K) ix_seq (pe_lst (pa_cons pe_int (pa_cons (pe_ix (r := rIx K) ix_seq (pv 1) pe_int (fun _ _ => rfl)) (pa_cons (pg_call G__law_take (hr.mono (by decide)) hg rfl T.m__law_take T.F__law_take.kp T.b__law_take .nil pass0 (pa_cons (pv 0) (pa_cons (pe_op (r := rPlus K) op_plus (pe_ix (r := rIx K) ix_seq (pv 1) pe_int (fun _ _ => rfl)) pe_int) pa_nil))) pa_nil)))) (pg_call G__law_take (hr.mono (by decide)) hg rfl T.m__law_take T.F__law_take.kp T.b__law_take .nil pass0 (pa_cons (pv 0) (pa_cons pe_int pa_nil))) (fun _ _ => rfl)))
    (pss_cons (ps_set (i := 3) sc__law_try.nd rfl (by first | exact Or.inl rfl | exact Or.inr rfl) (pe_ix (r := rIx K) ix_seq (pe_lst (pa_cons pe_int (pa_cons (pg_call G__law_take (hr.mono (by decide)) hg rfl T.m__law_take T.F__law_take.kp T.b__law_take .nil pass0 (pa_cons (pv 0) (pa_cons pe_int pa_nil))) (pa_cons (pg_call G__law_take (hr.mono (by decide)) hg rfl T.m__law_take T.F__law_take.kp T.b__law_take .nil pass0 (pa_cons (pv 0) (pa_cons pe_int pa_nil))) (pa_cons (pg_call G__law_take (hr.mono (by decide)) hg rfl T.m__law_take T.F__law_take.kp T.b__law_take .nil pass0 (pa_cons (pv 0) (pa_cons pe_int pa_nil))) pa_nil))))) (pg_call G__law_take (hr.mono (by decide)) hg rfl T.m__law_take T.F__law_take.kp T.b__law_take .nil pass0 (pa_cons (pv 0) (pa_cons pe_int pa_nil))) (fun _ _ => rfl)))
    (pss_one (ps_ret (pe_tup (pa_cons (pv 2) (pa_cons (pe_ix (r := rIx K) ix_seq (pe_lst (pa_cons (pe_callB (call_least rfl) (by rfl) T.m_min (by decide +kernel) (pa_cons pe_int (pa_cons (pe_op (r := rPlus K) op_plus (pe_ix (r := rIx K) ix_seq (pv 1) pe_int (fun _ _ => rfl)) (pv 3)) pa_nil))) (pa_cons (pv 3) pa_nil))) (pe_callTy call_inted (by rfl) T.m_int (by decide +kernel) (pa_cons (pe_cmpR (r := rSame K) (op_same hr.units) (pg_call G__law_take (hr.mono (by decide)) hg rfl T.m__law_take T.F__law_take.kp T.b__law_take .nil pass0 (pa_cons (pv 0) (pa_cons pe_int pa_nil))) pe_int (nomark _)) pa_nil)) (fun _ _ => rfl)) pa_nil))))))), ?_⟩
  refine body_d (Nm := ["_law_state_here", "_law_task", "_law_got", "_law_far"]) inferInstance ?_ h
  clear h
  rintro ss μ Q ⟨c, ⟨d, m, x⟩, rfl, rfl, hc, hT, q⟩
  obtain ⟨h1, h2, h3, h4⟩ := hT
  dsimp only at h1 h2 h3 h4 q
  refine dstart (ρ' := [some _, some _, none, none]) rfl (b := 1) rfl ?_
  repeat' (walk_at "W")
  rename_i zp hzp _ _ _ _ _ _ _ _ _ _ _ _ _ _ _ _ _ _ _ _ zf hzf _ _ _ _ _ zd hzd
  have b1 : 0 ≤ zp ∧ zp ≤ m := by omega
  have b2 : 0 ≤ zf ∧ zf ≤ 200 := by omega
  refine q (zp, zd) _ ⟨b1.1, b1.2, ?_, ?_⟩ (by assumption)
  · show 0 ≤ zd
    rcases hzd with e | e
    · rw [e]; split <;> omega
    · omega
  · show zd ≤ 200
    rcases hzd with e | e
    · rw [e]; split <;> omega
    · omega
theorem sc__law_works : FnScope ["_law_state_here", "_law_most", "_law_found", "_law_date", "_law_wide", "_law_turn", "_law_got"] ["_law_state_here", "_law_most"] (defScope (top 68)) := ⟨rfl, rfl, rfl, by decide +kernel, rfl, by decide +kernel, by decide +kernel⟩
theorem ok__law_works (T : Tx K mg) (G__law_take : Fg P w K mg base CX0 1 T.f__law_take T.fd__law_take ["_law_state_here", "_law_many"] (spD K 2 T__law_take)) :
    Fg P w K mg base CX0 2 T.f__law_works T.fd__law_works ["_law_state_here", "_law_most"] (spD K 2 T__law_works) := by
  refine fg_of0 T.F__law_works sc__law_works (spD_len rfl) (fun cdv A outer s H vs Q E hr hg h => ?_)
  refine ⟨_, (pss_cons (ps_par3M (ps_par3 (i := 2) (j := 3) (l := 4) (by rfl) sc__law_works.nd rfl rfl rfl (by decide) (by decide) (by decide) rfl rfl rfl (pa_consM (pe_lst pa_nil) (pa_cons (pg_call G__law_take (hr.mono (by decide)) hg rfl T.m__law_take T.F__law_take.kp T.b__law_take .nil pass0 (pa_cons (pv 0) (pa_cons pe_int pa_nil))) (pa_cons (pe_ix (r := rIx K) ix_seq (pe_lst (pa_cons pe_int (pa_cons pe_int (pa_cons pe_int pa_nil)))) (pg_call G__law_take (hr.mono (by decide)) hg rfl T.m__law_take T.F__law_take.kp T.b__law_take .nil pass0 (pa_cons (pv 0) (pa_cons pe_int pa_nil))) (fun _ _ => rfl)) pa_nil))) (by rfl)))
    (pss_cons (ps_for PassesOwn.never rfl (pi_range1 rfl T.m_range (pa_cons (pe_op (r := rPlus K) op_plus pe_int (pg_call G__law_take (hr.mono (by decide)) hg rfl T.m__law_take T.F__law_take.kp T.b__law_take .nil pass0 (pa_cons (pv 0) (pa_cons (pv 1) pa_nil)))) pa_nil)) (pg_name (i := 5) sc__law_works.nd rfl (by first | exact Or.inl rfl | exact Or.inr rfl))
    (pss_cons (ps_set (i := 6) sc__law_works.nd rfl (by first | exact Or.inl rfl | exact Or.inr rfl) (pe_ix (r := rIx K) ix_seq (pe_lst (pa_cons pe_int (pa_cons pe_int (pa_cons (pe_op (r := rPlus K) op_plus pe_int (pg_call G__law_take (hr.mono (by decide)) hg rfl T.m__law_take T.F__law_take.kp T.b__law_take .nil pass0 (pa_cons (pv 0) (pa_cons pe_int pa_nil)))) (pa_cons (pe_op (r := rPlus K) op_plus pe_int (pg_call G__law_take (hr.mono (by decide)) hg rfl T.m__law_take T.F__law_take.kp T.b__law_take .nil pass0 (pa_cons (pv 0) (pa_cons pe_int pa_nil)))) pa_nil))))) (pg_call G__law_take (hr.mono (by decide)) hg rfl T.m__law_take T.F__law_take.kp T.b__law_take .nil pass0 (pa_cons (pv 0) (pa_cons pe_int pa_nil))) (fun _ _ => rfl)))
    (pss_cons (ps_expr (pe_bmK K rfl (pe_bm PySem.F.plainAttrs_list PySem.F.slot_list_append PySem.F.type_list_append mt_append (pv 2) (pa_cons (pe_tup (pa_cons (pv 3) (pa_cons (pv 6) (pa_cons (pe_cmpR (r := rSame K) (op_same hr.units) (pg_call G__law_take (hr.mono (by decide)) hg rfl T.m__law_take T.F__law_take.kp T.b__law_take .nil pass0 (pa_cons (pv 0) (pa_cons pe_int pa_nil))) pe_int (nomark _)) pa_nil)))) pa_nil))))
    (pss_one (ps_set (i := 3) sc__law_works.nd rfl (by first | exact Or.inl rfl | exact Or.inr rfl) (pe_callB (call_least rfl) (by rfl) T.m_min (by decide +kernel) (pa_cons pe_int (pa_cons (pe_op (r := rPlus K) op_plus (pv 3) (pg_call G__law_take (hr.mono (by decide)) hg rfl T.m__law_take T.F__law_take.kp T.b__law_take .nil pass0 (pa_cons (pv 0) (pa_cons (pv 4) pa_nil)))) pa_nil))))))))
    (pss_frz (i := 2) (pss_one (ps_ret (pe_callTy (r := rTupOf K) call_tupled (by rfl) T.m_tuple (by decide +kernel) (pa_cons (pv 2) pa_nil))))))), ?_⟩
  refine body_d (Nm := ["_law_state_here", "_law_most", "_law_found", "_law_date", "_law_wide", "_law_turn", "_law_got"]) inferInstance ?_ h
  clear h
  rintro ss μ Q ⟨c, m, rfl, rfl, hc, ⟨m0, m1⟩, q⟩
  refine dstart (ρ' := [some _, some _, none, none, none, none, none]) rfl (b := 1) rfl ?_
  repeat' (walk_at "W")
  rename_i zd c1 hz0 hz1 hc1 _ _ _ _ _ wd hwd r c2 r0 r1 hc2
  have bz : 0 ≤ zd ∧ zd ≤ 200 := by omega
  have bw : 1 ≤ wd ∧ wd ≤ 15 := by omega
  refine loop_rng (fun i ρ μ => ∃ v3 v5 v6 c' ts, ρ = [some (.cel 0), some (.d (.int m)), some (.cel 1), some (.d (.int v3)), some (.d (.int wd)), v5, v6] ∧ μ = [some c', some (.lst (ts.map tkD))] ∧ IsSt c' ∧ (0 ≤ v3 ∧ v3 ≤ 200) ∧ ts.length = i ∧ (∀ t ∈ ts, TkOk t) ∧ (ts.map (·.d)).Pairwise (· ≤ ·) ∧ ∀ t ∈ ts, t.d ≤ v3) ⟨_, _, _, _, [], rfl, rfl, hc2, bz, rfl, (fun _ h => nomatch h), .nil, (fun _ h => nomatch h)⟩ ?_ ?_
  · rintro i k ρ μ hi ⟨v3, v5, v6, c', ts, rfl, rfl, hc', hv, hl, hall, hup, hle⟩ ih
    repeat' (walk_at "W")
    rename_i t10 _ h10 h10' _ t100 _ h100 h100' _ _ _ _ _ _ got hgot f _ _ _ _ st _ s0 s1 hsh
    refine ih _ _ ⟨_, _, _, _, ts ++ [⟨v3, got, _⟩], rfl, by rw [List.map_append]; rfl, hsh, ⟨by split <;> omega, by split <;> omega⟩, by simp [hl], fun t ht => ?_, ?_, fun t ht => ?_⟩
    · rcases List.mem_append.mp ht with ht | ht
      · exact hall t ht
      · rw [List.mem_singleton.mp ht]
        exact ⟨hv.1, hv.2, by show 1 ≤ got; omega, by show got ≤ 100; omega⟩
    · rw [List.map_append]
      refine List.pairwise_append.mpr ⟨hup, List.pairwise_singleton _ _, fun x hx y hy => ?_⟩
      obtain ⟨t, ht, rfl⟩ := List.mem_map.mp hx
      rw [List.map_singleton, List.mem_singleton] at hy
      rw [hy]
      exact hle t ht
    · rcases List.mem_append.mp ht with ht | ht
      · have := hle t ht
        split <;> omega
      · rw [List.mem_singleton.mp ht]
        show v3 ≤ _
        split <;> omega
  · rintro ρ μ ⟨v3, v5, v6, c', ts, rfl, rfl, hc', hv, hl, hall, hup, hle⟩
    repeat' (walk_at "W")
    exact q ts _ ⟨by omega, by omega, hall, hup⟩ (by omega) hc'
theorem sc__law_result : FnScope ["_law_state_here", "_law_task", "_law_kind", "_law_tries", "_law_turn"] ["_law_state_here", "_law_task"] (defScope (top 72)) := ⟨rfl, rfl, rfl, by decide +kernel, rfl, by decide +kernel, by decide +kernel⟩
theorem ok__law_result (T : Tx K mg) (TB__law_result : LamX.TabB base mg T.c__law_result T.P__law_result) (G__law_take : Fg P w K mg base CX0 1 T.f__law_take T.fd__law_take ["_law_state_here", "_law_many"] (spD K 2 T__law_take)) (G__law_try : Fg P w K mg base CX0 2 T.f__law_try T.fd__law_try ["_law_state_here", "_law_task"] (spD K 2 T__law_try)) :
    Fg P w K mg base CX0 6 T.f__law_result T.fd__law_result ["_law_state_here", "_law_task"] (spD K 2 T__law_result) := by
  refine fg_ofT0 T.F__law_result sc__law_result (spD_len rfl) (fun A outer s H vs Q E hr hg h => ?_)
  refine ⟨_, (pss_cons (ps_set (i := 2) sc__law_result.nd rfl (by first | exact Or.inl rfl | exact Or.inr rfl) (pg_call G__law_take (hr.mono (by decide)) hg rfl T.m__law_take T.F__law_take.kp T.b__law_take .nil pass0 (pa_cons (pv 0) (pa_cons pe_int pa_nil))))
    (pss_cons (ps_if (pt_cmpR op_less (pv 2) pe_int (nomark _))
    (pss_one (ps_ret (pe_ix (r := rIx K) ix_seq (pe_lst (pa_cons pe_non (pa_cons pe_str pa_nil))) (pv 2) (fun _ _ => rfl))))
    pss_nil)
    (pss_cons (ps_setLc (i := 3) (own := [("_law_turn", 4)]) (g := (gName 4)) (tt := tYes) rfl sc__law_result.nd rfl rfl (sw_true rfl rfl rfl (by decide +kernel)) (pi_range1 rfl T.m_range (pa_cons (pe_op (r := rPlus K) op_plus pe_int (pg_call G__law_take (hr.mono (by decide)) hg rfl T.m__law_take T.F__law_take.kp T.b__law_take .nil pass0 (pa_cons (pv 0) (pa_cons pe_int pa_nil)))) pa_nil)) (blkOk_by (N := ["_law_state_here", "_law_task", "_law_kind", "_law_tries", "_law_turn"]) (sc := defScope (top 72)) (by decide +kernel)) (fun _ _ _ _ _ => (pg_name (i := 4) sc__law_result.nd rfl (by first | exact Or.inl rfl | exact Or.inr rfl))) (fun _ _ _ _ _ => pts_nil) (fun _ _ _ _ _ => (pg_call G__law_try (hr.mono (by decide)) hg rfl T.m__law_try T.F__law_try.kp T.b__law_try .nil pass0 (pa_cons (pv 0) (pa_cons (pv 1) pa_nil)))))
    (pss_one (ps_ret (pe_callTy (r := rTupOf K) call_tupled (by rfl) T.m_tuple (by decide +kernel) (pa_cons (pe_sortK K rfl (pe_sortkey (T := Tb.ts) (q := "_law_result.<locals>.<lambda>") (a := "_law_one") (cap := []) (k := 0) rfl T.m_sorted (pv 3) (lamM_of rfl TB__law_result T.t__law_result rfl) (hr.mono (by decide)) (lamP_by (sc := defScope (top 72)) (by decide +kernel)) rfl (by intros; rfl) (fun _ z => by cases z) (fun _ _ _ _ => (pe_ix (r := rIx K) ix_seq (pv 0) pe_int (fun _ _ => rfl))))) pa_nil))))))), ?_⟩
  refine body_d (Nm := ["_law_state_here", "_law_task", "_law_kind", "_law_tries", "_law_turn"]) inferInstance ?_ h
  clear h
  rintro ss μ Q ⟨c, ⟨d, m, x⟩, rfl, rfl, hc, hT, q⟩
  have hT' : TkOk ⟨d, m, x⟩ := hT
  dsimp only at q
  refine dstart (ρ' := [some _, some _, none, none, none]) rfl (b := 1) rfl ?_
  repeat' (walk_at "W")
  · rename_i e
    rcases e with e | e <;> subst e
    · exact q .no _ trivial (by assumption)
    · exact q .exc _ trivial (by assumption)
  · rename_i r c1 r0 r3 hc1
    refine lc_ind (fun i acc μ => ∃ ts c', acc = ts.map tryD ∧ ts.length = i ∧ (∀ t ∈ ts, TryOk m t) ∧ μ = [some c'] ∧ IsSt c') ⟨[], _, rfl, rfl, by simp, rfl, hc1⟩ ?_ ?_
    · rintro i dd acc μ k hget ⟨ts, c', rfl, hi, hall, rfl, hc'⟩ ih
      obtain ⟨hlt, rfl⟩ := rngD_get hget
      repeat' (walk_at "W")
      rename_i t c2 ht hc2
      exact ih _ _ ⟨ts ++ [t], _, by simp, by simp [hi], (fun u hu => by
        rcases List.mem_append.mp hu with hu | hu
        · exact hall u hu
        · rw [List.mem_singleton.mp hu]; exact ht), rfl, hc2⟩
    · rintro acc μ ⟨ts, c', rfl, hl, hall, rfl, hc'⟩
      rw [rngD_length] at hl
      repeat' (walk_at "W")
      refine ⟨ts.map tryD, rfl, ts.map (·.2), by simp, fun i dd j hd hj => ?_, ?_⟩
      · rw [List.getElem?_map] at hd hj
        cases ht : ts[i]? with
        | none => rw [ht] at hd; cases hd
        | some t =>
          rw [ht] at hd hj
          cases hd
          cases hj
          simp only [tryD]
          repeat' (walk_at "W")
          all_goals exact ⟨rfl, rfl⟩
      · rw [sortK_map]
        repeat' (walk_at "W")
        have ll := sortK_length (ks := ts.map (·.2)) (zs := ts) (by simp)
        exact q (.tr (sortK (ts.map (·.2)) ts)) _ ⟨by omega, by omega, fun t ht => hall t (sortK_sub ht), sortK_pw (·.2) ts⟩ hc'
theorem sc__law_points : FnScope ["_law_got", "_law_dates", "_law_loss"] ["_law_got", "_law_dates", "_law_loss"] (defScope (top 73)) := ⟨rfl, rfl, rfl, by decide +kernel, rfl, by decide +kernel, by decide +kernel⟩
theorem ok__law_points (T : Tx K mg)  :
    Fg P w K mg base CX0 1 T.f__law_points T.fd__law_points ["_law_got", "_law_dates", "_law_loss"] (spD K 3 T__law_points) := by
  refine fg_of0 T.F__law_points sc__law_points (spD_len rfl) (fun cdv A outer s H vs Q E hr hg h => ?_)
  refine ⟨_, (pss_one (ps_ret (pe_callB (call_most rfl) (by rfl) T.m_max (by decide +kernel) (pa_cons pe_int (pa_cons (pe_op op_minus (pv 0) (pe_op op_div (pe_op (r := rTimes K) op_times (pe_op (r := rTimes K) op_times (pv 0) (pv 2)) (pv 1)) pe_int)) pa_nil))))), ?_⟩
  refine body_d (Nm := ["_law_got", "_law_dates", "_law_loss"]) inferInstance ?_ h
  clear h
  rintro ss μ Q ⟨p, d, c, rfl, rfl, ⟨h1, h2⟩, ⟨h3, h4⟩, ⟨h5, h6⟩, q⟩
  have hw := late_wide h1 h2 h5 h6
  refine dstart (ρ' := [some _, some _, some _]) rfl (b := 0) rfl ?_
  repeat' (walk_at "W")
  exact q
end

section
variable {P : Program} {w : World} {K : PySem.W.Frag} {mg : Str → Option Value} {base : Heap}
theorem sc__law_same : FnScope ["_law_found", "_law_due"] ["_law_found", "_law_due"] (defScope (top 79)) := ⟨rfl, rfl, rfl, by decide +kernel, rfl, by decide +kernel, by decide +kernel⟩
theorem ok__law_same (T : Tx K mg) (G_Rules___repr__ : FnOk P w K mg base CX0 1 T.f_Rules___repr__ T.fd_Rules___repr__ ["self"] (spD K 1 (T_Rules___repr__ T.C_Rules))) :
    Fg P w K mg base CX0 8 T.f__law_same T.fd__law_same ["_law_found", "_law_due"] (spD K 2 (TM_same T.C_Rules)) := by
  refine fg_of0 T.F__law_same sc__law_same (spD_len rfl) (fun cdv A outer s H vs Q E hr hg h => ?_)
  refine ⟨_, (pss_one (ps_ret (pe_cmpR (r := rSame K) (op_same hr.units) (pe_callB (r := rOrC _ _) (cr_or (call_reprA hg hr.units) (call_reprM G_Rules___repr__ (hr.mono (by decide)) hg T.rp_Rules T.rf_Rules T.b_Rules___repr__ pass0)) (by rfl) T.m_repr (by decide +kernel) (pa_cons (pv 0) pa_nil)) (pe_callB (r := rOrC _ _) (cr_or (call_reprA hg hr.units) (call_reprM G_Rules___repr__ (hr.mono (by decide)) hg T.rp_Rules T.rf_Rules T.b_Rules___repr__ pass0)) (by rfl) T.m_repr (by decide +kernel) (pa_cons (pv 1) pa_nil)) (nomark _)))), ?_⟩
  refine body_d (Nm := ["_law_found", "_law_due"]) inferInstance ?_ h
  clear h
  rintro ss μ Q ⟨x, y, tx, ty, rfl, rfl, hx, hy, q⟩
  refine dstart (ρ' := [some _, some _]) rfl (b := 0) rfl ?_
  repeat' (walk_at "W")
  refine repr_any hx ?_
  repeat' (walk_at "W")
  refine repr_any hy ?_
  repeat' (walk_at "W")
  exact q
end
section
variable {P : Program} {w : World} {K : PySem.W.Frag} {mg : Str → Option Value} {base : Heap}
theorem sc__law_score : FnScope ["_law_task", "_law_rule_here", "_law_outcome", "_law_told_here", "_law_got", "_law_date", "_law_late"] ["_law_task", "_law_rule_here", "_law_outcome"] (defScope (top 74)) := ⟨rfl, rfl, rfl, by decide +kernel, rfl, by decide +kernel, by decide +kernel⟩
theorem ok__law_score (T : Tx K mg) (G__law_points : Fg P w K mg base CX0 1 T.f__law_points T.fd__law_points ["_law_got", "_law_dates", "_law_loss"] (spD K 3 T__law_points)) :
    Fg P w K mg base CX0 2 T.f__law_score T.fd__law_score ["_law_task", "_law_rule_here", "_law_outcome"] (spD K 3 T__law_score) := by
  refine fg_of0 T.F__law_score sc__law_score (spD_len rfl) (fun cdv A outer s H vs Q E hr hg h => ?_)
  refine ⟨_, (pss_cons (ps_if (PW.pt (pw_or (pt_cmpR op_isNo (pv 2) pe_non (nomark _)) (pw_or1 (pt_cmpR (r := rSame K) (op_same hr.units) (pv 2) pe_str (nomark _)))))
    (pss_one (ps_ret (pe_ifExp (pt_cmpR op_isNo (pv 2) pe_non (nomark _)) pe_int pe_non)))
    pss_nil)
    (pss_cons (ps_setM (i := 3) sc__law_score.nd rfl (by first | exact Or.inl rfl | exact Or.inr rfl) (pe_lst pa_nil))
    (pss_cons (ps_for PassesOwn.never rfl (pi_seqK K rfl (pi_seq (pv 2))) (pg_tupK K 2 rfl rfl (pg_tup rfl (pgs_cons (pg_name (i := 4) sc__law_score.nd rfl (by first | exact Or.inl rfl | exact Or.inr rfl)) (pgs_cons (pg_name (i := 5) sc__law_score.nd rfl (by first | exact Or.inl rfl | exact Or.inr rfl)) pgs_nil))))
    (pss_cons (ps_set (i := 6) sc__law_score.nd rfl (by first | exact Or.inl rfl | exact Or.inr rfl) (pe_ifExp (pt_cmpR op_more (pv 5) (pe_ix (r := rIx K) ix_seq (pv 0) pe_int (fun _ _ => rfl)) (nomark _)) (pe_op op_minus (pv 5) (pe_ix (r := rIx K) ix_seq (pv 0) pe_int (fun _ _ => rfl))) pe_int))
    (pss_one (ps_expr (pe_bmK K rfl (pe_bm PySem.F.plainAttrs_list PySem.F.slot_list_append PySem.F.type_list_append mt_append (pv 3) (pa_cons (pg_call G__law_points (hr.mono (by decide)) hg rfl T.m__law_points T.F__law_points.kp T.b__law_points .nil pass0 (pa_cons (pv 4) (pa_cons (pv 6) (pa_cons (pe_ix (r := rIx K) ix_seq (pv 1) pe_int (fun _ _ => rfl)) pa_nil)))) pa_nil)))))))
    (pss_frz (i := 3) (pss_cons (ps_if (pt_cmpR (r := rSame K) (op_same hr.units) (pe_ix (r := rIx K) ix_seq (pv 1) pe_int (fun _ _ => rfl)) pe_str (nomark _))
    (pss_one (ps_ret (pe_op op_div (pe_callB (r := rSum K) (cr_sum rfl) (by rfl) T.m_sum (by decide +kernel) (pa_cons (pv 3) pa_nil)) (pe_callB (r := Cm.rLen K) call_size (by rfl) T.m_len (by decide +kernel) (pa_cons (pv 3) pa_nil)))))
    pss_nil)
    (pss_one (ps_ret (pe_ifExp (pt_cmpR (r := rSame K) (op_same hr.units) (pe_ix (r := rIx K) ix_seq (pv 1) pe_int (fun _ _ => rfl)) pe_str (nomark _)) (pe_ix (r := rIx K) ix_seq (pv 3) (pe_op op_minus (pe_callB (r := Cm.rLen K) call_size (by rfl) T.m_len (by decide +kernel) (pa_cons (pv 3) pa_nil)) pe_int) (fun _ _ => rfl)) (pe_callB (r := rMax K) (cr_max rfl) (by rfl) T.m_max (by decide +kernel) (pa_cons (pv 3) pa_nil)))))))))), ?_⟩
  refine body_d (Nm := ["_law_task", "_law_rule_here", "_law_outcome", "_law_told_here", "_law_got", "_law_date", "_law_late"]) inferInstance ?_ h
  clear h
  rintro ss μ Q ⟨⟨d, m, x⟩, ⟨a, b, z⟩, o, rfl, rfl, hT, hR, hO, q⟩
  obtain ⟨h1, h2, h3, h4⟩ := hT
  have hz := hR.z
  obtain ⟨g1, g2, g3, g4, g5⟩ := hR
  dsimp only at h1 h2 h3 h4 g1 g2 g3 g4 hz hO
  rcases o with _ | _ | ts
  · simp only [resD]
    refine dstart (ρ' := [some _, some _, some _, none, none, none, none]) rfl (b := 0) rfl ?_
    repeat' (walk_at "W")
    all_goals exact q
  · simp only [resD]
    refine dstart (ρ' := [some _, some _, some _, none, none, none, none]) rfl (b := 0) rfl ?_
    repeat' (walk_at "W")
    all_goals exact q
  · obtain ⟨l1, l3, hall, hp⟩ := hO
    simp only [resD]
    refine dstart (ρ' := [some _, some _, some _, none, none, none, none]) rfl (b := 0) rfl ?_
    repeat' (walk_at "W")
    refine ⟨eqOk_tries l3, ?_⟩
    repeat' (walk_at "W")
    refine loop_of (xs := ts) tryD (fun i ρ μ => ∃ v4 v5 v6, ρ = [some (.d (tkD ⟨d, m, x⟩)), some (.d (rlD ⟨a, b, z⟩)), some (.d (.tup (ts.map tryD))), some (.cel 0), v4, v5, v6] ∧ μ = [some (.lst (((ts.take i).map (lateOf d b)).map .int))]) ⟨_, _, _, rfl, rfl⟩ ?_ ?_
    · rintro i t k ρ μ ht ⟨v4, v5, v6, rfl, rfl⟩ ih
      obtain ⟨u1, u2, u3, u4⟩ := hall t (List.mem_of_getElem? ht)
      have e1 : ∀ l : Int, lateOf d b t = l → ((ts.take i).map (lateOf d b)).map D.int ++ [.int l] = ((ts.take (i + 1)).map (lateOf d b)).map D.int := fun l e => by
        rw [List.take_add_one, ht, List.map_append, List.map_append, ← e]; rfl
      have ll : (((ts.take i).map (lateOf d b)).map D.int).length < 1000 := by simp only [List.length_map, List.length_take]; omega
      unfold tryD
      repeat' (walk_at "W")
      · rename_i hc
        rw [e1 _ (by unfold lateOf; rw [if_pos (by omega)])]
        exact ih _ _ ⟨_, _, _, rfl, rfl⟩
      · rename_i hc
        rw [e1 _ (by unfold lateOf; rw [if_neg (by omega)])]
        exact ih _ _ ⟨_, _, _, rfl, rfl⟩
    · rintro ρ μ ⟨v4, v5, v6, rfl, rfl⟩
      rw [List.take_length]
      have hl : (ts.map (lateOf d b)).length = ts.length := List.length_map ..
      have q : Q (.d (.int (countF z (ts.map (lateOf d b))))) [] := q
      generalize ts.map (lateOf d b) = ns at *
      repeat' (walk_at "W")
      · rename_i hc
        exact conv_i (by unfold countF; rw [if_neg (by rw [hc]; decide +kernel), if_neg (by rw [hc]; decide +kernel)]) q
      · rename_i hc0 hc y hA hy
        refine conv_i ?_ q
        unfold countF
        rw [if_neg (by rw [hc]; decide +kernel), if_pos hc, List.getLast?_eq_getElem?]
        have e := hA.eq
        rw [show ((ns.length : Int) - 1).toNat = ns.length - 1 by omega] at e
        rw [e]; rfl
      · rename_i hc0 hc m' hm hb
        refine conv_i ?_ q
        unfold countF
        rw [if_pos (by rcases hz with h | h | h <;> first | exact h | contradiction)]
        exact maxI_eq hm hb
theorem sc__law_lots : FnScope ["_law_many", "_law_few", "_law_found", "_law_turn", "_law_longer", "_law_some", "_law_first", "_law_one"] ["_law_many", "_law_few"] (defScope (top 75)) := ⟨rfl, rfl, rfl, by decide +kernel, rfl, by decide +kernel, by decide +kernel⟩
theorem ok__law_lots (T : Tx K mg)  :
    Fg P w K mg base CX0 1 T.f__law_lots T.fd__law_lots ["_law_many", "_law_few"] (spD K 2 T__law_lots) := by
  refine fg_of0 T.F__law_lots sc__law_lots (spD_len rfl) (fun cdv A outer s H vs Q E hr hg h => ?_)
  refine ⟨_, (pss_cons (ps_set (i := 2) sc__law_lots.nd rfl (by first | exact Or.inl rfl | exact Or.inr rfl) (pe_lst (pa_cons (pe_tup pa_nil) pa_nil)))
    (pss_cons (ps_for PassesOwn.never rfl (pi_range1 rfl T.m_range (pa_cons (pv 1) pa_nil)) (pg_name (i := 3) sc__law_lots.nd rfl (by first | exact Or.inl rfl | exact Or.inr rfl))
    (pss_cons (ps_setM (i := 4) sc__law_lots.nd rfl (by first | exact Or.inl rfl | exact Or.inr rfl) (pe_lst pa_nil))
    (pss_cons (ps_for PassesOwn.never rfl (pi_seqK K rfl (pi_seq (pv 2))) (pg_name (i := 5) sc__law_lots.nd rfl (by first | exact Or.inl rfl | exact Or.inr rfl))
    (pss_cons (ps_set (i := 6) sc__law_lots.nd rfl (by first | exact Or.inl rfl | exact Or.inr rfl) (pe_ifExp (pt_cmpR (r := rUnlike K) (op_unlike hr.units) (pv 5) (pe_tup pa_nil) (nomark _)) (pe_op (r := rPlus K) op_plus (pe_ix (r := rIx K) ix_seq (pv 5) (pe_un un_minus pe_int) (fun _ _ => rfl)) pe_int) pe_int))
    (pss_one (ps_expr (pe_bmK K rfl (pe_bm PySem.F.plainAttrs_list PySem.F.slot_list_extend PySem.F.type_list_extend mt_extend (pv 4) (pa_cons (pe_lc (own := [("_law_one", 7)]) (g := (gName 7)) (tt := tYes) rfl sc__law_lots.nd (pi_range2 rfl T.m_range (pa_cons (pv 6) (pa_cons (pe_op (r := rPlus K) op_plus (pe_op (r := rPlus K) op_plus (pe_op op_minus (pv 0) (pv 1)) (pv 3)) pe_int) pa_nil))) (blkOk_by (N := ["_law_many", "_law_few", "_law_found", "_law_turn", "_law_longer", "_law_some", "_law_first", "_law_one"]) (sc := defScope (top 75)) (by decide +kernel)) (fun _ _ _ _ _ => (pg_name (i := 7) sc__law_lots.nd rfl (by first | exact Or.inl rfl | exact Or.inr rfl))) (fun _ _ _ _ _ => pts_nil) (fun _ _ _ _ _ => (pe_op (r := rPlus K) op_plus (pv 5) (pe_tup (pa_cons (pv 7) pa_nil))))) pa_nil)))))))
    (pss_frz (i := 4) (pss_one (ps_set (i := 2) sc__law_lots.nd rfl (by first | exact Or.inl rfl | exact Or.inr rfl) (pv 4)))))))
    (pss_one (ps_ret (pv 2))))), ?_⟩
  refine body_d (Nm := ["_law_many", "_law_few", "_law_found", "_law_turn", "_law_longer", "_law_some", "_law_first", "_law_one"]) inferInstance ?_ h
  clear h
  rintro ss μ Q ⟨n, m, rfl, rfl, ⟨h1, h2, h3, h4⟩, q⟩
  have hd5 : (n - m).toNat ≤ 5 := by omega
  have hdm : (n - m).toNat + m.toNat ≤ 12 := by omega
  refine dstart (ρ' := [some _, some _, none, none, none, none, none, none]) rfl (b := 0) rfl ?_
  repeat' (walk_at "W")
  refine loop_rng (fun i ρ μ => ∃ v3 v4 v5 v6 v7, ρ = [some (.d (.int n)), some (.d (.int m)), some (.d (.lst (List.map tupI (lotsF (n - m).toNat i)))), v3, v4, v5, v6, v7] ∧ μ = []) ⟨_, _, _, _, _, rfl, rfl⟩ ?_ ?_
  · rintro i k ρ μ hi ⟨v3, v4, v5, v6, v7, rfl, rfl⟩ ih
    have hL := lots_len (d := (n - m).toNat) (i := i + 1) hd5 (by omega) (by omega)
    have hL0 := lots_len (d := (n - m).toNat) (i := i) hd5 (by omega) (by omega)
    repeat' (walk_at "W")
    refine loop_of (xs := lotsF (n - m).toNat i) tupI (fun j ρ μ => ∃ v5 v6 v7, ρ = [some (.d (.int n)), some (.d (.int m)), some (.d (.lst (List.map tupI (lotsF (n - m).toNat i)))), some (.d (.int (0 + (i : Nat)))), some (.cel 0), v5, v6, v7] ∧ μ = [some (.lst ((((lotsF (n - m).toNat i).take j).flatMap fun l => (List.range (((n - m).toNat + i + 1 : Nat) - fstF l : Int).toNat).map fun j => l ++ [fstF l + (j : Nat)]).map tupI))]) ⟨_, _, _, rfl, rfl⟩ ?_ ?_
    · rintro j l k2 ρ μ hj ⟨v5, v6, v7, rfl, rfl⟩ ih2
      obtain ⟨a1, a2, a3⟩ := (lots_mem _ _ _).mp (List.mem_of_getElem? hj)
      have ht : (lotsF (n - m).toNat i).take (j + 1) = (lotsF (n - m).toNat i).take j ++ [l] := by
        rw [List.take_add_one, hj]; rfl
      have f0 : 0 ≤ fstF l ∧ fstF l ≤ 12 := by
        unfold fstF
        cases e : l.getLast? with
        | none => exact ⟨Int.le_refl _, by decide⟩
        | some y =>
          obtain ⟨b1, b2⟩ := a3 y (List.mem_of_getLast? e)
          show 0 ≤ y + 1 ∧ y + 1 ≤ 12
          omega
      have hf := flat_take (fun l => (List.range (((n - m).toNat + i + 1 : Nat) - fstF l : Int).toNat).map fun j => l ++ [fstF l + (j : Nat)]) (lotsF (n - m).toNat i) (j + 1)
      have hf : _ ≤ (lotsF (n - m).toNat (i + 1)).length := hf
      rw [ht, List.flatMap_append, List.flatMap_cons, List.flatMap_nil, List.append_nil, List.length_append] at hf
      have hlen : ((List.range (((n - m).toNat + i + 1 : Nat) - fstF l : Int).toNat).map fun j : Nat => l ++ [fstF l + (j : Int)]).length ≤ 800 := by omega
      rw [List.length_map, List.length_range] at hlen
      have e0 : (D.tup (l.map .int)) = tupI l := rfl
      have fin : ∀ f : Int, f = fstF l → ∀ v7 : Option S, k2 [some (.d (.int n)), some (.d (.int m)), some (.d (.lst (List.map tupI (lotsF (n - m).toNat i)))), some (.d (.int (0 + (i : Nat)))), some (.cel 0), some (.d (tupI l)), some (.d (.int f)), v7] [some (.lst (List.map tupI (((lotsF (n - m).toNat i).take j).flatMap fun l => (List.range (((n - m).toNat + i + 1 : Nat) - fstF l : Int).toNat).map fun j : Nat => l ++ [fstF l + (j : Int)]) ++ List.map (fun j : Nat => tupI (l ++ [f + (j : Int)])) (List.range (n - m + (0 + (i : Nat)) + 1 - f).toNat)))] := fun f hf v7 => by
        subst hf
        have eN : (n - m + (0 + ((i : Nat) : Int)) + 1 - fstF l).toNat = (((n - m).toNat + i + 1 : Nat) - fstF l : Int).toNat := by omega
        rw [eN]
        refine ih2 _ _ ⟨_, _, _, rfl, ?_⟩
        rw [ht, List.flatMap_append, List.map_append, List.flatMap_cons, List.flatMap_nil, List.append_nil, List.map_map]; rfl
      have eN : (n - m + (0 + ((i : Nat) : Int)) + 1 - fstF l).toNat = (((n - m).toNat + i + 1 : Nat) - fstF l : Int).toNat := by omega
      rw [← eN] at hlen
      rw [← eN] at hf
      have hf2 := hf
      rw [List.length_map, List.length_range] at hf2
      rw [← e0] at fin ⊢
      repeat' (walk_at "W")
      · rename_i hc
        refine ⟨List.length_pos_iff.mpr hc, fun y hy => ?_⟩
        have ef : y + 1 = fstF l := by unfold fstF; rw [hy]
        repeat' (walk_at "W")
        rw [ef]
        refine lc_of (xs := List.range (n - m + (0 + ((i : Nat) : Int)) + 1 - fstF l).toNat) (fun j : Nat => .int (fstF l + (j : Int))) (fun j : Nat => tupI (l ++ [fstF l + (j : Int)])) (by rw [List.length_range]; omega) (fun r acc q hr ha hq => ?_) ?_
        · repeat' (walk_at "W")
          rw [show tupI (l ++ [fstF l + (r : Int)]) = .tup (l.map .int ++ [.int (fstF l + (r : Int))]) by unfold tupI; rw [List.map_append]; rfl] at hq
          exact hq
        · repeat' (walk_at "W")
          refine ⟨by rw [List.length_map, List.length_map, List.length_range]; omega, ?_⟩
          repeat' (walk_at "W")
          exact fin _ rfl _
      · rename_i hc
        have ef : 0 = fstF l := by unfold fstF; rw [hc]; rfl
        have fin := fin 0 ef
        rw [← ef] at hlen hf2
        refine lc_of (xs := List.range (n - m + (0 + ((i : Nat) : Int)) + 1 - 0).toNat) (fun j : Nat => .int (0 + (j : Int))) (fun j : Nat => tupI (l ++ [0 + (j : Int)])) (by rw [List.length_range]; omega) (fun r acc q hr ha hq => ?_) ?_
        · repeat' (walk_at "W")
          rw [show tupI (l ++ [0 + (r : Int)]) = .tup (l.map .int ++ [.int (0 + (r : Int))]) by unfold tupI; rw [List.map_append]; rfl] at hq
          exact hq
        · repeat' (walk_at "W")
          refine ⟨by rw [List.length_map, List.length_map, List.length_range]; omega, ?_⟩
          repeat' (walk_at "W")
          exact fin _
    · rintro ρ μ ⟨v5, v6, v7, rfl, rfl⟩
      rw [List.take_length]
      repeat' (walk_at "W")
      exact ih _ _ ⟨_, _, _, _, _, rfl, rfl⟩
  · rintro ρ μ ⟨v3, v4, v5, v6, v7, rfl, rfl⟩
    repeat' (walk_at "W")
    exact q
theorem sc__law_best : FnScope ["_law_rows", "_law_leave", "_law_extra", "_law_best_here", "_law_some", "_law_got", "_law_most", "_law_one"] ["_law_rows", "_law_leave", "_law_extra"] (defScope (top 76)) := ⟨rfl, rfl, rfl, by decide +kernel, rfl, by decide +kernel, by decide +kernel⟩
theorem ok__law_best (T : Tx K mg) (G__law_lots : Fg P w K mg base CX0 1 T.f__law_lots T.fd__law_lots ["_law_many", "_law_few"] (spD K 2 T__law_lots)) :
    Fg P w K mg base CX0 2 T.f__law_best T.fd__law_best ["_law_rows", "_law_leave", "_law_extra"] (spD K 3 T__law_best) := by
  refine fg_of0 T.F__law_best sc__law_best (spD_len rfl) (fun cdv A outer s H vs Q E hr hg h => ?_)
  refine ⟨_, (pss_cons (ps_set (i := 3) sc__law_best.nd rfl (by first | exact Or.inl rfl | exact Or.inr rfl) pe_non)
    (pss_cons (ps_for PassesOwn.never rfl (pi_seqK K rfl (pi_seq (pg_call G__law_lots (hr.mono (by decide)) hg rfl T.m__law_lots T.F__law_lots.kp T.b__law_lots .nil pass0 (pa_cons (pe_callB (r := Cm.rLen K) call_size (by rfl) T.m_len (by decide +kernel) (pa_cons (pv 0) pa_nil)) (pa_cons (pe_callB (call_most rfl) (by rfl) T.m_max (by decide +kernel) (pa_cons pe_int (pa_cons (pe_op op_minus (pe_callB (r := Cm.rLen K) call_size (by rfl) T.m_len (by decide +kernel) (pa_cons (pv 0) pa_nil)) (pv 1)) pa_nil))) pa_nil))))) (pg_name (i := 4) sc__law_best.nd rfl (by first | exact Or.inl rfl | exact Or.inr rfl))
    (pss_cons (ps_par (i := 5) (j := 6) (by rfl) sc__law_best.nd rfl rfl (by decide) rfl rfl (pa_cons (pe_op (r := rPlus K) op_plus (pv 2) (pe_callB (r := rSum K) (cr_sum rfl) (by rfl) T.m_sum (by decide +kernel) (pa_cons (pe_lc (own := [("_law_one", 7)]) (g := (gName 7)) (tt := tYes) rfl sc__law_best.nd (pi_seqK K rfl (pi_seq (pv 4))) (blkOk_by (N := ["_law_rows", "_law_leave", "_law_extra", "_law_best_here", "_law_some", "_law_got", "_law_most", "_law_one"]) (sc := defScope (top 76)) (by decide +kernel)) (fun _ _ _ _ _ => (pg_name (i := 7) sc__law_best.nd rfl (by first | exact Or.inl rfl | exact Or.inr rfl))) (fun _ _ _ _ _ => pts_nil) (fun _ _ _ _ _ => (pe_ix (r := rIx K) ix_seq (pe_ix (r := rIx K) ix_seq (pv 0) (pv 7) (fun _ _ => rfl)) pe_int (fun _ _ => rfl)))) pa_nil))) (pa_cons (pe_callB (r := rSum K) (cr_sum rfl) (by rfl) T.m_sum (by decide +kernel) (pa_cons (pe_lc (own := [("_law_one", 7)]) (g := (gName 7)) (tt := tYes) rfl sc__law_best.nd (pi_seqK K rfl (pi_seq (pv 4))) (blkOk_by (N := ["_law_rows", "_law_leave", "_law_extra", "_law_best_here", "_law_some", "_law_got", "_law_most", "_law_one"]) (sc := defScope (top 76)) (by decide +kernel)) (fun _ _ _ _ _ => (pg_name (i := 7) sc__law_best.nd rfl (by first | exact Or.inl rfl | exact Or.inr rfl))) (fun _ _ _ _ _ => pts_nil) (fun _ _ _ _ _ => (pe_ix (r := rIx K) ix_seq (pe_ix (r := rIx K) ix_seq (pv 0) (pv 7) (fun _ _ => rfl)) pe_int (fun _ _ => rfl)))) pa_nil)) pa_nil)) (by rfl))
    (pss_one (ps_if (PW.pt (pw_or (pt_cmpR op_isNo (pv 3) pe_non (nomark _)) (pw_or1 (pt_cmpR op_more (pe_op (r := rTimes K) op_times (pv 5) (pe_ix (r := rIx K) ix_seq (pv 3) pe_int (fun _ _ => rfl))) (pe_op (r := rTimes K) op_times (pe_ix (r := rIx K) ix_seq (pv 3) pe_int (fun _ _ => rfl)) (pv 6)) (nomark _)))))
    (pss_one (ps_set (i := 3) sc__law_best.nd rfl (by first | exact Or.inl rfl | exact Or.inr rfl) (pe_tup (pa_cons (pv 4) (pa_cons (pv 5) (pa_cons (pv 6) pa_nil))))))
    pss_nil))))
    (pss_one (ps_ret (pv 3))))), ?_⟩
  refine body_d (Nm := ["_law_rows", "_law_leave", "_law_extra", "_law_best_here", "_law_some", "_law_got", "_law_most", "_law_one"]) inferInstance ?_ h
  clear h
  rintro ss μ Q ⟨rows, d, ex, rfl, rfl, hD, q⟩
  have hD' := hD
  obtain ⟨hr, h2, h3, h4, h5⟩ := hD'
  have hr' := hr
  obtain ⟨⟨l1, l2⟩, hall⟩ := hr'
  obtain ⟨m1, m2⟩ := mnK_ok (n := rows.length) (d := d) (by omega) h2
  have hm : 1 ≤ (mnK rows.length d).toNat := by omega
  have hm5 : (rows.length : Int) - mnK rows.length d ≤ 5 := by unfold mnK; split <;> omega
  have hT := kp_kept hD
  refine dstart (ρ' := [some _, some _, some _, none, none, none, none, none]) rfl (b := 0) rfl ?_
  repeat' (walk_at "W")
  have eM : (if (rows.length : Int) - d > 1 then (rows.length : Int) - d else 1) = mnK rows.length d := rfl
  rw [eM]
  have hL3 : ∀ l, l ∈ lotsF ((rows.length : Int) - mnK rows.length d).toNat (mnK rows.length d).toNat ↔ l.Pairwise (· < ·) ∧ Lot rows.length (mnK rows.length d).toNat l := fun l => by
    rw [show ((rows.length : Int) - mnK rows.length d).toNat = rows.length - (mnK rows.length d).toNat by omega]
    exact lots_all (by omega) l
  have hL2 := lots_lt ((rows.length : Int) - mnK rows.length d).toNat (mnK rows.length d).toNat
  repeat' (walk_at "W")
  generalize lotsF ((rows.length : Int) - mnK rows.length d).toNat (mnK rows.length d).toNat = L at *
  refine loop_of tupI (fun i ρ μ => ∃ v3 v4 v5 v6 v7, ρ = [some (.d (.tup (rows.map rowD))), some (.d (.int d)), some (.d (.int ex)), some (.d v3), v4, v5, v6, v7] ∧ μ = [] ∧ (i = 0 ∧ v3 = .non ∨ ∃ B, v3 = .tup [.tup (B.map .int), .int (sp rows B + ex), .int (sq rows B)] ∧ Best rows ex (L.take i) B)) ⟨_, _, _, _, _, rfl, rfl, .inl ⟨rfl, rfl⟩⟩ ?_ ?_
  · rintro i l k ρ μ hl ⟨v3, v4, v5, v6, v7, rfl, rfl, hv⟩ ih
    have hlm : l ∈ L := List.mem_of_getElem? hl
    obtain ⟨r1, r2⟩ := (hL3 l).mp hlm
    obtain ⟨s1, s2, s3, s4, s5⟩ := lot_sums hr hm r2 h4 (by omega)
    have hg := r2.rg
    have ht : L.take (i + 1) = L.take i ++ [l] := by
      obtain ⟨hi, rfl⟩ := List.getElem?_eq_some_iff.mp hl
      exact List.take_succ_eq_append_getElem hi
    have es : ex + (l.map (rp rows)).sum = sp rows l + ex := by unfold sp; omega
    have eq_ : (l.map (rq rows)).sum = sq rows l := rfl
    unfold tupI
    repeat' (walk_at "W")
    refine lc_of .int (fun k => .int (rp rows k)) (by omega) (fun k acc q hr ha hq => ?_) ?_
    · obtain ⟨k0, k1⟩ := hg k hr
      repeat' (walk_at "W")
      exact hq
    repeat' (walk_at "W")
    refine lc_of .int (fun k => .int (rq rows k)) (by omega) (fun k acc q hr ha hq => ?_) ?_
    · obtain ⟨k0, k1⟩ := hg k hr
      repeat' (walk_at "W")
      exact hq
    rw [es]
    have s3' : 1 ≤ (l.map (rq rows)).sum := s3
    have s4' : (l.map (rq rows)).sum < 2 ^ 150 := s4
    rcases hv with ⟨rfl, rfl⟩ | ⟨B, rfl, hB⟩
    · repeat' (walk_at "W")
      refine ih _ _ ⟨_, _, _, _, _, rfl, rfl, .inr ⟨l, rfl, ?_, fun S hS => ?_⟩⟩
      · rw [ht]; simp
      · rw [ht] at hS
        simp at hS
        subst hS
        exact .inr ⟨Int.le_refl _, Std.le_refl _⟩
    · have hBL : B ∈ L := List.mem_of_mem_take hB.mem
      obtain ⟨t1, t2⟩ := (hL3 B).mp hBL
      obtain ⟨u1, u2, u3, u4, u5⟩ := lot_sums hr hm t2 h4 (by omega)
      repeat' (walk_at "W")
      · rename_i hc
        refine ih _ _ ⟨_, _, _, _, _, rfl, rfl, .inr ⟨l, rfl, ?_, fun S hS => ?_⟩⟩
        · rw [ht]; simp
        · rw [ht] at hS
          rcases List.mem_append.mp hS with hS | hS
          · obtain ⟨x1, x2⟩ := (hL3 S).mp (List.mem_of_mem_take hS)
            obtain ⟨y1, y2, y3, y4, y5⟩ := lot_sums hr hm x2 h4 (by omega)
            refine .inl (lt_trans_mk (q' := sq rows B) (p' := sp rows B + ex) (by omega) (by omega) (by omega) ?_ hc)
            rcases hB.best S hS with z | ⟨z, _⟩ <;> omega
          · rw [List.mem_singleton.mp hS]
            exact .inr ⟨Int.le_refl _, Std.le_refl _⟩
      · rename_i hc
        refine ih _ _ ⟨_, _, _, _, _, rfl, rfl, .inr ⟨B, rfl, ?_, fun S hS => ?_⟩⟩
        · rw [ht]; exact List.mem_append_left _ hB.mem
        · rw [ht] at hS
          rcases List.mem_append.mp hS with hS | hS
          · exact hB.best S hS
          · rw [List.mem_singleton.mp hS]
            refine .inr ⟨hc, ?_⟩
            have hd : L.drop i = l :: L.drop (i + 1) := by
              obtain ⟨hi, rfl⟩ := List.getElem?_eq_some_iff.mp hl
              exact List.drop_eq_getElem_cons hi
            rw [← List.take_append_drop i L, hd] at hL2
            exact Std.le_of_lt ((List.pairwise_append.mp hL2).2.2 B hB.mem l (by simp))
  · rintro ρ μ ⟨v3, v4, v5, v6, v7, rfl, rfl, hv⟩
    rcases hv with ⟨e, rfl⟩ | ⟨B, rfl, hB⟩
    · exfalso
      have := (hL3 _).mpr ⟨hT.lt, hT.lot⟩
      rw [List.length_eq_zero_iff.mp e] at this
      cases this
    · rw [List.take_length] at hB
      have e := best_kept_eq hm hr hL3 hB hT
      rw [e]
      repeat' (walk_at "W")
      exact q
end

theorem lnO : (Str.ofString "").length = 0 := by decide
local macro_rules | `(tactic| walk_at "AX") => `(tactic| (refine Nat.le_trans (m := 1000) ?_ (by decide); simp only [strLen_append, lnE, lnC, lnS, lnO]; omega))
section
variable {P : Program} {w : World} {K : PySem.W.Frag} {mg : Str → Option Value} {base : Heap}
theorem sc__law_told : FnScope ["_law_tasks", "_law_ruled", "_law_outcomes", "_law_leave", "_law_scores", "_law_task", "_law_rule_here", "_law_outcome", "_law_counted", "_law_at", "_law_rows", "_law_extra", "_law_best_here", "_law_kept", "_law_steps", "_law_place", "_law_word"] ["_law_tasks", "_law_ruled", "_law_outcomes", "_law_leave"] (defScope (top 77)) := ⟨rfl, rfl, rfl, by decide +kernel, rfl, by decide +kernel, by decide +kernel⟩
theorem ok__law_told (T : Tx K mg) (G__law_best : Fg P w K mg base CX0 2 T.f__law_best T.fd__law_best ["_law_rows", "_law_leave", "_law_extra"] (spD K 3 T__law_best)) (G__law_score : Fg P w K mg base CX0 2 T.f__law_score T.fd__law_score ["_law_task", "_law_rule_here", "_law_outcome"] (spD K 3 T__law_score)) :
    Fg P w K mg base CX0 3 T.f__law_told T.fd__law_told ["_law_tasks", "_law_ruled", "_law_outcomes", "_law_leave"] (spD K 4 T__law_told) := by
  refine fg_of0 T.F__law_told sc__law_told (spD_len rfl) (fun cdv A outer s H vs Q E hr hg h => ?_)
  refine ⟨_, (pss_cons (ps_set (i := 4) sc__law_told.nd rfl (by first | exact Or.inl rfl | exact Or.inr rfl) (pe_lc (own := [("_law_task", 5), ("_law_rule_here", 6), ("_law_outcome", 7)]) (g := (gTup K 3 (gCons (gName 5) (gCons (gName 6) (gCons (gName 7) gNil))))) (tt := tYes) rfl sc__law_told.nd (pi_zB3 K rfl rfl T.m_zip (pa_cons (pv 0) (pa_cons (pv 1) (pa_cons (pv 2) pa_nil)))) (blkOk_by (N := ["_law_tasks", "_law_ruled", "_law_outcomes", "_law_leave", "_law_scores", "_law_task", "_law_rule_here", "_law_outcome", "_law_counted", "_law_at", "_law_rows", "_law_extra", "_law_best_here", "_law_kept", "_law_steps", "_law_place", "_law_word"]) (sc := defScope (top 77)) (by decide +kernel)) (fun _ _ _ _ _ => (pg_tupK K 3 rfl rfl (pg_tup rfl (pgs_cons (pg_name (i := 5) sc__law_told.nd rfl (by first | exact Or.inl rfl | exact Or.inr rfl)) (pgs_cons (pg_name (i := 6) sc__law_told.nd rfl (by first | exact Or.inl rfl | exact Or.inr rfl)) (pgs_cons (pg_name (i := 7) sc__law_told.nd rfl (by first | exact Or.inl rfl | exact Or.inr rfl)) pgs_nil)))))) (fun _ _ _ _ _ => pts_nil) (fun _ _ _ _ _ => (pg_call G__law_score (hr.mono (by decide)) hg rfl T.m__law_score T.F__law_score.kp T.b__law_score .nil pass0 (pa_cons (pv 5) (pa_cons (pv 6) (pa_cons (pv 7) pa_nil)))))))
    (pss_cons (ps_set (i := 8) sc__law_told.nd rfl (by first | exact Or.inl rfl | exact Or.inr rfl) (pe_lc (own := [("_law_at", 9), ("_law_task", 5)]) (g := (gTup K 2 (gCons (gName 9) (gCons (gName 5) gNil)))) (tt := _) rfl sc__law_told.nd (pi_enumT K rfl rfl T.m_enumerate (pv 0)) (blkOk_by (N := ["_law_tasks", "_law_ruled", "_law_outcomes", "_law_leave", "_law_scores", "_law_task", "_law_rule_here", "_law_outcome", "_law_counted", "_law_at", "_law_rows", "_law_extra", "_law_best_here", "_law_kept", "_law_steps", "_law_place", "_law_word"]) (sc := defScope (top 77)) (by decide +kernel)) (fun _ _ _ _ _ => (pg_tupK K 2 rfl rfl (pg_tup rfl (pgs_cons (pg_name (i := 9) sc__law_told.nd rfl (by first | exact Or.inl rfl | exact Or.inr rfl)) (pgs_cons (pg_name (i := 5) sc__law_told.nd rfl (by first | exact Or.inl rfl | exact Or.inr rfl)) pgs_nil))))) (fun _ _ _ _ _ => (pts_one (PW.pt (pw_and (pt_not (pt_val (pe_ix (r := rIx K) ix_seq (pv 5) pe_int (fun _ _ => rfl)))) (pw_and1 (pt_cmpR op_notNo (pe_ix (r := rIx K) ix_seq (pv 4) (pv 9) (fun _ _ => rfl)) pe_non (nomark _))))))) (fun _ _ _ _ _ => (pv 9))))
    (pss_cons (ps_set (i := 10) sc__law_told.nd rfl (by first | exact Or.inl rfl | exact Or.inr rfl) (pe_callTy (r := rTupOf K) call_tupled (by rfl) T.m_tuple (by decide +kernel) (pa_cons (pe_lc (own := [("_law_at", 9)]) (g := (gName 9)) (tt := tYes) rfl sc__law_told.nd (pi_seqK K rfl (pi_seq (pv 8))) (blkOk_by (N := ["_law_tasks", "_law_ruled", "_law_outcomes", "_law_leave", "_law_scores", "_law_task", "_law_rule_here", "_law_outcome", "_law_counted", "_law_at", "_law_rows", "_law_extra", "_law_best_here", "_law_kept", "_law_steps", "_law_place", "_law_word"]) (sc := defScope (top 77)) (by decide +kernel)) (fun _ _ _ _ _ => (pg_name (i := 9) sc__law_told.nd rfl (by first | exact Or.inl rfl | exact Or.inr rfl))) (fun _ _ _ _ _ => pts_nil) (fun _ _ _ _ _ => (pe_tup (pa_cons (pe_ix (r := rIx K) ix_seq (pv 4) (pv 9) (fun _ _ => rfl)) (pa_cons (pe_ix (r := rIx K) ix_seq (pe_ix (r := rIx K) ix_seq (pv 0) (pv 9) (fun _ _ => rfl)) pe_int (fun _ _ => rfl)) pa_nil))))) pa_nil)))
    (pss_cons (ps_set (i := 11) sc__law_told.nd rfl (by first | exact Or.inl rfl | exact Or.inr rfl) (pe_callB (r := rSum K) (cr_sum rfl) (by rfl) T.m_sum (by decide +kernel) (pa_cons (pe_lc (own := [("_law_at", 9), ("_law_task", 5)]) (g := (gTup K 2 (gCons (gName 9) (gCons (gName 5) gNil)))) (tt := _) rfl sc__law_told.nd (pi_enumT K rfl rfl T.m_enumerate (pv 0)) (blkOk_by (N := ["_law_tasks", "_law_ruled", "_law_outcomes", "_law_leave", "_law_scores", "_law_task", "_law_rule_here", "_law_outcome", "_law_counted", "_law_at", "_law_rows", "_law_extra", "_law_best_here", "_law_kept", "_law_steps", "_law_place", "_law_word"]) (sc := defScope (top 77)) (by decide +kernel)) (fun _ _ _ _ _ => (pg_tupK K 2 rfl rfl (pg_tup rfl (pgs_cons (pg_name (i := 9) sc__law_told.nd rfl (by first | exact Or.inl rfl | exact Or.inr rfl)) (pgs_cons (pg_name (i := 5) sc__law_told.nd rfl (by first | exact Or.inl rfl | exact Or.inr rfl)) pgs_nil))))) (fun _ _ _ _ _ => (pts_one (PW.pt (pw_and (pt_val (pe_ix (r := rIx K) ix_seq (pv 5) pe_int (fun _ _ => rfl))) (pw_and1 (pt_cmpR op_notNo (pe_ix (r := rIx K) ix_seq (pv 4) (pv 9) (fun _ _ => rfl)) pe_non (nomark _))))))) (fun _ _ _ _ _ => (pe_ix (r := rIx K) ix_seq (pv 4) (pv 9) (fun _ _ => rfl)))) pa_nil)))
    (pss_cons (ps_set (i := 12) sc__law_told.nd rfl (by first | exact Or.inl rfl | exact Or.inr rfl) (pe_ifExp (pt_cmpR (r := rUnlike K) (op_unlike hr.units) (pv 10) (pe_tup pa_nil) (nomark _)) (pg_call G__law_best (hr.mono (by decide)) hg rfl T.m__law_best T.F__law_best.kp T.b__law_best .nil pass0 (pa_cons (pv 10) (pa_cons (pv 3) (pa_cons (pv 11) pa_nil)))) (pe_tup (pa_cons (pe_tup pa_nil) (pa_cons pe_int (pa_cons pe_int pa_nil))))))
    (pss_cons (ps_parM (ps_par (i := 13) (j := 14) (by rfl) sc__law_told.nd rfl rfl (by decide) rfl rfl (pa_cons (pe_lc (own := [("_law_place", 15)]) (g := (gName 15)) (tt := tYes) rfl sc__law_told.nd (pi_seqK K rfl (pi_seq (pe_ix (r := rIx K) ix_seq (pv 12) pe_int (fun _ _ => rfl)))) (blkOk_by (N := ["_law_tasks", "_law_ruled", "_law_outcomes", "_law_leave", "_law_scores", "_law_task", "_law_rule_here", "_law_outcome", "_law_counted", "_law_at", "_law_rows", "_law_extra", "_law_best_here", "_law_kept", "_law_steps", "_law_place", "_law_word"]) (sc := defScope (top 77)) (by decide +kernel)) (fun _ _ _ _ _ => (pg_name (i := 15) sc__law_told.nd rfl (by first | exact Or.inl rfl | exact Or.inr rfl))) (fun _ _ _ _ _ => pts_nil) (fun _ _ _ _ _ => (pe_ix (r := rIx K) ix_seq (pv 8) (pv 15) (fun _ _ => rfl)))) (pa_consM (pe_lst pa_nil) pa_nil)) (by rfl)))
    (pss_cons (ps_for PassesOwn.never rfl (pi_enumT K rfl rfl T.m_enumerate (pv 0)) (pg_tupK K 2 rfl rfl (pg_tup rfl (pgs_cons (pg_name (i := 9) sc__law_told.nd rfl (by first | exact Or.inl rfl | exact Or.inr rfl)) (pgs_cons (pg_name (i := 5) sc__law_told.nd rfl (by first | exact Or.inl rfl | exact Or.inr rfl)) pgs_nil))))
    (pss_cons (ps_set (i := 16) sc__law_told.nd rfl (by first | exact Or.inl rfl | exact Or.inr rfl) (pe_ifExp (pt_val (pe_ix (r := rIx K) ix_seq (pv 5) pe_int (fun _ _ => rfl))) pe_str (pe_ifExp (pt_cmpR (r := rIn K false) op_in_seq (pv 9) (pv 13) (by rfl)) pe_str pe_str)))
    (pss_one (ps_expr (pe_bmK K rfl (pe_bm PySem.F.plainAttrs_list PySem.F.slot_list_append PySem.F.type_list_append mt_append (pv 14) (pa_cons (pe_tup (pa_cons (pv 9) (pa_cons (pe_ifExp (pt_cmpR op_notNo (pe_ix (r := rIx K) ix_seq (pv 4) (pv 9) (fun _ _ => rfl)) pe_non (nomark _)) (pv 16) pe_str) (pa_cons (pe_ix (r := rIx K) ix_seq (pv 4) (pv 9) (fun _ _ => rfl)) (pa_cons (pe_ix (r := rIx K) ix_seq (pv 5) pe_int (fun _ _ => rfl)) pa_nil))))) pa_nil)))))))
    (pss_frz (i := 14) (pss_one (ps_ret (pe_tup (pa_cons (pv 10) (pa_cons (pv 11) (pa_cons (pe_ifExp (pt_cmpR (r := rUnlike K) (op_unlike hr.units) (pv 10) (pe_tup pa_nil) (nomark _)) (pe_slice (r := rCut K) sl_cut (pv 12) (po_some pe_int) po_none) pe_non) (pa_cons (pv 14) pa_nil))))))))))))))), ?_⟩
  refine body_d (Nm := ["_law_tasks", "_law_ruled", "_law_outcomes", "_law_leave", "_law_scores", "_law_task", "_law_rule_here", "_law_outcome", "_law_counted", "_law_at", "_law_rows", "_law_extra", "_law_best_here", "_law_kept", "_law_steps", "_law_place", "_law_word"]) inferInstance ?_ h
  clear h
  rintro ss μ Q ⟨es, dr, rfl, rfl, hS, ⟨d0, d1⟩, q⟩
  have hx := ex_range hS
  have hl := rows_len es
  have hS' := hS
  obtain ⟨l0, l1, hall, hup⟩ := hS'
  have hrl : (rowsF es).length = (cntP es).length := by unfold rowsF; rw [List.length_map]
  refine dstart (ρ' := [some _, some _, some _, some _, none, none, none, none, none, none, none, none, none, none, none, none, none]) rfl (b := 0) rfl ?_
  repeat' (walk_at "W")
  refine ⟨by simp, by simp, ?_⟩
  rw [zip3D_map]
  refine ⟨rfl, ?_⟩
  refine lc_of (xs := es) (fun e => .tup [tkD e.t, rlD e.r, resD e.o]) (fun e => scD (scF e)) (by omega) (fun r acc q hr ha hq => ?_) ?_
  · obtain ⟨w1, w2, w3⟩ := hall r hr
    repeat' (walk_at "W")
    exact hq
  repeat' (walk_at "W")
  rw [enD_map]
  refine lc_fof (xs := es.zipIdx) (fun p => .tup [.int (p.2 : Nat), tkD p.1.t]) (fun p => .int (p.2 : Nat)) (fun p => cntB p.1) (by rw [List.length_zipIdx]; omega) (fun r acc q hr ha hy hn => ?_) ?_
  · have hz := zip_at hr
    have hA := AtM.nat hz
    obtain ⟨⟨t, ru, o⟩, i⟩ := r
    repeat' (walk_at "W")
    · rename_i h1 h2
      exact hy (cnt_t h2 h1)
    · rename_i h1 h2
      exact hn (cnt_f2 h2)
    · rename_i h1
      exact hn (cnt_f1 h1)
  repeat' (walk_at "W")
  refine lc_of (xs := cntP es) (fun p => .int (p.2 : Nat)) (fun p => rowD (rowF p.1)) (by omega) (fun r acc q hr ha hq => ?_) ?_
  · obtain ⟨hz, hb⟩ := cntP_at hr
    have hA := AtM.nat hz
    have hs := sc_get hb
    repeat' (walk_at "W")
    rw [hs]
    exact hq
  repeat' (walk_at "W")
  rw [enD_map]
  refine lc_fof (xs := es.zipIdx) (fun p => .tup [.int (p.2 : Nat), tkD p.1.t]) (fun p => .int ((scF p.1).getD 0)) (fun p => p.1.t.x && (scF p.1).isSome) (by rw [List.length_zipIdx]; omega) (fun r acc q hr ha hy hn => ?_) ?_
  · have hz := zip_at hr
    have hA := AtM.nat hz
    repeat' (walk_at "W")
    · rename_i h1 h2
      obtain ⟨g1, g2⟩ := non_get h2
      rw [g1]
      exact hy (by rw [h1, g2]; rfl)
    · rename_i h1 h2
      exact hn (by rw [non_no h2, Bool.and_false])
    · rename_i h1
      exact hn (by rw [h1]; rfl)
  have eX : ((es.zipIdx.filter fun p => p.1.t.x && (scF p.1).isSome).map fun p => (scF p.1).getD 0).sum = exF es := by
    rw [zip_filter (fun e : Wk => e.t.x && (scF e).isSome) (fun e => (scF e).getD 0)]; rfl
  have eR : (cntP es).map (fun p => rowD (rowF p.1)) = (rowsF es).map rowD := by unfold rowsF; rw [List.map_map]; rfl
  rw [eR]
  repeat' (walk_at "W")
  · rename_i hE
    rw [eX]
    have hn : rowsF es ≠ [] := fun e => by rw [e] at hE; cases hE
    have hD := hS.dr d0 d1 hn
    obtain ⟨s1, s3, s5, s6, s7⟩ := kp_sums hD
    have eT : mkT es dr = .tup [.int (kpP (rowsF es) dr (exF es)), .int (kpM (rowsF es) dr (exF es))] := by unfold mkT; rw [if_neg hn]
    refine ⟨hD, ?_⟩
    repeat' (walk_at "W")
    refine lc_of (xs := kpF (rowsF es) dr (exF es)) .int (fun k => .int ((((cntP es).map (·.2)).getD k.toNat 0 : Nat) : Int)) (by omega) (fun r acc q hr ha hq => ?_) ?_
    · obtain ⟨x0, x1⟩ := s6 r hr
      rw [hrl] at x1
      obtain ⟨p, hA, hm⟩ := atM_in x0 x1
      have ex : ((cntP es).map (·.2)).getD r.toNat 0 = p.2 := by rw [List.getD_eq_getElem?_getD, List.getElem?_map, hA.eq]; rfl
      rw [ex] at hq
      have hA' : AtM (es.zipIdx.filter fun p => cntB p.1) r p := hA
      repeat' (walk_at "W")
      exact hq
    have eK : (kpF (rowsF es) dr (exF es)).map (fun k => D.int ((((cntP es).map (·.2)).getD k.toNat 0 : Nat) : Int)) = (kpJ es dr).map fun k : Nat => .int (k : Int) := by
      unfold kpJ
      rw [if_neg hn]
      unfold kpI
      rw [List.map_map]; rfl
    rw [eK]
    repeat' (walk_at "W")
    rw [enD_map]
    refine loop_of (xs := es.zipIdx) (fun p => .tup [.int (p.2 : Nat), tkD p.1.t]) (fun j ρ μ => ∃ v5 v9 v15 v16, ρ = [some (.d (.tup (es.map fun e => tkD e.t))), some (.d (.tup (es.map fun e => rlD e.r))), some (.d (.tup (es.map fun e => resD e.o))), some (.d (.int dr)), some (.d (.lst (es.map fun e => scD (scF e)))), v5, none, none, some (.d (.lst ((cntP es).map fun p => .int (p.2 : Nat)))), v9, some (.d (.tup ((rowsF es).map rowD))), some (.d (.int (exF es))), some (.d (.tup [.tup ((kpF (rowsF es) dr (exF es)).map .int), .int (kpP (rowsF es) dr (exF es)), .int (kpM (rowsF es) dr (exF es))])), some (.d (.lst ((kpJ es dr).map fun k : Nat => .int (k : Int)))), some (.cel 0), v15, v16] ∧ μ = [some (.lst ((es.zipIdx.take j).map (stepD es dr)))]) ⟨_, _, _, _, rfl, rfl⟩ ?_ ?_
    · rintro j p k ρ μ hp ⟨v5, v9, v15, v16, rfl, rfl⟩ ih
      have hz := zip_at (List.mem_of_getElem? hp)
      have hA := AtM.nat hz
      have hw := wordsF_at hS d0 d1 hz
      have hll : ((es.zipIdx.take j).map (stepD es dr)).length < 1000 := by rw [List.length_map, List.length_take, List.length_zipIdx]; omega
      have nx : ∀ d : D, d = (wordsF es dr).getD p.2 .non → ∀ v5 v9 v15 v16, k [some (.d (.tup (es.map fun e => tkD e.t))), some (.d (.tup (es.map fun e => rlD e.r))), some (.d (.tup (es.map fun e => resD e.o))), some (.d (.int dr)), some (.d (.lst (es.map fun e => scD (scF e)))), v5, none, none, some (.d (.lst ((cntP es).map fun p => .int (p.2 : Nat)))), v9, some (.d (.tup ((rowsF es).map rowD))), some (.d (.int (exF es))), some (.d (.tup [.tup ((kpF (rowsF es) dr (exF es)).map .int), .int (kpP (rowsF es) dr (exF es)), .int (kpM (rowsF es) dr (exF es))])), some (.d (.lst ((kpJ es dr).map fun k : Nat => .int (k : Int)))), some (.cel 0), v15, v16] [some (.lst ((es.zipIdx.take j).map (stepD es dr) ++ [.tup [.int (p.2 : Nat), d, scD (scF p.1), .int p.1.t.m]]))] := fun d hd v5 v9 v15 v16 => by
        refine ih _ _ ⟨_, _, _, _, rfl, ?_⟩
        rw [List.take_add_one, hp, List.map_append, hd]; rfl
      have hin : ((p.2 : Nat) : Int) ∈ (kpJ es dr).map (fun k : Nat => (k : Int)) ↔ p.2 ∈ kpJ es dr := by
        rw [List.mem_map]
        constructor
        · rintro ⟨k, hk, e⟩
          rwa [show p.2 = k by omega]
        · exact fun h => ⟨_, h, rfl⟩
      repeat' (walk_at "W")
      all_goals (refine nx _ ?_ _ _ _ _; rw [hw]; first | exact word_ex (by assumption) | exact word_x (by assumption) (by assumption) | exact word_k (by assumption) (by assumption) (hin.mp (by assumption)) | exact word_d (by assumption) (by assumption) (fun z => absurd (hin.mpr z) (by assumption)))
    · rintro ρ μ ⟨v5, v9, v15, v16, rfl, rfl⟩
      have eZ : es.zipIdx.take es.zipIdx.length = es.zipIdx := List.take_length
      rw [eZ]
      repeat' (walk_at "W")
      all_goals first
        | (rename_i hc; exfalso; rw [hE] at hc; exact absurd hc (by decide))
        | (rw [eT] at q; exact q)
        | trace_state
  · rename_i hE
    rw [eX]
    have hn : rowsF es = [] := List.isEmpty_iff.mp hE
    have eT : mkT es dr = .non := by unfold mkT; rw [if_pos hn]
    have eK : ([] : List D) = (kpJ es dr).map fun k : Nat => .int (k : Int) := by
      unfold kpJ
      rw [if_pos hn]; rfl
    rw [enD_map]
    refine loop_of (xs := es.zipIdx) (fun p => .tup [.int (p.2 : Nat), tkD p.1.t]) (fun j ρ μ => ∃ v5 v9 v15 v16, ρ = [some (.d (.tup (es.map fun e => tkD e.t))), some (.d (.tup (es.map fun e => rlD e.r))), some (.d (.tup (es.map fun e => resD e.o))), some (.d (.int dr)), some (.d (.lst (es.map fun e => scD (scF e)))), v5, none, none, some (.d (.lst ((cntP es).map fun p => .int (p.2 : Nat)))), v9, some (.d (.tup ((rowsF es).map rowD))), some (.d (.int (exF es))), some (.d (.tup [.tup [], .int 0, .int 0])), some (.d (.lst ((kpJ es dr).map fun k : Nat => .int (k : Int)))), some (.cel 0), v15, v16] ∧ μ = [some (.lst ((es.zipIdx.take j).map (stepD es dr)))]) ⟨_, _, _, _, (by rw [← eK]; rfl), rfl⟩ ?_ ?_
    · rintro j p k ρ μ hp ⟨v5, v9, v15, v16, rfl, rfl⟩ ih
      have hz := zip_at (List.mem_of_getElem? hp)
      have hA := AtM.nat hz
      have hw := wordsF_at hS d0 d1 hz
      have hll : ((es.zipIdx.take j).map (stepD es dr)).length < 1000 := by rw [List.length_map, List.length_take, List.length_zipIdx]; omega
      have nx : ∀ d : D, d = (wordsF es dr).getD p.2 .non → ∀ v5 v9 v15 v16, k [some (.d (.tup (es.map fun e => tkD e.t))), some (.d (.tup (es.map fun e => rlD e.r))), some (.d (.tup (es.map fun e => resD e.o))), some (.d (.int dr)), some (.d (.lst (es.map fun e => scD (scF e)))), v5, none, none, some (.d (.lst ((cntP es).map fun p => .int (p.2 : Nat)))), v9, some (.d (.tup ((rowsF es).map rowD))), some (.d (.int (exF es))), some (.d (.tup [.tup [], .int 0, .int 0])), some (.d (.lst ((kpJ es dr).map fun k : Nat => .int (k : Int)))), some (.cel 0), v15, v16] [some (.lst ((es.zipIdx.take j).map (stepD es dr) ++ [.tup [.int (p.2 : Nat), d, scD (scF p.1), .int p.1.t.m]]))] := fun d hd v5 v9 v15 v16 => by
        refine ih _ _ ⟨_, _, _, _, rfl, ?_⟩
        rw [List.take_add_one, hp, List.map_append, hd]; rfl
      have hin : ((p.2 : Nat) : Int) ∈ (kpJ es dr).map (fun k : Nat => (k : Int)) ↔ p.2 ∈ kpJ es dr := by
        rw [List.mem_map]
        constructor
        · rintro ⟨k, hk, e⟩
          rwa [show p.2 = k by omega]
        · exact fun h => ⟨_, h, rfl⟩
      repeat' (walk_at "W")
      all_goals (refine nx _ ?_ _ _ _ _; rw [hw]; first | exact word_ex (by assumption) | exact word_x (by assumption) (by assumption) | exact word_k (by assumption) (by assumption) (hin.mp (by assumption)) | exact word_d (by assumption) (by assumption) (fun z => absurd (hin.mpr z) (by assumption)))
    · rintro ρ μ ⟨v5, v9, v15, v16, rfl, rfl⟩
      have eZ : es.zipIdx.take es.zipIdx.length = es.zipIdx := List.take_length
      rw [eZ]
      repeat' (walk_at "W")
      all_goals first
        | (rename_i hc; exfalso; rw [hE] at hc; exact absurd hc (by decide))
        | (rw [eT] at q; exact q)
        | trace_state
theorem sc__law_parts : FnScope ["_law_state_here", "_law_most", "_law_tasks", "_law_rule_here", "_law_ruled", "_law_task"] ["_law_state_here", "_law_most"] (defScope (top 78)) := ⟨rfl, rfl, rfl, by decide +kernel, rfl, by decide +kernel, by decide +kernel⟩
theorem ok__law_parts (T : Tx K mg) (G__law_result : Fg P w K mg base CX0 6 T.f__law_result T.fd__law_result ["_law_state_here", "_law_task"] (spD K 2 T__law_result)) (G__law_rule : Fg P w K mg base CX0 2 T.f__law_rule T.fd__law_rule ["_law_state_here"] (spD K 1 T__law_rule)) (G__law_take : Fg P w K mg base CX0 1 T.f__law_take T.fd__law_take ["_law_state_here", "_law_many"] (spD K 2 T__law_take)) (G__law_works : Fg P w K mg base CX0 2 T.f__law_works T.fd__law_works ["_law_state_here", "_law_most"] (spD K 2 T__law_works)) :
    Fg P w K mg base CX0 7 T.f__law_parts T.fd__law_parts ["_law_state_here", "_law_most"] (spD K 2 T__law_parts) := by
  refine fg_of0 T.F__law_parts sc__law_parts (spD_len rfl) (fun cdv A outer s H vs Q E hr hg h => ?_)
  refine ⟨_, (pss_cons (ps_set (i := 2) sc__law_parts.nd rfl (by first | exact Or.inl rfl | exact Or.inr rfl) (pg_call G__law_works (hr.mono (by decide)) hg rfl T.m__law_works T.F__law_works.kp T.b__law_works .nil pass0 (pa_cons (pv 0) (pa_cons (pv 1) pa_nil))))
    (pss_cons (ps_parM (ps_par (i := 3) (j := 4) (by rfl) sc__law_parts.nd rfl rfl (by decide) rfl rfl (pa_cons (pg_call G__law_rule (hr.mono (by decide)) hg rfl T.m__law_rule T.F__law_rule.kp T.b__law_rule .nil pass0 (pa_cons (pv 0) pa_nil)) (pa_consM (pe_lst pa_nil) pa_nil)) (by rfl)))
    (pss_cons (ps_for PassesOwn.never rfl (pi_seqK K rfl (pi_seq (pv 2))) (pg_name (i := 5) sc__law_parts.nd rfl (by first | exact Or.inl rfl | exact Or.inr rfl))
    (pss_one (ps_expr (pe_bmK K rfl (pe_bm PySem.F.plainAttrs_list PySem.F.slot_list_append PySem.F.type_list_append mt_append (pv 4) (pa_cons (pe_ix (r := rIx K) ix_seq (pe_lst (pa_cons (pv 3) (pa_cons (pg_call G__law_rule (hr.mono (by decide)) hg rfl T.m__law_rule T.F__law_rule.kp T.b__law_rule .nil pass0 (pa_cons (pv 0) pa_nil)) pa_nil))) (pe_callTy call_inted (by rfl) T.m_int (by decide +kernel) (pa_cons (pe_cmpR (r := rSame K) (op_same hr.units) (pg_call G__law_take (hr.mono (by decide)) hg rfl T.m__law_take T.F__law_take.kp T.b__law_take .nil pass0 (pa_cons (pv 0) (pa_cons pe_int pa_nil))) pe_int (nomark _)) pa_nil)) (fun _ _ => rfl)) pa_nil))))))
    (pss_frz (i := 4) (pss_one (ps_ret (pe_tup (pa_cons (pv 2) (pa_cons (pe_callTy (r := rTupOf K) call_tupled (by rfl) T.m_tuple (by decide +kernel) (pa_cons (pv 4) pa_nil)) (pa_cons (pe_callTy (r := rTupOf K) call_tupled (by rfl) T.m_tuple (by decide +kernel) (pa_cons (pe_lc (own := [("_law_task", 5)]) (g := (gName 5)) (tt := tYes) rfl sc__law_parts.nd (pi_seqK K rfl (pi_seq (pv 2))) (blkOk_by (N := ["_law_state_here", "_law_most", "_law_tasks", "_law_rule_here", "_law_ruled", "_law_task"]) (sc := defScope (top 78)) (by decide +kernel)) (fun _ _ _ _ _ => (pg_name (i := 5) sc__law_parts.nd rfl (by first | exact Or.inl rfl | exact Or.inr rfl))) (fun _ _ _ _ _ => pts_nil) (fun _ _ _ _ _ => (pg_call G__law_result (hr.mono (by decide)) hg rfl T.m__law_result T.F__law_result.kp T.b__law_result .nil pass0 (pa_cons (pv 0) (pa_cons (pv 5) pa_nil))))) pa_nil)) (pa_cons (pg_call G__law_take (hr.mono (by decide)) hg rfl T.m__law_take T.F__law_take.kp T.b__law_take .nil pass0 (pa_cons (pv 0) (pa_cons pe_int pa_nil))) pa_nil))))))))))), ?_⟩
  refine body_d (Nm := ["_law_state_here", "_law_most", "_law_tasks", "_law_rule_here", "_law_ruled", "_law_task"]) inferInstance ?_ h
  clear h
  rintro ss μ Q ⟨c, m, rfl, rfl, hc, ⟨m0, m1⟩, q⟩
  refine dstart (ρ' := [some _, some _, none, none, none, none]) rfl (b := 1) rfl ?_
  repeat' (walk_at "W")
  rename_i ts c1 hW hl hc1 r0 c2 hR0 hc2
  have hW' := hW
  obtain ⟨l0, l1, hall, hup⟩ := hW'
  refine loop_of (xs := ts) tkD (fun i ρ μ => ∃ v5 c' ps, ρ = [some (.cel 0), some (.d (.int m)), some (.d (.tup (ts.map tkD))), some (.d (rlD r0)), some (.cel 1), v5] ∧ μ = [some c', some (.lst (List.map (fun p => rlD p.2) ps))] ∧ IsSt c' ∧ List.map Prod.fst ps = ts.take i ∧ ∀ p ∈ ps, RuOk (Prod.snd p)) ⟨_, _, ([] : List (Tk × Ru)), rfl, rfl, hc2, rfl, (fun _ h => nomatch h)⟩ ?_ ?_
  · rintro i t k ρ μ ht ⟨v5, c', ps, rfl, rfl, hc', hps, hrs⟩ ih
    have ht2 : ts.take (i + 1) = ts.take i ++ [t] := by rw [List.take_add_one, ht]; rfl
    have hpl : ps.length ≤ 12 := by
      have := congrArg List.length hps
      rw [List.length_map, List.length_take] at this
      omega
    have nx : ∀ (r : Ru) c2, RuOk r → IsSt c2 → ∀ v, k [some (.cel 0), some (.d (.int m)), some (.d (.tup (ts.map tkD))), some (.d (rlD r0)), some (.cel 1), v] [some c2, some (.lst (ps.map (fun p => rlD p.2) ++ [rlD r]))] := fun r c2 hr h2 v => by
      refine ih _ _ ⟨_, _, ps ++ [(t, r)], rfl, by rw [List.map_append]; rfl, h2, by rw [List.map_append, hps, ht2]; rfl, fun p hp => ?_⟩
      rcases List.mem_append.mp hp with hp | hp
      · exact hrs p hp
      · rw [List.mem_singleton.mp hp]; exact hr
    repeat' (walk_at "W")
    all_goals first | exact nx _ _ (by assumption) (by assumption) _ | trace_state
  · rintro ρ μ ⟨v5, c', ps, rfl, rfl, hc', hps, hrs⟩
    rw [List.take_length] at hps
    have hpl := congrArg List.length hps
    rw [List.length_map] at hpl
    repeat' (walk_at "W")
    subst hps
    rw [List.map_map]
    refine lc_ind (fun i acc μ => ∃ (os : List Wk) (c' : Cell), acc = os.map (fun e => resD e.o) ∧ os.map (fun e => (e.t, e.r)) = ps.take i ∧ (∀ e ∈ os, ResOk e.t.m e.o) ∧ μ = [some c'] ∧ IsSt c') ⟨[], _, rfl, rfl, (fun _ h => nomatch h), rfl, hc'⟩ ?_ ?_
    · rintro i dd acc μ k hget ⟨os, c2, rfl, hi, hos, rfl, hc2⟩ ih
      rw [List.getElem?_map, Option.map_eq_some_iff] at hget
      obtain ⟨⟨t, r⟩, hp, rfl⟩ := hget
      have hT : TkOk t := hall t (List.mem_map.mpr ⟨(t, r), List.mem_of_getElem? hp, rfl⟩)
      have hol : os.length ≤ 12 := by
        have := congrArg List.length hi
        rw [List.length_map, List.length_take] at this
        omega
      dsimp only [Function.comp]
      repeat' (walk_at "W")
      rename_i o c3 ho hc3
      refine ih _ _ ⟨os ++ [⟨t, r, o⟩], _, by rw [List.map_append]; rfl, ?_, fun e he => ?_, rfl, hc3⟩
      · rw [List.map_append, hi, List.take_add_one, hp]; rfl
      · rcases List.mem_append.mp he with he | he
        · exact hos e he
        · rw [List.mem_singleton.mp he]; exact ho
    · rintro acc μ ⟨os, c2, rfl, hi, hos, rfl, hc2⟩
      rw [List.length_map, List.take_length] at hi
      subst hi
      repeat' (walk_at "W")
      rename_i lost c4 x0 x1 hc4
      have hS : ShOk os := by
        refine ⟨by simpa using l0, by simpa using l1, fun e he => ⟨?_, ?_, hos e he⟩, ?_⟩
        · exact hall e.t (by simp only [List.map_map, List.mem_map]; exact ⟨e, he, rfl⟩)
        · exact hrs (e.t, e.r) (List.mem_map.mpr ⟨e, he, rfl⟩)
        · rw [List.map_map, List.map_map] at hup
          exact hup
      have := q os lost c4 hS (by simpa using hl) x0 (by omega) hc4
      simpa [List.map_map, Function.comp_def] using this
end

section
variable {P : Program} {w : World} {K : PySem.W.Frag} {mg : Str → Option Value} {base : Heap}
theorem sc_law : FnScope ["_law_script", "_law_k", "_law_state_here", "_law_turn", "_law_parts_here", "_law_tasks", "_law_ruled", "_law_marks", "_law_lost", "_law_made_here", "_law_rule_here", "_law_held", "_law_due", "_law_one", "_law_again", "_law_bare"] ["_law_script"] (defScope (top 80)) := ⟨rfl, rfl, rfl, by decide +kernel, rfl, by decide +kernel, by decide +kernel⟩
theorem ok_law (T : Tx K mg) (G_Rules___repr__ : FnOk P w K mg base CX0 1 T.f_Rules___repr__ T.fd_Rules___repr__ ["self"] (spD K 1 (T_Rules___repr__ T.C_Rules))) (G_Sheet___init__ : Fg P w K mg base CX0 8 T.f_Sheet___init__ T.fd_Sheet___init__ ["self", "works", "rules", "results", "drop"] (spD K 5 (T_Sheet___init__ T.C_Sheet T.C_Rules))) (G_Sheet___len__ : Fg P w K mg base CX0 10 T.f_Sheet___len__ T.fd_Sheet___len__ ["self"] (spD K 1 (T_Sheet___len__ T.C_Sheet T.C_Rules))) (G_Sheet_extra : Fg P w K mg base CX0 9 T.f_Sheet_extra T.fd_Sheet_extra ["self"] (spD K 1 (T_Sheet_extra T.C_Sheet T.C_Rules))) (G_Sheet_rows : Fg P w K mg base CX0 9 T.f_Sheet_rows T.fd_Sheet_rows ["self"] (spD K 1 (T_Sheet_rows T.C_Sheet T.C_Rules))) (G__law_made : Fg P w K mg base CX0 6 T.f__law_made T.fd__law_made ["_law_rule_here"] (spD K 1 (T__law_made T.C_Rules))) (G__law_parts : Fg P w K mg base CX0 7 T.f__law_parts T.fd__law_parts ["_law_state_here", "_law_most"] (spD K 2 T__law_parts)) (G__law_same : Fg P w K mg base CX0 8 T.f__law_same T.fd__law_same ["_law_found", "_law_due"] (spD K 2 (TM_same T.C_Rules))) (G__law_state : Fg P w K mg base CX0 2 T.f__law_state T.fd__law_state ["_law_script", "_law_k"] (spN K 2 T__law_state)) (G__law_told : Fg P w K mg base CX0 3 T.f__law_told T.fd__law_told ["_law_tasks", "_law_ruled", "_law_outcomes", "_law_leave"] (spD K 4 T__law_told)) :
    Fg P w K mg base CX0 40 T.f_law T.fd_law ["_law_script"] (spD K 1 T_law) := by
  refine fg_of0 T.F_law sc_law (spD_len rfl) (fun cdv A outer s H vs Q E hr hg h => ?_)
  refine ⟨_, (pss_cons (ps_for PassesOwn.never rfl (pi_range1 rfl T.m_range (pa_cons (pe_callB (call_most rfl) (by rfl) T.m_max (by decide +kernel) (pa_cons pe_int (pa_cons (pe_callB (call_least rfl) (by rfl) T.m_min (by decide +kernel) (pa_cons (pe_callB (r := Cm.rLen K) call_size (by rfl) T.m_len (by decide +kernel) (pa_cons (pv 0) pa_nil)) (pa_cons pe_int pa_nil))) pa_nil))) pa_nil)) (pg_name (i := 1) sc_law.nd rfl (by first | exact Or.inl rfl | exact Or.inr rfl))
    (pss_cons (ps_setM (i := 2) sc_law.nd rfl (by first | exact Or.inl rfl | exact Or.inr rfl) (pg_call G__law_state (hr.mono (by decide)) hg rfl T.m__law_state T.F__law_state.kp T.b__law_state .nil pass0 (pa_cons (pv 0) (pa_cons (pv 1) pa_nil))))
    (pss_one (ps_for PassesOwn.never rfl (pi_range1 rfl T.m_range (pa_cons pe_int pa_nil)) (pg_name (i := 3) sc_law.nd rfl (by first | exact Or.inl rfl | exact Or.inr rfl))
    (pss_cons (ps_set (i := 4) sc_law.nd rfl (by first | exact Or.inl rfl | exact Or.inr rfl) (pg_call G__law_parts (hr.mono (by decide)) hg rfl T.m__law_parts T.F__law_parts.kp T.b__law_parts .nil pass0 (pa_cons (pv 2) (pa_cons pe_int pa_nil))))
    (pss_cons (ps_asg (pv 4) (pg_tupK K 4 rfl rfl (pg_tup rfl (pgs_cons (pg_name (i := 5) sc_law.nd rfl (by first | exact Or.inl rfl | exact Or.inr rfl)) (pgs_cons (pg_name (i := 6) sc_law.nd rfl (by first | exact Or.inl rfl | exact Or.inr rfl)) (pgs_cons (pg_name (i := 7) sc_law.nd rfl (by first | exact Or.inl rfl | exact Or.inr rfl)) (pgs_cons (pg_name (i := 8) sc_law.nd rfl (by first | exact Or.inl rfl | exact Or.inr rfl)) pgs_nil)))))))
    (pss_cons (ps_set (i := 9) sc_law.nd rfl (by first | exact Or.inl rfl | exact Or.inr rfl) (pe_callTy (r := rTupOf K) call_tupled (by rfl) T.m_tuple (by decide +kernel) (pa_cons (pe_lc (own := [("_law_rule_here", 10)]) (g := (gName 10)) (tt := tYes) rfl sc_law.nd (pi_seqK K rfl (pi_seq (pv 6))) (blkOk_by (N := ["_law_script", "_law_k", "_law_state_here", "_law_turn", "_law_parts_here", "_law_tasks", "_law_ruled", "_law_marks", "_law_lost", "_law_made_here", "_law_rule_here", "_law_held", "_law_due", "_law_one", "_law_again", "_law_bare"]) (sc := defScope (top 80)) (by decide +kernel)) (fun _ _ _ _ _ => (pg_name (i := 10) sc_law.nd rfl (by first | exact Or.inl rfl | exact Or.inr rfl))) (fun _ _ _ _ _ => pts_nil) (fun _ _ _ _ _ => (pg_call G__law_made (hr.mono (by decide)) hg rfl T.m__law_made T.F__law_made.kp T.b__law_made .nil pass0 (pa_cons (pv 10) pa_nil)))) pa_nil)))
    (pss_cons (ps_set (i := 11) sc_law.nd rfl (by first | exact Or.inl rfl | exact Or.inr rfl) (pe_callB (r := rOrC _ _) (cr_or (call_reprA hg hr.units) (call_reprM G_Rules___repr__ (hr.mono (by decide)) hg T.rp_Rules T.rf_Rules T.b_Rules___repr__ pass0)) (by rfl) T.m_repr (by decide +kernel) (pa_cons (pe_tup (pa_cons (pv 5) (pa_cons (pv 9) (pa_cons (pv 7) pa_nil)))) pa_nil)))
    (pss_cons (ps_set (i := 12) sc_law.nd rfl (by first | exact Or.inl rfl | exact Or.inr rfl) (pg_call G__law_told (hr.mono (by decide)) hg rfl T.m__law_told T.F__law_told.kp T.b__law_told .nil pass0 (pa_cons (pv 5) (pa_cons (pv 6) (pa_cons (pv 7) (pa_cons (pv 8) pa_nil))))))
    (pss_cons (ps_for PassesOwn.never rfl (pi_seqK K rfl (pi_seq (pe_lst (pa_cons (pg_makeN T.M_Sheet G_Sheet___init__ (hr.mono (by decide)) hg rfl T.m_Sheet T.k5_Sheet___init__ pass0 (pa_cons (pv 5) (pa_cons (pv 9) (pa_cons (pv 7) (pa_cons (pv 8) pa_nil)))) pk_nil) (pa_cons (pg_makeN0 T.M_Sheet G_Sheet___init__ (hr.mono (by decide)) hg rfl T.m_Sheet T.k1_Sheet___init___drop_results_rules_works pass0 (pk_cons (pv 8) (pk_cons (pv 7) (pk_cons (pv 9) (pk_cons (pv 5) pk_nil))))) pa_nil))))) (pg_name (i := 13) sc_law.nd rfl (by first | exact Or.inl rfl | exact Or.inr rfl))
    (pss_cons (ps_if (pt_not (pt_val (pg_call G__law_same (hr.mono (by decide)) hg rfl T.m__law_same T.F__law_same.kp T.b__law_same .nil pass0 (pa_cons (pe_tup (pa_cons (pe_fldK K rfl (pe_fld (pv 13) rfl)) (pa_cons (pe_fldK K rfl (pe_fld (pv 13) rfl)) (pa_cons (pe_fldK K rfl (pe_fld (pv 13) rfl)) (pa_cons (pe_fldK K rfl (pe_fld (pv 13) rfl)) pa_nil))))) (pa_cons (pe_tup (pa_cons (pv 5) (pa_cons (pv 9) (pa_cons (pv 7) (pa_cons (pv 8) pa_nil))))) pa_nil)))))
    (pss_one (ps_ret pe_bl))
    pss_nil)
    (pss_one (ps_for PassesOwn.never rfl (pi_range1 rfl T.m_range (pa_cons pe_int pa_nil)) (pg_name (i := 14) sc_law.nd rfl (by first | exact Or.inl rfl | exact Or.inr rfl))
    (pss_one (ps_if (pt_not (pt_val (pg_call G__law_same (hr.mono (by decide)) hg rfl T.m__law_same T.F__law_same.kp T.b__law_same .nil pass0 (pa_cons (pe_tup (pa_cons (pg_meth0 (pv 13) T.cl_Sheet T.mt_Sheet_rows G_Sheet_rows (hr.mono (by decide)) hg T.b_Sheet_rows .nil pass0) (pa_cons (pg_meth0 (pv 13) T.cl_Sheet T.mt_Sheet_extra G_Sheet_extra (hr.mono (by decide)) hg T.b_Sheet_extra .nil pass0) (pa_cons (pe_callB (call_lenO G_Sheet___len__ (hr.mono (by decide)) hg T.sl_Sheet T.lf_Sheet T.b_Sheet___len__ pass0) (by rfl) T.m_len (by decide +kernel) (pa_cons (pv 13) pa_nil)) pa_nil)))) (pa_cons (pe_tup (pa_cons (pe_ix (r := rIx K) ix_seq (pv 12) pe_int (fun _ _ => rfl)) (pa_cons (pe_ix (r := rIx K) ix_seq (pv 12) pe_int (fun _ _ => rfl)) (pa_cons (pe_callB (r := Cm.rLen K) call_size (by rfl) T.m_len (by decide +kernel) (pa_cons (pe_ix (r := rIx K) ix_seq (pv 12) pe_int (fun _ _ => rfl)) pa_nil)) pa_nil)))) pa_nil)))))
    (pss_one (ps_ret pe_bl))
    pss_nil))))))
    (pss_cons (ps_set (i := 15) sc_law.nd rfl (by first | exact Or.inl rfl | exact Or.inr rfl) (pg_makeNG T.M_Sheet G_Sheet___init__ (hr.mono (by decide)) hg rfl T.m_Sheet T.k4_Sheet___init__ pass0 (pa_cons (pv 5) (pa_cons (pv 9) (pa_cons (pv 7) pa_nil))) pk_nil))
    (pss_one (ps_if (PW.pt (pw_or (pt_cmpR (r := rUnlike K) (op_unlike hr.units) (pe_fldK K rfl (pe_fld (pv 15) rfl)) pe_int (nomark _)) (pw_or (pt_not (pt_val (pg_call G__law_same (hr.mono (by decide)) hg rfl T.m__law_same T.F__law_same.kp T.b__law_same .nil pass0 (pa_cons (pg_meth0 (pv 15) T.cl_Sheet T.mt_Sheet_rows G_Sheet_rows (hr.mono (by decide)) hg T.b_Sheet_rows .nil pass0) (pa_cons (pe_ix (r := rIx K) ix_seq (pv 12) pe_int (fun _ _ => rfl)) pa_nil))))) (pw_or1 (pt_cmpR (r := rUnlike K) (op_unlike hr.units) (pe_callB (r := rOrC _ _) (cr_or (call_reprA hg hr.units) (call_reprM G_Rules___repr__ (hr.mono (by decide)) hg T.rp_Rules T.rf_Rules T.b_Rules___repr__ pass0)) (by rfl) T.m_repr (by decide +kernel) (pa_cons (pe_tup (pa_cons (pv 5) (pa_cons (pv 9) (pa_cons (pv 7) pa_nil)))) pa_nil)) (pv 11) (nomark _))))))
    (pss_one (ps_ret pe_bl))
    pss_nil)))))))))))))
    (pss_one (ps_ret pe_bl))), ?_⟩
  refine body_d (Nm := ["_law_script", "_law_k", "_law_state_here", "_law_turn", "_law_parts_here", "_law_tasks", "_law_ruled", "_law_marks", "_law_lost", "_law_made_here", "_law_rule_here", "_law_held", "_law_due", "_law_one", "_law_again", "_law_bare"]) inferInstance ?_ h
  clear h
  rintro ss μ Q ⟨ns, rfl, rfl, hl, q⟩
  have c1 := T.cl_Rules
  have c2 := T.cl_Sheet
  have n1 := T.na_Sheet_works
  have n2 := T.na_Sheet_rules
  have n3 := T.na_Sheet_results
  have n4 := T.na_Sheet_drop
  refine dstart (ρ' := [some _, none, none, none, none, none, none, none, none, none, none, none, none, none, none, none]) rfl (b := 0) rfl ?_
  repeat' (walk_at "W")
  refine loop_rng (fun i ρ μ => ∃ v1 v2 v3 v4 v5 v6 v7 v8 v9 va vb vc vd ve vf, ρ = [some (.d (.scr ns)), v1, v2, v3, v4, v5, v6, v7, v8, v9, va, vb, vc, vd, ve, vf] ∧ μ = []) ⟨_, _, _, _, _, _, _, _, _, _, _, _, _, _, _, rfl, rfl⟩ ?_ ?_
  · rintro i k ρ μ hi ⟨v1, v2, v3, v4, v5, v6, v7, v8, v9, va, vb, vc, vd, ve, vf, rfl, rfl⟩ ih
    repeat' (walk_at "W")
    rename_i st hst
    refine loop_rng (fun i ρ μ => ∃ v1 v3 v4 v5 v6 v7 v8 v9 va vb vc vd ve vf c, ρ = [some (.d (.scr ns)), v1, some (.cel 0), v3, v4, v5, v6, v7, v8, v9, va, vb, vc, vd, ve, vf] ∧ μ = [some c] ∧ IsSt c) ⟨_, _, _, _, _, _, _, _, _, _, _, _, _, _, _, rfl, rfl, hst⟩ ?_ ?_
    · rintro j k2 ρ μ hj ⟨v1, v3, v4, v5, v6, v7, v8, v9, va, vb, vc, vd, ve, vf, c, rfl, rfl, hc⟩ ih2
      repeat' (walk_at "W")
      rename_i es dr c2 hS hle d0 d1 hc2
      have l1 := hS.l1
      have hrl := rows_len es
      have hxr := ex_range hS
      refine lc_of (xs := es) (fun e => rlD e.r) (fun e => ruD T.C_Rules e.r) (by omega) (fun r acc q hr ha hq => ?_) ?_
      · have w2 := (hS.all r hr).r
        repeat' (walk_at "W")
        exact hq
      have hrb : ∀ r ∈ rowsF es, r.1.natAbs ≤ 2 ^ 150 ∧ r.2.natAbs ≤ 2 ^ 150 := fun r hr => by
        obtain ⟨_, hall⟩ := rows_ok hS (List.ne_nil_of_mem hr)
        have := hall r hr
        omega
      have hF : Fit 60 60000 (py (.tup [.tup ((rowsF es).map rowD), .int (exF es), .int (rowsF es).length])) := fit_of ⟨hrb, by omega, by omega, trivial⟩ (by decide) (by omega)
      have hF2 : Fit 60 60000 (py (.tup ((rowsF es).map rowD))) := fit_of hrb (by decide) (by omega)
      have e2 : rngD 0 (2 - 0 : Int).toNat = [.int 0, .int 1] := rfl
      have e3 : rngD 0 (Int.toNat 2) = [.int 0, .int 1] := rfl
      repeat' (walk_at "W")
      first | rw [e2] | rw [e3]
      repeat' (walk_at "W")
      first | rw [e2] | rw [e3]
      repeat' (walk_at "W")
      all_goals first | exact ih2 _ _ ⟨_, _, _, _, _, _, _, _, _, _, _, _, _, _, _, rfl, rfl, by assumption⟩ | trace_state
    · rintro ρ μ ⟨v1, v3, v4, v5, v6, v7, v8, v9, va, vb, vc, vd, ve, vf, c, rfl, rfl, hc⟩
      repeat' (walk_at "W")
      exact ih _ _ ⟨_, _, _, _, _, _, _, _, _, _, _, _, _, _, _, rfl, rfl⟩
  · rintro ρ μ ⟨v1, v2, v3, v4, v5, v6, v7, v8, v9, va, vb, vc, vd, ve, vf, rfl, rfl⟩
    repeat' (walk_at "W")
    exact q
end
omit [Tb : Tbls] in
theorem all_mk {l : PySem.W.OpenLaw} {q : Program} {w : World} {K : PySem.W.Frag} {h : Heap} {mg : Str → Option Value} {fa : Addr} (X : K.In h) (G : h.Ns mainGlobals mg) (TF : TabF q K h) (hfa : mg "law" = some (.ref fa))
    {C_Rules : Addr} (aC_Rules : PySem.W.nsIn K mainGlobals "Rules" = some (some (.ref C_Rules)))
    {C_Sheet : Addr} (aC_Sheet : PySem.W.nsIn K mainGlobals "Sheet" = some (some (.ref C_Sheet)))
    {f0 : Addr} {od0 an0 : Option Addr} {sl0 : Array (Option Value)} {oc0 kV0 dc0 pm0 cd0 ct0 : Value}
    (a0 : PySem.W.nsIn K mainGlobals "is_whole_from" = some (some (.ref f0)))
    (l0 : K.lookup f0 = some ⟨oc0, od0, .func (PySem.W.fnOf "is_whole_from" "is_whole_from" (defArgs (top 11)) (defBody (top 11)) (defScope (top 11)) .none kV0 dc0 pm0 an0 cd0 ct0), sl0⟩) (c0 : PySem.W.codeIn K cd0 "is_whole_from" = true) (k0 : PySem.W.keepIn K (.ref f0) = true)
    {f1 : Addr} {od1 an1 : Option Addr} {sl1 : Array (Option Value)} {oc1 kV1 dc1 pm1 cd1 ct1 : Value}
    (a1 : PySem.W.nsIn K mainGlobals "is_whole_in" = some (some (.ref f1)))
    (l1 : K.lookup f1 = some ⟨oc1, od1, .func (PySem.W.fnOf "is_whole_in" "is_whole_in" (defArgs (top 12)) (defBody (top 12)) (defScope (top 12)) .none kV1 dc1 pm1 an1 cd1 ct1), sl1⟩) (c1 : PySem.W.codeIn K cd1 "is_whole_in" = true) (k1 : PySem.W.keepIn K (.ref f1) = true)
    {f2 : Addr} {od2 an2 : Option Addr} {sl2 : Array (Option Value)} {oc2 kV2 dc2 pm2 cd2 ct2 : Value}
    (a2 : PySem.W.nsIn K mainGlobals "is_drop" = some (some (.ref f2)))
    (l2 : K.lookup f2 = some ⟨oc2, od2, .func (PySem.W.fnOf "is_drop" "is_drop" (defArgs (top 20)) (defBody (top 20)) (defScope (top 20)) .none kV2 dc2 pm2 an2 cd2 ct2), sl2⟩) (c2 : PySem.W.codeIn K cd2 "is_drop" = true) (k2 : PySem.W.keepIn K (.ref f2) = true)
    {f3 : Addr} {od3 an3 : Option Addr} {sl3 : Array (Option Value)} {oc3 kV3 dc3 pm3 cd3 ct3 : Value}
    (a3 : PySem.W.nsIn K mainGlobals "is_cut" = some (some (.ref f3)))
    (l3 : K.lookup f3 = some ⟨oc3, od3, .func (PySem.W.fnOf "is_cut" "is_cut" (defArgs (top 21)) (defBody (top 21)) (defScope (top 21)) .none kV3 dc3 pm3 an3 cd3 ct3), sl3⟩) (c3 : PySem.W.codeIn K cd3 "is_cut" = true) (k3 : PySem.W.keepIn K (.ref f3) = true)
    {f4 : Addr} {od4 an4 : Option Addr} {sl4 : Array (Option Value)} {oc4 kV4 dc4 pm4 cd4 ct4 : Value}
    (a4 : PySem.W.nsIn K mainGlobals "is_second" = some (some (.ref f4)))
    (l4 : K.lookup f4 = some ⟨oc4, od4, .func (PySem.W.fnOf "is_second" "is_second" (defArgs (top 22)) (defBody (top 22)) (defScope (top 22)) .none kV4 dc4 pm4 an4 cd4 ct4), sl4⟩) (c4 : PySem.W.codeIn K cd4 "is_second" = true) (k4 : PySem.W.keepIn K (.ref f4) = true)
    {f5 : Addr} {od5 an5 : Option Addr} {sl5 : Array (Option Value)} {oc5 kV5 dc5 pm5 cd5 ct5 : Value}
    {tk5_0 : Tok}
    {tk5_1 : Tok}
    {tk5_2 : Tok}
    {D5 : Addr} {odT5 : Option Addr} {slT5 : Array (Option Value)} {ocT5 : Value} {mT5 : Nat}
    (a5 : PySem.W.findIn K (.ref C_Rules) "__init__" = some (some (.ref f5))) (i5 : PySem.W.isFn K (.ref f5) = true)
    (l5 : K.lookup f5 = some ⟨oc5, od5, .func (PySem.W.fnOf "__init__" "Rules.__init__" (defArgs (inClass (top 23) 0)) (defBody (inClass (top 23) 0)) (defScope (inClass (top 23) 0)) (.ref D5) kV5 dc5 pm5 an5 cd5 ct5), sl5⟩) (c5 : PySem.W.codeIn K cd5 "Rules.__init__" = true) (k5 : PySem.W.keepIn K (.ref f5) = true)
    (d5 : K.lookup D5 = some ⟨ocT5, odT5, .seq (List.toArray [.int 0 tk5_0, .int 0 tk5_1, .str "best" tk5_2]) mT5, slT5⟩)
    {f6 : Addr} {od6 an6 : Option Addr} {sl6 : Array (Option Value)} {oc6 kV6 dc6 pm6 cd6 ct6 : Value}
    (a6 : PySem.W.findIn K (.ref C_Rules) "__repr__" = some (some (.ref f6))) (i6 : PySem.W.isFn K (.ref f6) = true)
    (l6 : K.lookup f6 = some ⟨oc6, od6, .func (PySem.W.fnOf "__repr__" "Rules.__repr__" (defArgs (inClass (top 23) 2)) (defBody (inClass (top 23) 2)) (defScope (inClass (top 23) 2)) .none kV6 dc6 pm6 an6 cd6 ct6), sl6⟩) (c6 : PySem.W.codeIn K cd6 "Rules.__repr__" = true) (k6 : PySem.W.keepIn K (.ref f6) = true)
    {f7 : Addr} {od7 an7 : Option Addr} {sl7 : Array (Option Value)} {oc7 kV7 dc7 pm7 cd7 ct7 : Value}
    (a7 : PySem.W.nsIn K mainGlobals "rules_like" = some (some (.ref f7)))
    (l7 : K.lookup f7 = some ⟨oc7, od7, .func (PySem.W.fnOf "rules_like" "rules_like" (defArgs (top 24)) (defBody (top 24)) (defScope (top 24)) .none kV7 dc7 pm7 an7 cd7 ct7), sl7⟩) (c7 : PySem.W.codeIn K cd7 "rules_like" = true) (k7 : PySem.W.keepIn K (.ref f7) = true)
    {f8 : Addr} {od8 an8 : Option Addr} {sl8 : Array (Option Value)} {oc8 kV8 dc8 pm8 cd8 ct8 : Value}
    (a8 : PySem.W.nsIn K mainGlobals "has_parts" = some (some (.ref f8)))
    (l8 : K.lookup f8 = some ⟨oc8, od8, .func (PySem.W.fnOf "has_parts" "has_parts" (defArgs (top 26)) (defBody (top 26)) (defScope (top 26)) .none kV8 dc8 pm8 an8 cd8 ct8), sl8⟩) (c8 : PySem.W.codeIn K cd8 "has_parts" = true) (k8 : PySem.W.keepIn K (.ref f8) = true)
    {f9 : Addr} {od9 an9 : Option Addr} {sl9 : Array (Option Value)} {oc9 kV9 dc9 pm9 cd9 ct9 : Value}
    (a9 : PySem.W.nsIn K mainGlobals "never_falls" = some (some (.ref f9)))
    (l9 : K.lookup f9 = some ⟨oc9, od9, .func (PySem.W.fnOf "never_falls" "never_falls" (defArgs (top 27)) (defBody (top 27)) (defScope (top 27)) .none kV9 dc9 pm9 an9 cd9 ct9), sl9⟩) (c9 : PySem.W.codeIn K cd9 "never_falls" = true) (k9 : PySem.W.keepIn K (.ref f9) = true)
    {f10 : Addr} {od10 an10 : Option Addr} {sl10 : Array (Option Value)} {oc10 kV10 dc10 pm10 cd10 ct10 : Value}
    (a10 : PySem.W.nsIn K mainGlobals "is_day" = some (some (.ref f10)))
    (l10 : K.lookup f10 = some ⟨oc10, od10, .func (PySem.W.fnOf "is_day" "is_day" (defArgs (top 32)) (defBody (top 32)) (defScope (top 32)) .none kV10 dc10 pm10 an10 cd10 ct10), sl10⟩) (c10 : PySem.W.codeIn K cd10 "is_day" = true) (k10 : PySem.W.keepIn K (.ref f10) = true)
    {f11 : Addr} {od11 an11 : Option Addr} {sl11 : Array (Option Value)} {oc11 kV11 dc11 pm11 cd11 ct11 : Value}
    (a11 : PySem.W.nsIn K mainGlobals "is_work" = some (some (.ref f11)))
    (l11 : K.lookup f11 = some ⟨oc11, od11, .func (PySem.W.fnOf "is_work" "is_work" (defArgs (top 33)) (defBody (top 33)) (defScope (top 33)) .none kV11 dc11 pm11 an11 cd11 ct11), sl11⟩) (c11 : PySem.W.codeIn K cd11 "is_work" = true) (k11 : PySem.W.keepIn K (.ref f11) = true)
    {f12 : Addr} {od12 an12 : Option Addr} {sl12 : Array (Option Value)} {oc12 kV12 dc12 pm12 cd12 ct12 : Value}
    (a12 : PySem.W.nsIn K mainGlobals "are_works" = some (some (.ref f12)))
    (l12 : K.lookup f12 = some ⟨oc12, od12, .func (PySem.W.fnOf "are_works" "are_works" (defArgs (top 34)) (defBody (top 34)) (defScope (top 34)) .none kV12 dc12 pm12 an12 cd12 ct12), sl12⟩) (c12 : PySem.W.codeIn K cd12 "are_works" = true) (k12 : PySem.W.keepIn K (.ref f12) = true)
    {f13 : Addr} {od13 an13 : Option Addr} {sl13 : Array (Option Value)} {oc13 kV13 dc13 pm13 cd13 ct13 : Value}
    (a13 : PySem.W.nsIn K mainGlobals "look_at_works" = some (some (.ref f13)))
    (l13 : K.lookup f13 = some ⟨oc13, od13, .func (PySem.W.fnOf "look_at_works" "look_at_works" (defArgs (top 35)) (defBody (top 35)) (defScope (top 35)) .none kV13 dc13 pm13 an13 cd13 ct13), sl13⟩) (c13 : PySem.W.codeIn K cd13 "look_at_works" = true) (k13 : PySem.W.keepIn K (.ref f13) = true)
    {f14 : Addr} {od14 an14 : Option Addr} {sl14 : Array (Option Value)} {oc14 kV14 dc14 pm14 cd14 ct14 : Value}
    {tk14_0 : Tok}
    {D14 : Addr} {odT14 : Option Addr} {slT14 : Array (Option Value)} {ocT14 : Value} {mT14 : Nat}
    (a14 : PySem.W.nsIn K mainGlobals "late_points" = some (some (.ref f14)))
    (l14 : K.lookup f14 = some ⟨oc14, od14, .func (PySem.W.fnOf "late_points" "late_points" (defArgs (top 50)) (defBody (top 50)) (defScope (top 50)) (.ref D14) kV14 dc14 pm14 an14 cd14 ct14), sl14⟩) (c14 : PySem.W.codeIn K cd14 "late_points" = true) (k14 : PySem.W.keepIn K (.ref f14) = true)
    (d14 : K.lookup D14 = some ⟨ocT14, odT14, .seq (List.toArray [.int 0 tk14_0]) mT14, slT14⟩)
    {f15 : Addr} {od15 an15 : Option Addr} {sl15 : Array (Option Value)} {oc15 kV15 dc15 pm15 cd15 ct15 : Value}
    (a15 : PySem.W.nsIn K mainGlobals "is_try" = some (some (.ref f15)))
    (l15 : K.lookup f15 = some ⟨oc15, od15, .func (PySem.W.fnOf "is_try" "is_try" (defArgs (top 51)) (defBody (top 51)) (defScope (top 51)) .none kV15 dc15 pm15 an15 cd15 ct15), sl15⟩) (c15 : PySem.W.codeIn K cd15 "is_try" = true) (k15 : PySem.W.keepIn K (.ref f15) = true)
    {f16 : Addr} {od16 an16 : Option Addr} {sl16 : Array (Option Value)} {oc16 kV16 dc16 pm16 cd16 ct16 : Value}
    (a16 : PySem.W.nsIn K mainGlobals "are_tries" = some (some (.ref f16)))
    (l16 : K.lookup f16 = some ⟨oc16, od16, .func (PySem.W.fnOf "are_tries" "are_tries" (defArgs (top 52)) (defBody (top 52)) (defScope (top 52)) .none kV16 dc16 pm16 an16 cd16 ct16), sl16⟩) (c16 : PySem.W.codeIn K cd16 "are_tries" = true) (k16 : PySem.W.keepIn K (.ref f16) = true)
    {f17 : Addr} {od17 an17 : Option Addr} {sl17 : Array (Option Value)} {oc17 kV17 dc17 pm17 cd17 ct17 : Value}
    (a17 : PySem.W.nsIn K mainGlobals "is_result" = some (some (.ref f17)))
    (l17 : K.lookup f17 = some ⟨oc17, od17, .func (PySem.W.fnOf "is_result" "is_result" (defArgs (top 53)) (defBody (top 53)) (defScope (top 53)) .none kV17 dc17 pm17 an17 cd17 ct17), sl17⟩) (c17 : PySem.W.codeIn K cd17 "is_result" = true) (k17 : PySem.W.keepIn K (.ref f17) = true)
    {f18 : Addr} {od18 an18 : Option Addr} {sl18 : Array (Option Value)} {oc18 kV18 dc18 pm18 cd18 ct18 : Value}
    (a18 : PySem.W.nsIn K mainGlobals "score" = some (some (.ref f18)))
    (l18 : K.lookup f18 = some ⟨oc18, od18, .func (PySem.W.fnOf "score" "score" (defArgs (top 54)) (defBody (top 54)) (defScope (top 54)) .none kV18 dc18 pm18 an18 cd18 ct18), sl18⟩) (c18 : PySem.W.codeIn K cd18 "score" = true) (k18 : PySem.W.keepIn K (.ref f18) = true)
    {f19 : Addr} {od19 an19 : Option Addr} {sl19 : Array (Option Value)} {oc19 kV19 dc19 pm19 cd19 ct19 : Value}
    (a19 : PySem.W.nsIn K mainGlobals "counted_of" = some (some (.ref f19)))
    (l19 : K.lookup f19 = some ⟨oc19, od19, .func (PySem.W.fnOf "counted_of" "counted_of" (defArgs (top 55)) (defBody (top 55)) (defScope (top 55)) .none kV19 dc19 pm19 an19 cd19 ct19), sl19⟩) (c19 : PySem.W.codeIn K cd19 "counted_of" = true) (k19 : PySem.W.keepIn K (.ref f19) = true)
    {f20 : Addr} {od20 an20 : Option Addr} {sl20 : Array (Option Value)} {oc20 kV20 dc20 pm20 cd20 ct20 : Value}
    (a20 : PySem.W.nsIn K mainGlobals "are_rules_for" = some (some (.ref f20)))
    (l20 : K.lookup f20 = some ⟨oc20, od20, .func (PySem.W.fnOf "are_rules_for" "are_rules_for" (defArgs (top 57)) (defBody (top 57)) (defScope (top 57)) .none kV20 dc20 pm20 an20 cd20 ct20), sl20⟩) (c20 : PySem.W.codeIn K cd20 "are_rules_for" = true) (k20 : PySem.W.keepIn K (.ref f20) = true)
    {f21 : Addr} {od21 an21 : Option Addr} {sl21 : Array (Option Value)} {oc21 kV21 dc21 pm21 cd21 ct21 : Value}
    (a21 : PySem.W.nsIn K mainGlobals "are_results_of" = some (some (.ref f21)))
    (l21 : K.lookup f21 = some ⟨oc21, od21, .func (PySem.W.fnOf "are_results_of" "are_results_of" (defArgs (top 58)) (defBody (top 58)) (defScope (top 58)) .none kV21 dc21 pm21 an21 cd21 ct21), sl21⟩) (c21 : PySem.W.codeIn K cd21 "are_results_of" = true) (k21 : PySem.W.keepIn K (.ref f21) = true)
    {f22 : Addr} {od22 an22 : Option Addr} {sl22 : Array (Option Value)} {oc22 kV22 dc22 pm22 cd22 ct22 : Value}
    (a22 : PySem.W.nsIn K mainGlobals "scores_of" = some (some (.ref f22)))
    (l22 : K.lookup f22 = some ⟨oc22, od22, .func (PySem.W.fnOf "scores_of" "scores_of" (defArgs (top 59)) (defBody (top 59)) (defScope (top 59)) .none kV22 dc22 pm22 an22 cd22 ct22), sl22⟩) (c22 : PySem.W.codeIn K cd22 "scores_of" = true) (k22 : PySem.W.keepIn K (.ref f22) = true)
    {f23 : Addr} {od23 an23 : Option Addr} {sl23 : Array (Option Value)} {oc23 kV23 dc23 pm23 cd23 ct23 : Value}
    (a23 : PySem.W.nsIn K mainGlobals "counted_in" = some (some (.ref f23)))
    (l23 : K.lookup f23 = some ⟨oc23, od23, .func (PySem.W.fnOf "counted_in" "counted_in" (defArgs (top 60)) (defBody (top 60)) (defScope (top 60)) .none kV23 dc23 pm23 an23 cd23 ct23), sl23⟩) (c23 : PySem.W.codeIn K cd23 "counted_in" = true) (k23 : PySem.W.keepIn K (.ref f23) = true)
    {f24 : Addr} {od24 an24 : Option Addr} {sl24 : Array (Option Value)} {oc24 kV24 dc24 pm24 cd24 ct24 : Value}
    {tk24_0 : Tok}
    {D24 : Addr} {odT24 : Option Addr} {slT24 : Array (Option Value)} {ocT24 : Value} {mT24 : Nat}
    (a24 : PySem.W.findIn K (.ref C_Sheet) "__init__" = some (some (.ref f24))) (i24 : PySem.W.isFn K (.ref f24) = true)
    (l24 : K.lookup f24 = some ⟨oc24, od24, .func (PySem.W.fnOf "__init__" "Sheet.__init__" (defArgs (inClass (top 63) 0)) (defBody (inClass (top 63) 0)) (defScope (inClass (top 63) 0)) (.ref D24) kV24 dc24 pm24 an24 cd24 ct24), sl24⟩) (c24 : PySem.W.codeIn K cd24 "Sheet.__init__" = true) (k24 : PySem.W.keepIn K (.ref f24) = true)
    (d24 : K.lookup D24 = some ⟨ocT24, odT24, .seq (List.toArray [.int 0 tk24_0]) mT24, slT24⟩)
    {f25 : Addr} {od25 an25 : Option Addr} {sl25 : Array (Option Value)} {oc25 kV25 dc25 pm25 cd25 ct25 : Value}
    (a25 : PySem.W.findIn K (.ref C_Sheet) "__len__" = some (some (.ref f25))) (i25 : PySem.W.isFn K (.ref f25) = true)
    (l25 : K.lookup f25 = some ⟨oc25, od25, .func (PySem.W.fnOf "__len__" "Sheet.__len__" (defArgs (inClass (top 63) 1)) (defBody (inClass (top 63) 1)) (defScope (inClass (top 63) 1)) .none kV25 dc25 pm25 an25 cd25 ct25), sl25⟩) (c25 : PySem.W.codeIn K cd25 "Sheet.__len__" = true) (k25 : PySem.W.keepIn K (.ref f25) = true)
    {f26 : Addr} {od26 an26 : Option Addr} {sl26 : Array (Option Value)} {oc26 kV26 dc26 pm26 cd26 ct26 : Value}
    (a26 : PySem.W.findIn K (.ref C_Sheet) "rows" = some (some (.ref f26))) (i26 : PySem.W.isFn K (.ref f26) = true)
    (l26 : K.lookup f26 = some ⟨oc26, od26, .func (PySem.W.fnOf "rows" "Sheet.rows" (defArgs (inClass (top 63) 4)) (defBody (inClass (top 63) 4)) (defScope (inClass (top 63) 4)) .none kV26 dc26 pm26 an26 cd26 ct26), sl26⟩) (c26 : PySem.W.codeIn K cd26 "Sheet.rows" = true) (k26 : PySem.W.keepIn K (.ref f26) = true)
    {f27 : Addr} {od27 an27 : Option Addr} {sl27 : Array (Option Value)} {oc27 kV27 dc27 pm27 cd27 ct27 : Value}
    (a27 : PySem.W.findIn K (.ref C_Sheet) "extra" = some (some (.ref f27))) (i27 : PySem.W.isFn K (.ref f27) = true)
    (l27 : K.lookup f27 = some ⟨oc27, od27, .func (PySem.W.fnOf "extra" "Sheet.extra" (defArgs (inClass (top 63) 5)) (defBody (inClass (top 63) 5)) (defScope (inClass (top 63) 5)) .none kV27 dc27 pm27 an27 cd27 ct27), sl27⟩) (c27 : PySem.W.codeIn K cd27 "Sheet.extra" = true) (k27 : PySem.W.keepIn K (.ref f27) = true)
    {f28 : Addr} {od28 an28 : Option Addr} {sl28 : Array (Option Value)} {oc28 kV28 dc28 pm28 cd28 ct28 : Value}
    (a28 : PySem.W.nsIn K mainGlobals "_law_cell_at" = some (some (.ref f28)))
    (l28 : K.lookup f28 = some ⟨oc28, od28, .func (PySem.W.fnOf "_law_cell_at" "_law_cell_at" (defArgs (top 65)) (defBody (top 65)) (defScope (top 65)) .none kV28 dc28 pm28 an28 cd28 ct28), sl28⟩) (c28 : PySem.W.codeIn K cd28 "_law_cell_at" = true) (k28 : PySem.W.keepIn K (.ref f28) = true)
    {f29 : Addr} {od29 an29 : Option Addr} {sl29 : Array (Option Value)} {oc29 kV29 dc29 pm29 cd29 ct29 : Value}
    (a29 : PySem.W.nsIn K mainGlobals "_law_state" = some (some (.ref f29)))
    (l29 : K.lookup f29 = some ⟨oc29, od29, .func (PySem.W.fnOf "_law_state" "_law_state" (defArgs (top 66)) (defBody (top 66)) (defScope (top 66)) .none kV29 dc29 pm29 an29 cd29 ct29), sl29⟩) (c29 : PySem.W.codeIn K cd29 "_law_state" = true) (k29 : PySem.W.keepIn K (.ref f29) = true)
    {f30 : Addr} {od30 an30 : Option Addr} {sl30 : Array (Option Value)} {oc30 kV30 dc30 pm30 cd30 ct30 : Value}
    (a30 : PySem.W.nsIn K mainGlobals "_law_take" = some (some (.ref f30)))
    (l30 : K.lookup f30 = some ⟨oc30, od30, .func (PySem.W.fnOf "_law_take" "_law_take" (defArgs (top 67)) (defBody (top 67)) (defScope (top 67)) .none kV30 dc30 pm30 an30 cd30 ct30), sl30⟩) (c30 : PySem.W.codeIn K cd30 "_law_take" = true) (k30 : PySem.W.keepIn K (.ref f30) = true)
    {f31 : Addr} {od31 an31 : Option Addr} {sl31 : Array (Option Value)} {oc31 kV31 dc31 pm31 cd31 ct31 : Value}
    (a31 : PySem.W.nsIn K mainGlobals "_law_works" = some (some (.ref f31)))
    (l31 : K.lookup f31 = some ⟨oc31, od31, .func (PySem.W.fnOf "_law_works" "_law_works" (defArgs (top 68)) (defBody (top 68)) (defScope (top 68)) .none kV31 dc31 pm31 an31 cd31 ct31), sl31⟩) (c31 : PySem.W.codeIn K cd31 "_law_works" = true) (k31 : PySem.W.keepIn K (.ref f31) = true)
    {f32 : Addr} {od32 an32 : Option Addr} {sl32 : Array (Option Value)} {oc32 kV32 dc32 pm32 cd32 ct32 : Value}
    (a32 : PySem.W.nsIn K mainGlobals "_law_rule" = some (some (.ref f32)))
    (l32 : K.lookup f32 = some ⟨oc32, od32, .func (PySem.W.fnOf "_law_rule" "_law_rule" (defArgs (top 69)) (defBody (top 69)) (defScope (top 69)) .none kV32 dc32 pm32 an32 cd32 ct32), sl32⟩) (c32 : PySem.W.codeIn K cd32 "_law_rule" = true) (k32 : PySem.W.keepIn K (.ref f32) = true)
    {f33 : Addr} {od33 an33 : Option Addr} {sl33 : Array (Option Value)} {oc33 kV33 dc33 pm33 cd33 ct33 : Value}
    (a33 : PySem.W.nsIn K mainGlobals "_law_made" = some (some (.ref f33)))
    (l33 : K.lookup f33 = some ⟨oc33, od33, .func (PySem.W.fnOf "_law_made" "_law_made" (defArgs (top 70)) (defBody (top 70)) (defScope (top 70)) .none kV33 dc33 pm33 an33 cd33 ct33), sl33⟩) (c33 : PySem.W.codeIn K cd33 "_law_made" = true) (k33 : PySem.W.keepIn K (.ref f33) = true)
    {f34 : Addr} {od34 an34 : Option Addr} {sl34 : Array (Option Value)} {oc34 kV34 dc34 pm34 cd34 ct34 : Value}
    (a34 : PySem.W.nsIn K mainGlobals "_law_try" = some (some (.ref f34)))
    (l34 : K.lookup f34 = some ⟨oc34, od34, .func (PySem.W.fnOf "_law_try" "_law_try" (defArgs (top 71)) (defBody (top 71)) (defScope (top 71)) .none kV34 dc34 pm34 an34 cd34 ct34), sl34⟩) (c34 : PySem.W.codeIn K cd34 "_law_try" = true) (k34 : PySem.W.keepIn K (.ref f34) = true)
    {f35 : Addr} {od35 an35 : Option Addr} {sl35 : Array (Option Value)} {oc35 kV35 dc35 pm35 ct35 : Value} {cc35 PP35 : Addr}
    (a35 : PySem.W.nsIn K mainGlobals "_law_result" = some (some (.ref f35)))
    (l35 : K.lookup f35 = some ⟨oc35, od35, .func (PySem.W.fnOf "_law_result" "_law_result" (defArgs (top 72)) (defBody (top 72)) (defScope (top 72)) .none kV35 dc35 pm35 an35 (.ref cc35) ct35), sl35⟩) (c35 : PySem.W.codeIn K (.ref cc35) "_law_result" = true) (k35 : PySem.W.keepIn K (.ref f35) = true) {oC35 : Value} {oD35 : Option Addr} {vsC35 : Array Value} {slC35 : Array (Option Value)} (tc35 : K.lookup cc35 = some ⟨oC35, oD35, .fields vsC35, slC35⟩) (tt35 : vsC35[11]? = some (.ref PP35)) (tn35 : K.lookup PP35 = none) (tr35 : ((recsOf q).find? fun e => e.name == ("_law_result" : Str)).isSome = true)
    {f36 : Addr} {od36 an36 : Option Addr} {sl36 : Array (Option Value)} {oc36 kV36 dc36 pm36 cd36 ct36 : Value}
    (a36 : PySem.W.nsIn K mainGlobals "_law_points" = some (some (.ref f36)))
    (l36 : K.lookup f36 = some ⟨oc36, od36, .func (PySem.W.fnOf "_law_points" "_law_points" (defArgs (top 73)) (defBody (top 73)) (defScope (top 73)) .none kV36 dc36 pm36 an36 cd36 ct36), sl36⟩) (c36 : PySem.W.codeIn K cd36 "_law_points" = true) (k36 : PySem.W.keepIn K (.ref f36) = true)
    {f37 : Addr} {od37 an37 : Option Addr} {sl37 : Array (Option Value)} {oc37 kV37 dc37 pm37 cd37 ct37 : Value}
    (a37 : PySem.W.nsIn K mainGlobals "_law_score" = some (some (.ref f37)))
    (l37 : K.lookup f37 = some ⟨oc37, od37, .func (PySem.W.fnOf "_law_score" "_law_score" (defArgs (top 74)) (defBody (top 74)) (defScope (top 74)) .none kV37 dc37 pm37 an37 cd37 ct37), sl37⟩) (c37 : PySem.W.codeIn K cd37 "_law_score" = true) (k37 : PySem.W.keepIn K (.ref f37) = true)
    {f38 : Addr} {od38 an38 : Option Addr} {sl38 : Array (Option Value)} {oc38 kV38 dc38 pm38 cd38 ct38 : Value}
    (a38 : PySem.W.nsIn K mainGlobals "_law_lots" = some (some (.ref f38)))
    (l38 : K.lookup f38 = some ⟨oc38, od38, .func (PySem.W.fnOf "_law_lots" "_law_lots" (defArgs (top 75)) (defBody (top 75)) (defScope (top 75)) .none kV38 dc38 pm38 an38 cd38 ct38), sl38⟩) (c38 : PySem.W.codeIn K cd38 "_law_lots" = true) (k38 : PySem.W.keepIn K (.ref f38) = true)
    {f39 : Addr} {od39 an39 : Option Addr} {sl39 : Array (Option Value)} {oc39 kV39 dc39 pm39 cd39 ct39 : Value}
    (a39 : PySem.W.nsIn K mainGlobals "_law_best" = some (some (.ref f39)))
    (l39 : K.lookup f39 = some ⟨oc39, od39, .func (PySem.W.fnOf "_law_best" "_law_best" (defArgs (top 76)) (defBody (top 76)) (defScope (top 76)) .none kV39 dc39 pm39 an39 cd39 ct39), sl39⟩) (c39 : PySem.W.codeIn K cd39 "_law_best" = true) (k39 : PySem.W.keepIn K (.ref f39) = true)
    {f40 : Addr} {od40 an40 : Option Addr} {sl40 : Array (Option Value)} {oc40 kV40 dc40 pm40 cd40 ct40 : Value}
    (a40 : PySem.W.nsIn K mainGlobals "_law_told" = some (some (.ref f40)))
    (l40 : K.lookup f40 = some ⟨oc40, od40, .func (PySem.W.fnOf "_law_told" "_law_told" (defArgs (top 77)) (defBody (top 77)) (defScope (top 77)) .none kV40 dc40 pm40 an40 cd40 ct40), sl40⟩) (c40 : PySem.W.codeIn K cd40 "_law_told" = true) (k40 : PySem.W.keepIn K (.ref f40) = true)
    {f41 : Addr} {od41 an41 : Option Addr} {sl41 : Array (Option Value)} {oc41 kV41 dc41 pm41 cd41 ct41 : Value}
    (a41 : PySem.W.nsIn K mainGlobals "_law_parts" = some (some (.ref f41)))
    (l41 : K.lookup f41 = some ⟨oc41, od41, .func (PySem.W.fnOf "_law_parts" "_law_parts" (defArgs (top 78)) (defBody (top 78)) (defScope (top 78)) .none kV41 dc41 pm41 an41 cd41 ct41), sl41⟩) (c41 : PySem.W.codeIn K cd41 "_law_parts" = true) (k41 : PySem.W.keepIn K (.ref f41) = true)
    {f42 : Addr} {od42 an42 : Option Addr} {sl42 : Array (Option Value)} {oc42 kV42 dc42 pm42 cd42 ct42 : Value}
    (a42 : PySem.W.nsIn K mainGlobals "_law_same" = some (some (.ref f42)))
    (l42 : K.lookup f42 = some ⟨oc42, od42, .func (PySem.W.fnOf "_law_same" "_law_same" (defArgs (top 79)) (defBody (top 79)) (defScope (top 79)) .none kV42 dc42 pm42 an42 cd42 ct42), sl42⟩) (c42 : PySem.W.codeIn K cd42 "_law_same" = true) (k42 : PySem.W.keepIn K (.ref f42) = true)
    {f43 : Addr} {od43 an43 : Option Addr} {sl43 : Array (Option Value)} {oc43 kV43 dc43 pm43 cd43 ct43 : Value}
    (a43 : PySem.W.nsIn K mainGlobals "law" = some (some (.ref f43)))
    (l43 : K.lookup f43 = some ⟨oc43, od43, .func (PySem.W.fnOf "law" "law" (defArgs (top 80)) (defBody (top 80)) (defScope (top 80)) .none kV43 dc43 pm43 an43 cd43 ct43), sl43⟩) (c43 : PySem.W.codeIn K cd43 "law" = true) (k43 : PySem.W.keepIn K (.ref f43) = true)
    (q_Rules_pg : PySem.W.plainGet K C_Rules Str.empty = true)
    (q_Rules_hd : PySem.W.hasDictIn K C_Rules = true)
    (q_Rules_po : PySem.W.plainOver K C_Rules = true)
    (q_Rules_sa : PySem.W.findIn K (.ref C_Rules) "__setattr__" = some (some (.builtin "object.__setattr__")))
    (q_Rules_mk : PySem.W.makesIn K C_Rules = true)
    (q_Rules_kc : PySem.W.keepIn K (.ref C_Rules) = true)
    (q_Rules_ob : PySem.W.mroIn K C_Rules (.type "object") = some true)
    (q_Rules_ha : PySem.W.findIn K (.ref C_Rules) "__class__" = some (some (.builtin "object.__class__")))
    (q_Rules_ht : PySem.W.takesIn K (.builtin "object.__class__") = some true)
    (q_Rules_hn : PySem.W.specialIn K (.builtin "object.__class__") "__get__" = some (some (.builtin "getset_descriptor.__get__")))
    (q_Rules_cs : PySem.W.isClsIn K C_Rules = true)
    (q_Rules_ty : PySem.W.typeIn K (.ref C_Rules) = some (.type "type"))
    (q_Rules_na_drop : PySem.W.findIn K (.ref C_Rules) "drop" = some none)
    (q_Rules_na_cut : PySem.W.findIn K (.ref C_Rules) "cut" = some none)
    (q_Rules_na_second : PySem.W.findIn K (.ref C_Rules) "second" = some none)
    (q_Sheet_pg : PySem.W.plainGet K C_Sheet Str.empty = true)
    (q_Sheet_hd : PySem.W.hasDictIn K C_Sheet = true)
    (q_Sheet_po : PySem.W.plainOver K C_Sheet = true)
    (q_Sheet_sa : PySem.W.findIn K (.ref C_Sheet) "__setattr__" = some (some (.builtin "object.__setattr__")))
    (q_Sheet_mk : PySem.W.makesIn K C_Sheet = true)
    (q_Sheet_kc : PySem.W.keepIn K (.ref C_Sheet) = true)
    (q_Sheet_ob : PySem.W.mroIn K C_Sheet (.type "object") = some true)
    (q_Sheet_ha : PySem.W.findIn K (.ref C_Sheet) "__class__" = some (some (.builtin "object.__class__")))
    (q_Sheet_ht : PySem.W.takesIn K (.builtin "object.__class__") = some true)
    (q_Sheet_hn : PySem.W.specialIn K (.builtin "object.__class__") "__get__" = some (some (.builtin "getset_descriptor.__get__")))
    (q_Sheet_cs : PySem.W.isClsIn K C_Sheet = true)
    (q_Sheet_ty : PySem.W.typeIn K (.ref C_Sheet) = some (.type "type"))
    (q_Sheet_na_works : PySem.W.findIn K (.ref C_Sheet) "works" = some none)
    (q_Sheet_na_rules : PySem.W.findIn K (.ref C_Sheet) "rules" = some none)
    (q_Sheet_na_results : PySem.W.findIn K (.ref C_Sheet) "results" = some none)
    (q_Sheet_na_drop : PySem.W.findIn K (.ref C_Sheet) "drop" = some none)
    {t_EXCUSED : Tok} (z_EXCUSED : PySem.W.nsIn K mainGlobals "EXCUSED" = some (some (.str "excused" t_EXCUSED)))
    {t_LAST_DAY : Tok} (z_LAST_DAY : PySem.W.nsIn K mainGlobals "LAST_DAY" = some (some (.int 200 t_LAST_DAY)))
    {t_MOST_CUT : Tok} (z_MOST_CUT : PySem.W.nsIn K mainGlobals "MOST_CUT" = some (some (.int 100 t_MOST_CUT)))
    {t_MOST_DROP : Tok} (z_MOST_DROP : PySem.W.nsIn K mainGlobals "MOST_DROP" = some (some (.int 5 t_MOST_DROP)))
    {t_MOST_POINTS : Tok} (z_MOST_POINTS : PySem.W.nsIn K mainGlobals "MOST_POINTS" = some (some (.int 100 t_MOST_POINTS)))
    {t_MOST_TRIES : Tok} (z_MOST_TRIES : PySem.W.nsIn K mainGlobals "MOST_TRIES" = some (some (.int 3 t_MOST_TRIES)))
    {t_MOST_WORKS : Tok} (z_MOST_WORKS : PySem.W.nsIn K mainGlobals "MOST_WORKS" = some (some (.int 12 t_MOST_WORKS)))
    {w_SECONDS : Addr} {wt_SECONDS : Nat} {wd_SECONDS : Option Addr} {ws_SECONDS : Array (Option Value)} {wk_SECONDS_0 : Tok} {wk_SECONDS_1 : Tok} {wk_SECONDS_2 : Tok}
    (z_SECONDS : PySem.W.nsIn K mainGlobals "SECONDS" = some (some (.ref w_SECONDS))) (y_SECONDS : K.lookup w_SECONDS = some ⟨.type "tuple", wd_SECONDS, .seq (List.toArray [.str "best" wk_SECONDS_0, .str "last" wk_SECONDS_1, .str "mean" wk_SECONDS_2]) wt_SECONDS, ws_SECONDS⟩)
    (z__law_one : PySem.W.nsIn K mainGlobals "_law_one" = some none)
    (z_all : PySem.W.nsIn K mainGlobals "all" = some none)
    (z_bool : PySem.W.nsIn K mainGlobals "bool" = some none)
    (z_enumerate : PySem.W.nsIn K mainGlobals "enumerate" = some none)
    (z_int : PySem.W.nsIn K mainGlobals "int" = some none)
    (z_isinstance : PySem.W.nsIn K mainGlobals "isinstance" = some none)
    (z_len : PySem.W.nsIn K mainGlobals "len" = some none)
    (z_list : PySem.W.nsIn K mainGlobals "list" = some none)
    (z_max : PySem.W.nsIn K mainGlobals "max" = some none)
    (z_min : PySem.W.nsIn K mainGlobals "min" = some none)
    (z_range : PySem.W.nsIn K mainGlobals "range" = some none)
    (z_repr : PySem.W.nsIn K mainGlobals "repr" = some none)
    (z_sorted : PySem.W.nsIn K mainGlobals "sorted" = some none)
    (z_str : PySem.W.nsIn K mainGlobals "str" = some none)
    (z_sum : PySem.W.nsIn K mainGlobals "sum" = some none)
    (z_tuple : PySem.W.nsIn K mainGlobals "tuple" = some none)
    (z_zip : PySem.W.nsIn K mainGlobals "zip" = some none)
    : LawT l.prog w K mg h fa 40 "_law_script" := by
  have e := hfa.symm.trans (PySem.W.mg_of X G a43)
  cases e
  have F0 := fun_mk (x := "is_whole_from") (qual := "is_whole_from") (st := (top 11)) l0 c0 k0
  have b0 := F0.binds (ps := ["thing", "least"]) fun _ _ _ _ _ _ us hl => match us, hl with | [_, _], _ => rfl
  have F1 := fun_mk (x := "is_whole_in") (qual := "is_whole_in") (st := (top 12)) l1 c1 k1
  have b1 := F1.binds (ps := ["thing", "least", "most"]) fun _ _ _ _ _ _ us hl => match us, hl with | [_, _, _], _ => rfl
  have F2 := fun_mk (x := "is_drop") (qual := "is_drop") (st := (top 20)) l2 c2 k2
  have b2 := F2.binds (ps := ["thing"]) fun _ _ _ _ _ _ us hl => match us, hl with | [_], _ => rfl
  have F3 := fun_mk (x := "is_cut") (qual := "is_cut") (st := (top 21)) l3 c3 k3
  have b3 := F3.binds (ps := ["thing"]) fun _ _ _ _ _ _ us hl => match us, hl with | [_], _ => rfl
  have F4 := fun_mk (x := "is_second") (qual := "is_second") (st := (top 22)) l4 c4 k4
  have b4 := F4.binds (ps := ["thing"]) fun _ _ _ _ _ _ us hl => match us, hl with | [_], _ => rfl
  have F5 := fnd_mk (x := "__init__") (qual := "Rules.__init__") (st := (inClass (top 23) 0)) (dvs := [(.int 0), (.int 0), (.str "best")]) l5 c5 k5 d5 (List.cons_ne_nil _ _) (.cons ⟨_, rfl⟩ (.cons ⟨_, rfl⟩ (.cons ⟨_, rfl⟩ .nil)))
  have b5 : Binds K (PySem.W.fnOf "__init__" "Rules.__init__" (defArgs (inClass (top 23) 0)) (defBody (inClass (top 23) 0)) (defScope (inClass (top 23) 0)) (.ref D5) kV5 dc5 pm5 an5 cd5 ct5) ["self", "drop", "cut", "second"] [] := by
    obtain ⟨ds, r, b⟩ := FunD.binds1 (ps := ["self", "drop", "cut", "second"]) F5 4 3 (List.cons_ne_nil _ _) rfl (fun _ _ _ _ _ _ _ us its hu hi => match us, its, hu, hi with | [_, _, _, _], [_, _, _], _, _ => ⟨_, rfl, rfl⟩)
    cases r
    exact b
  have kbk1_Rules___init___drop_cut_second := kbn_mk (fd := (PySem.W.fnOf "__init__" "Rules.__init__" (defArgs (inClass (top 23) 0)) (defBody (inClass (top 23) 0)) (defScope (inClass (top 23) 0)) (.ref D5) kV5 dc5 pm5 an5 cd5 ct5)) (ps := ["self", "drop", "cut", "second"]) (ks := ["drop", "cut", "second"]) (n := 1) (g := fun us ws => [nU us 0, nU ws 0, nU ws 1, nU ws 2]) (gV := fun us ws => [nV us 0, nV ws 0, nV ws 1, nV ws 2]) d5 (fun r z => (.cons (nRel 0 r) (.cons (nRel 0 z) (.cons (nRel 1 z) (.cons (nRel 2 z) .nil))))) (fun us ws h1 h2 => match us, ws, h1, h2 with | [_], [_, _, _], _, _ => ⟨_, rfl, rfl⟩)
  have kbk4_Rules___init__ := kbn_mk (fd := (PySem.W.fnOf "__init__" "Rules.__init__" (defArgs (inClass (top 23) 0)) (defBody (inClass (top 23) 0)) (defScope (inClass (top 23) 0)) (.ref D5) kV5 dc5 pm5 an5 cd5 ct5)) (ps := ["self", "drop", "cut", "second"]) (ks := []) (n := 4) (g := fun us ws => [nU us 0, nU us 1, nU us 2, nU us 3]) (gV := fun us ws => [nV us 0, nV us 1, nV us 2, nV us 3]) d5 (fun r z => (.cons (nRel 0 r) (.cons (nRel 1 r) (.cons (nRel 2 r) (.cons (nRel 3 r) .nil))))) (fun us ws h1 h2 => match us, ws, h1, h2 with | [_, _, _, _], [], _, _ => ⟨_, rfl, rfl⟩)
  have F6 := fun_mk (x := "__repr__") (qual := "Rules.__repr__") (st := (inClass (top 23) 2)) l6 c6 k6
  have b6 := F6.binds (ps := ["self"]) fun _ _ _ _ _ _ us hl => match us, hl with | [_], _ => rfl
  have F7 := fun_mk (x := "rules_like") (qual := "rules_like") (st := (top 24)) l7 c7 k7
  have b7 := F7.binds (ps := ["rules"]) fun _ _ _ _ _ _ us hl => match us, hl with | [_], _ => rfl
  have F8 := fun_mk (x := "has_parts") (qual := "has_parts") (st := (top 26)) l8 c8 k8
  have b8 := F8.binds (ps := ["thing", "least", "most"]) fun _ _ _ _ _ _ us hl => match us, hl with | [_, _, _], _ => rfl
  have F9 := fun_mk (x := "never_falls") (qual := "never_falls") (st := (top 27)) l9 c9 k9
  have b9 := F9.binds (ps := ["numbers"]) fun _ _ _ _ _ _ us hl => match us, hl with | [_], _ => rfl
  have F10 := fun_mk (x := "is_day") (qual := "is_day") (st := (top 32)) l10 c10 k10
  have b10 := F10.binds (ps := ["thing"]) fun _ _ _ _ _ _ us hl => match us, hl with | [_], _ => rfl
  have F11 := fun_mk (x := "is_work") (qual := "is_work") (st := (top 33)) l11 c11 k11
  have b11 := F11.binds (ps := ["thing"]) fun _ _ _ _ _ _ us hl => match us, hl with | [_], _ => rfl
  have F12 := fun_mk (x := "are_works") (qual := "are_works") (st := (top 34)) l12 c12 k12
  have b12 := F12.binds (ps := ["thing"]) fun _ _ _ _ _ _ us hl => match us, hl with | [_], _ => rfl
  have F13 := fun_mk (x := "look_at_works") (qual := "look_at_works") (st := (top 35)) l13 c13 k13
  have b13 := F13.binds (ps := ["works"]) fun _ _ _ _ _ _ us hl => match us, hl with | [_], _ => rfl
  have F14 := fnd_mk (x := "late_points") (qual := "late_points") (st := (top 50)) (dvs := [(.int 0)]) l14 c14 k14 d14 (List.cons_ne_nil _ _) (.cons ⟨_, rfl⟩ .nil)
  have b14 : Binds K (PySem.W.fnOf "late_points" "late_points" (defArgs (top 50)) (defBody (top 50)) (defScope (top 50)) (.ref D14) kV14 dc14 pm14 an14 cd14 ct14) ["points", "days", "cut"] [] := by
    obtain ⟨ds, r, b⟩ := FunD.binds1 (ps := ["points", "days", "cut"]) F14 3 1 (List.cons_ne_nil _ _) rfl (fun _ _ _ _ _ _ _ us its hu hi => match us, its, hu, hi with | [_, _, _], [_], _, _ => ⟨_, rfl, rfl⟩)
    cases r
    exact b
  have F15 := fun_mk (x := "is_try") (qual := "is_try") (st := (top 51)) l15 c15 k15
  have b15 := F15.binds (ps := ["work", "thing"]) fun _ _ _ _ _ _ us hl => match us, hl with | [_, _], _ => rfl
  have F16 := fun_mk (x := "are_tries") (qual := "are_tries") (st := (top 52)) l16 c16 k16
  have b16 := F16.binds (ps := ["work", "thing"]) fun _ _ _ _ _ _ us hl => match us, hl with | [_, _], _ => rfl
  have F17 := fun_mk (x := "is_result") (qual := "is_result") (st := (top 53)) l17 c17 k17
  have b17 := F17.binds (ps := ["work", "thing"]) fun _ _ _ _ _ _ us hl => match us, hl with | [_, _], _ => rfl
  have F18 := fun_mk (x := "score") (qual := "score") (st := (top 54)) l18 c18 k18
  have b18 := F18.binds (ps := ["work", "rules", "result"]) fun _ _ _ _ _ _ us hl => match us, hl with | [_, _, _], _ => rfl
  have F19 := fun_mk (x := "counted_of") (qual := "counted_of") (st := (top 55)) l19 c19 k19
  have b19 := F19.binds (ps := ["rules", "points"]) fun _ _ _ _ _ _ us hl => match us, hl with | [_, _], _ => rfl
  have F20 := fun_mk (x := "are_rules_for") (qual := "are_rules_for") (st := (top 57)) l20 c20 k20
  have b20 := F20.binds (ps := ["works", "thing"]) fun _ _ _ _ _ _ us hl => match us, hl with | [_, _], _ => rfl
  have F21 := fun_mk (x := "are_results_of") (qual := "are_results_of") (st := (top 58)) l21 c21 k21
  have b21 := F21.binds (ps := ["works", "thing"]) fun _ _ _ _ _ _ us hl => match us, hl with | [_, _], _ => rfl
  have F22 := fun_mk (x := "scores_of") (qual := "scores_of") (st := (top 59)) l22 c22 k22
  have b22 := F22.binds (ps := ["sheet"]) fun _ _ _ _ _ _ us hl => match us, hl with | [_], _ => rfl
  have F23 := fun_mk (x := "counted_in") (qual := "counted_in") (st := (top 60)) l23 c23 k23
  have b23 := F23.binds (ps := ["works", "scores"]) fun _ _ _ _ _ _ us hl => match us, hl with | [_, _], _ => rfl
  have F24 := fnd_mk (x := "__init__") (qual := "Sheet.__init__") (st := (inClass (top 63) 0)) (dvs := [(.int 0)]) l24 c24 k24 d24 (List.cons_ne_nil _ _) (.cons ⟨_, rfl⟩ .nil)
  have b24 : Binds K (PySem.W.fnOf "__init__" "Sheet.__init__" (defArgs (inClass (top 63) 0)) (defBody (inClass (top 63) 0)) (defScope (inClass (top 63) 0)) (.ref D24) kV24 dc24 pm24 an24 cd24 ct24) ["self", "works", "rules", "results", "drop"] [] := by
    obtain ⟨ds, r, b⟩ := FunD.binds1 (ps := ["self", "works", "rules", "results", "drop"]) F24 5 1 (List.cons_ne_nil _ _) rfl (fun _ _ _ _ _ _ _ us its hu hi => match us, its, hu, hi with | [_, _, _, _, _], [_], _, _ => ⟨_, rfl, rfl⟩)
    cases r
    exact b
  have kbk1_Sheet___init___drop_results_rules_works := kbn_mk (fd := (PySem.W.fnOf "__init__" "Sheet.__init__" (defArgs (inClass (top 63) 0)) (defBody (inClass (top 63) 0)) (defScope (inClass (top 63) 0)) (.ref D24) kV24 dc24 pm24 an24 cd24 ct24)) (ps := ["self", "works", "rules", "results", "drop"]) (ks := ["drop", "results", "rules", "works"]) (n := 1) (g := fun us ws => [nU us 0, nU ws 3, nU ws 2, nU ws 1, nU ws 0]) (gV := fun us ws => [nV us 0, nV ws 3, nV ws 2, nV ws 1, nV ws 0]) d24 (fun r z => (.cons (nRel 0 r) (.cons (nRel 3 z) (.cons (nRel 2 z) (.cons (nRel 1 z) (.cons (nRel 0 z) .nil)))))) (fun us ws h1 h2 => match us, ws, h1, h2 with | [_], [_, _, _, _], _, _ => ⟨_, rfl, rfl⟩)
  have kbk4_Sheet___init__ := kbn_mk (fd := (PySem.W.fnOf "__init__" "Sheet.__init__" (defArgs (inClass (top 63) 0)) (defBody (inClass (top 63) 0)) (defScope (inClass (top 63) 0)) (.ref D24) kV24 dc24 pm24 an24 cd24 ct24)) (ps := ["self", "works", "rules", "results", "drop"]) (ks := []) (n := 4) (g := fun us ws => [nU us 0, nU us 1, nU us 2, nU us 3, (.int 0 tk24_0)]) (gV := fun us ws => [nV us 0, nV us 1, nV us 2, nV us 3, (.int 0)]) d24 (fun r z => (.cons (nRel 0 r) (.cons (nRel 1 r) (.cons (nRel 2 r) (.cons (nRel 3 r) (.cons ⟨_, rfl⟩ .nil)))))) (fun us ws h1 h2 => match us, ws, h1, h2 with | [_, _, _, _], [], _, _ => ⟨_, rfl, rfl⟩)
  have kbk5_Sheet___init__ := kbn_mk (fd := (PySem.W.fnOf "__init__" "Sheet.__init__" (defArgs (inClass (top 63) 0)) (defBody (inClass (top 63) 0)) (defScope (inClass (top 63) 0)) (.ref D24) kV24 dc24 pm24 an24 cd24 ct24)) (ps := ["self", "works", "rules", "results", "drop"]) (ks := []) (n := 5) (g := fun us ws => [nU us 0, nU us 1, nU us 2, nU us 3, nU us 4]) (gV := fun us ws => [nV us 0, nV us 1, nV us 2, nV us 3, nV us 4]) d24 (fun r z => (.cons (nRel 0 r) (.cons (nRel 1 r) (.cons (nRel 2 r) (.cons (nRel 3 r) (.cons (nRel 4 r) .nil)))))) (fun us ws h1 h2 => match us, ws, h1, h2 with | [_, _, _, _, _], [], _, _ => ⟨_, rfl, rfl⟩)
  have F25 := fun_mk (x := "__len__") (qual := "Sheet.__len__") (st := (inClass (top 63) 1)) l25 c25 k25
  have b25 := F25.binds (ps := ["self"]) fun _ _ _ _ _ _ us hl => match us, hl with | [_], _ => rfl
  have F26 := fun_mk (x := "rows") (qual := "Sheet.rows") (st := (inClass (top 63) 4)) l26 c26 k26
  have b26 := F26.binds (ps := ["self"]) fun _ _ _ _ _ _ us hl => match us, hl with | [_], _ => rfl
  have F27 := fun_mk (x := "extra") (qual := "Sheet.extra") (st := (inClass (top 63) 5)) l27 c27 k27
  have b27 := F27.binds (ps := ["self"]) fun _ _ _ _ _ _ us hl => match us, hl with | [_], _ => rfl
  have F28 := fun_mk (x := "_law_cell_at") (qual := "_law_cell_at") (st := (top 65)) l28 c28 k28
  have b28 := F28.binds (ps := ["_law_script", "_law_k"]) fun _ _ _ _ _ _ us hl => match us, hl with | [_, _], _ => rfl
  have F29 := fun_mk (x := "_law_state") (qual := "_law_state") (st := (top 66)) l29 c29 k29
  have b29 := F29.binds (ps := ["_law_script", "_law_k"]) fun _ _ _ _ _ _ us hl => match us, hl with | [_, _], _ => rfl
  have F30 := fun_mk (x := "_law_take") (qual := "_law_take") (st := (top 67)) l30 c30 k30
  have b30 := F30.binds (ps := ["_law_state_here", "_law_many"]) fun _ _ _ _ _ _ us hl => match us, hl with | [_, _], _ => rfl
  have F31 := fun_mk (x := "_law_works") (qual := "_law_works") (st := (top 68)) l31 c31 k31
  have b31 := F31.binds (ps := ["_law_state_here", "_law_most"]) fun _ _ _ _ _ _ us hl => match us, hl with | [_, _], _ => rfl
  have F32 := fun_mk (x := "_law_rule") (qual := "_law_rule") (st := (top 69)) l32 c32 k32
  have b32 := F32.binds (ps := ["_law_state_here"]) fun _ _ _ _ _ _ us hl => match us, hl with | [_], _ => rfl
  have F33 := fun_mk (x := "_law_made") (qual := "_law_made") (st := (top 70)) l33 c33 k33
  have b33 := F33.binds (ps := ["_law_rule_here"]) fun _ _ _ _ _ _ us hl => match us, hl with | [_], _ => rfl
  have F34 := fun_mk (x := "_law_try") (qual := "_law_try") (st := (top 71)) l34 c34 k34
  have b34 := F34.binds (ps := ["_law_state_here", "_law_task"]) fun _ _ _ _ _ _ us hl => match us, hl with | [_, _], _ => rfl
  have F35 := funT_mk (x := "_law_result") (qual := "_law_result") (st := (top 72)) l35 c35 k35
  have b35 := F35.toFun.binds (ps := ["_law_state_here", "_law_task"]) fun _ _ _ _ _ _ us hl => match us, hl with | [_, _], _ => rfl
  have F36 := fun_mk (x := "_law_points") (qual := "_law_points") (st := (top 73)) l36 c36 k36
  have b36 := F36.binds (ps := ["_law_got", "_law_dates", "_law_loss"]) fun _ _ _ _ _ _ us hl => match us, hl with | [_, _, _], _ => rfl
  have F37 := fun_mk (x := "_law_score") (qual := "_law_score") (st := (top 74)) l37 c37 k37
  have b37 := F37.binds (ps := ["_law_task", "_law_rule_here", "_law_outcome"]) fun _ _ _ _ _ _ us hl => match us, hl with | [_, _, _], _ => rfl
  have F38 := fun_mk (x := "_law_lots") (qual := "_law_lots") (st := (top 75)) l38 c38 k38
  have b38 := F38.binds (ps := ["_law_many", "_law_few"]) fun _ _ _ _ _ _ us hl => match us, hl with | [_, _], _ => rfl
  have F39 := fun_mk (x := "_law_best") (qual := "_law_best") (st := (top 76)) l39 c39 k39
  have b39 := F39.binds (ps := ["_law_rows", "_law_leave", "_law_extra"]) fun _ _ _ _ _ _ us hl => match us, hl with | [_, _, _], _ => rfl
  have F40 := fun_mk (x := "_law_told") (qual := "_law_told") (st := (top 77)) l40 c40 k40
  have b40 := F40.binds (ps := ["_law_tasks", "_law_ruled", "_law_outcomes", "_law_leave"]) fun _ _ _ _ _ _ us hl => match us, hl with | [_, _, _, _], _ => rfl
  have F41 := fun_mk (x := "_law_parts") (qual := "_law_parts") (st := (top 78)) l41 c41 k41
  have b41 := F41.binds (ps := ["_law_state_here", "_law_most"]) fun _ _ _ _ _ _ us hl => match us, hl with | [_, _], _ => rfl
  have F42 := fun_mk (x := "_law_same") (qual := "_law_same") (st := (top 79)) l42 c42 k42
  have b42 := F42.binds (ps := ["_law_found", "_law_due"]) fun _ _ _ _ _ _ us hl => match us, hl with | [_, _], _ => rfl
  have F43 := fun_mk (x := "law") (qual := "law") (st := (top 80)) l43 c43 k43
  have b43 := F43.binds (ps := ["_law_script"]) fun _ _ _ _ _ _ us hl => match us, hl with | [_], _ => rfl
  have cl_Rules : Cls K C_Rules := ⟨q_Rules_pg, q_Rules_hd, q_Rules_po, q_Rules_sa⟩
  have is_Rules : IsiC K C_Rules := ⟨cl_Rules, q_Rules_ha, q_Rules_hn, q_Rules_ht, q_Rules_ob, kit_own, fun T h => kit_kind q_Rules_cs q_Rules_ty T h⟩
  have cl_Sheet : Cls K C_Sheet := ⟨q_Sheet_pg, q_Sheet_hd, q_Sheet_po, q_Sheet_sa⟩
  have is_Sheet : IsiC K C_Sheet := ⟨cl_Sheet, q_Sheet_ha, q_Sheet_hn, q_Sheet_ht, q_Sheet_ob, kit_own, fun T h => kit_kind q_Sheet_cs q_Sheet_ty T h⟩
  letI : Tbls := ⟨[(PP35, "_law_result.<locals>.<lambda>")]⟩
  have tq35 : ∀ p ∈ ([(PP35, "_law_result.<locals>.<lambda>")] : List (Addr × Str)), p.1 = PP35 → p.2 = "_law_result.<locals>.<lambda>" := by
    intro p hp e
    simp only [List.mem_cons, List.not_mem_nil, or_false] at hp
    rcases hp with rfl
    · rfl
  let T : Tx K mg := {
    f_is_whole_from := f0,
    fd_is_whole_from := _,
    F_is_whole_from := F0,
    b_is_whole_from := b0,
    m_is_whole_from := PySem.W.mg_of X G a0,
    f_is_whole_in := f1,
    fd_is_whole_in := _,
    F_is_whole_in := F1,
    b_is_whole_in := b1,
    m_is_whole_in := PySem.W.mg_of X G a1,
    f_is_drop := f2,
    fd_is_drop := _,
    F_is_drop := F2,
    b_is_drop := b2,
    m_is_drop := PySem.W.mg_of X G a2,
    f_is_cut := f3,
    fd_is_cut := _,
    F_is_cut := F3,
    b_is_cut := b3,
    m_is_cut := PySem.W.mg_of X G a3,
    f_is_second := f4,
    fd_is_second := _,
    F_is_second := F4,
    b_is_second := b4,
    m_is_second := PySem.W.mg_of X G a4,
    f_Rules___init__ := f5,
    fd_Rules___init__ := _,
    F_Rules___init__ := F5,
    b_Rules___init__ := b5,
    k1_Rules___init___drop_cut_second := kbk1_Rules___init___drop_cut_second,
    k4_Rules___init__ := kbk4_Rules___init__,
    f_Rules___repr__ := f6,
    fd_Rules___repr__ := _,
    F_Rules___repr__ := F6,
    b_Rules___repr__ := b6,
    f_rules_like := f7,
    fd_rules_like := _,
    F_rules_like := F7,
    b_rules_like := b7,
    m_rules_like := PySem.W.mg_of X G a7,
    f_has_parts := f8,
    fd_has_parts := _,
    F_has_parts := F8,
    b_has_parts := b8,
    m_has_parts := PySem.W.mg_of X G a8,
    f_never_falls := f9,
    fd_never_falls := _,
    F_never_falls := F9,
    b_never_falls := b9,
    m_never_falls := PySem.W.mg_of X G a9,
    f_is_day := f10,
    fd_is_day := _,
    F_is_day := F10,
    b_is_day := b10,
    m_is_day := PySem.W.mg_of X G a10,
    f_is_work := f11,
    fd_is_work := _,
    F_is_work := F11,
    b_is_work := b11,
    m_is_work := PySem.W.mg_of X G a11,
    f_are_works := f12,
    fd_are_works := _,
    F_are_works := F12,
    b_are_works := b12,
    m_are_works := PySem.W.mg_of X G a12,
    f_look_at_works := f13,
    fd_look_at_works := _,
    F_look_at_works := F13,
    b_look_at_works := b13,
    m_look_at_works := PySem.W.mg_of X G a13,
    f_late_points := f14,
    fd_late_points := _,
    F_late_points := F14,
    b_late_points := b14,
    m_late_points := PySem.W.mg_of X G a14,
    f_is_try := f15,
    fd_is_try := _,
    F_is_try := F15,
    b_is_try := b15,
    m_is_try := PySem.W.mg_of X G a15,
    f_are_tries := f16,
    fd_are_tries := _,
    F_are_tries := F16,
    b_are_tries := b16,
    m_are_tries := PySem.W.mg_of X G a16,
    f_is_result := f17,
    fd_is_result := _,
    F_is_result := F17,
    b_is_result := b17,
    m_is_result := PySem.W.mg_of X G a17,
    f_score := f18,
    fd_score := _,
    F_score := F18,
    b_score := b18,
    m_score := PySem.W.mg_of X G a18,
    f_counted_of := f19,
    fd_counted_of := _,
    F_counted_of := F19,
    b_counted_of := b19,
    m_counted_of := PySem.W.mg_of X G a19,
    f_are_rules_for := f20,
    fd_are_rules_for := _,
    F_are_rules_for := F20,
    b_are_rules_for := b20,
    m_are_rules_for := PySem.W.mg_of X G a20,
    f_are_results_of := f21,
    fd_are_results_of := _,
    F_are_results_of := F21,
    b_are_results_of := b21,
    m_are_results_of := PySem.W.mg_of X G a21,
    f_scores_of := f22,
    fd_scores_of := _,
    F_scores_of := F22,
    b_scores_of := b22,
    m_scores_of := PySem.W.mg_of X G a22,
    f_counted_in := f23,
    fd_counted_in := _,
    F_counted_in := F23,
    b_counted_in := b23,
    m_counted_in := PySem.W.mg_of X G a23,
    f_Sheet___init__ := f24,
    fd_Sheet___init__ := _,
    F_Sheet___init__ := F24,
    b_Sheet___init__ := b24,
    k1_Sheet___init___drop_results_rules_works := kbk1_Sheet___init___drop_results_rules_works,
    k4_Sheet___init__ := ⟨_, kbk4_Sheet___init__⟩,
    k5_Sheet___init__ := kbk5_Sheet___init__,
    f_Sheet___len__ := f25,
    fd_Sheet___len__ := _,
    F_Sheet___len__ := F25,
    b_Sheet___len__ := b25,
    f_Sheet_rows := f26,
    fd_Sheet_rows := _,
    mt_Sheet_rows := ⟨a26, i26, k26⟩,
    F_Sheet_rows := F26,
    b_Sheet_rows := b26,
    f_Sheet_extra := f27,
    fd_Sheet_extra := _,
    mt_Sheet_extra := ⟨a27, i27, k27⟩,
    F_Sheet_extra := F27,
    b_Sheet_extra := b27,
    f__law_cell_at := f28,
    fd__law_cell_at := _,
    F__law_cell_at := F28,
    b__law_cell_at := b28,
    m__law_cell_at := PySem.W.mg_of X G a28,
    f__law_state := f29,
    fd__law_state := _,
    F__law_state := F29,
    b__law_state := b29,
    m__law_state := PySem.W.mg_of X G a29,
    f__law_take := f30,
    fd__law_take := _,
    F__law_take := F30,
    b__law_take := b30,
    m__law_take := PySem.W.mg_of X G a30,
    f__law_works := f31,
    fd__law_works := _,
    F__law_works := F31,
    b__law_works := b31,
    m__law_works := PySem.W.mg_of X G a31,
    f__law_rule := f32,
    fd__law_rule := _,
    F__law_rule := F32,
    b__law_rule := b32,
    m__law_rule := PySem.W.mg_of X G a32,
    f__law_made := f33,
    fd__law_made := _,
    F__law_made := F33,
    b__law_made := b33,
    m__law_made := PySem.W.mg_of X G a33,
    f__law_try := f34,
    fd__law_try := _,
    F__law_try := F34,
    b__law_try := b34,
    m__law_try := PySem.W.mg_of X G a34,
    f__law_result := f35,
    fd__law_result := _,
    c__law_result := cc35,
    P__law_result := PP35,
    t__law_result := ⟨.head _, tq35⟩,
    F__law_result := F35,
    b__law_result := b35,
    m__law_result := PySem.W.mg_of X G a35,
    f__law_points := f36,
    fd__law_points := _,
    F__law_points := F36,
    b__law_points := b36,
    m__law_points := PySem.W.mg_of X G a36,
    f__law_score := f37,
    fd__law_score := _,
    F__law_score := F37,
    b__law_score := b37,
    m__law_score := PySem.W.mg_of X G a37,
    f__law_lots := f38,
    fd__law_lots := _,
    F__law_lots := F38,
    b__law_lots := b38,
    m__law_lots := PySem.W.mg_of X G a38,
    f__law_best := f39,
    fd__law_best := _,
    F__law_best := F39,
    b__law_best := b39,
    m__law_best := PySem.W.mg_of X G a39,
    f__law_told := f40,
    fd__law_told := _,
    F__law_told := F40,
    b__law_told := b40,
    m__law_told := PySem.W.mg_of X G a40,
    f__law_parts := f41,
    fd__law_parts := _,
    F__law_parts := F41,
    b__law_parts := b41,
    m__law_parts := PySem.W.mg_of X G a41,
    f__law_same := f42,
    fd__law_same := _,
    F__law_same := F42,
    b__law_same := b42,
    m__law_same := PySem.W.mg_of X G a42,
    f_law := fa,
    fd_law := _,
    F_law := F43,
    b_law := b43,
    m_law := PySem.W.mg_of X G a43,
    C_Rules := C_Rules,
    m_Rules := PySem.W.mg_of X G aC_Rules,
    cl_Rules := cl_Rules,
    is_Rules := is_Rules,
    na_Rules_drop := q_Rules_na_drop,
    na_Rules_cut := q_Rules_na_cut,
    na_Rules_second := q_Rules_na_second,
    M_Rules := ⟨q_Rules_mk, a5, i5, q_Rules_kc⟩,
    rp_Rules := a6,
    rf_Rules := i6,
    C_Sheet := C_Sheet,
    m_Sheet := PySem.W.mg_of X G aC_Sheet,
    cl_Sheet := cl_Sheet,
    is_Sheet := is_Sheet,
    na_Sheet_works := q_Sheet_na_works,
    na_Sheet_rules := q_Sheet_na_rules,
    na_Sheet_results := q_Sheet_na_results,
    na_Sheet_drop := q_Sheet_na_drop,
    M_Sheet := ⟨q_Sheet_mk, a24, i24, q_Sheet_kc⟩,
    sl_Sheet := a25,
    lf_Sheet := i25,
    m_EXCUSED := ⟨_, PySem.W.mg_of X G z_EXCUSED⟩,
    m_LAST_DAY := ⟨_, PySem.W.mg_of X G z_LAST_DAY⟩,
    m_MOST_CUT := ⟨_, PySem.W.mg_of X G z_MOST_CUT⟩,
    m_MOST_DROP := ⟨_, PySem.W.mg_of X G z_MOST_DROP⟩,
    m_MOST_POINTS := ⟨_, PySem.W.mg_of X G z_MOST_POINTS⟩,
    m_MOST_TRIES := ⟨_, PySem.W.mg_of X G z_MOST_TRIES⟩,
    m_MOST_WORKS := ⟨_, PySem.W.mg_of X G z_MOST_WORKS⟩,
    a_SECONDS := w_SECONDS,
    m_SECONDS := PySem.W.mg_of X G z_SECONDS,
    l_SECONDS := ⟨_, _, _, y_SECONDS, rfl, rfl, (show 3 ≤ sizeLine by decide), (.cons ⟨_, rfl⟩ (.cons ⟨_, rfl⟩ (.cons ⟨_, rfl⟩ .nil)))⟩,
    m__law_one := PySem.W.mg_none_of X G z__law_one,
    m_all := PySem.W.mg_none_of X G z_all,
    m_bool := PySem.W.mg_none_of X G z_bool,
    m_enumerate := PySem.W.mg_none_of X G z_enumerate,
    m_int := PySem.W.mg_none_of X G z_int,
    m_isinstance := PySem.W.mg_none_of X G z_isinstance,
    m_len := PySem.W.mg_none_of X G z_len,
    m_list := PySem.W.mg_none_of X G z_list,
    m_max := PySem.W.mg_none_of X G z_max,
    m_min := PySem.W.mg_none_of X G z_min,
    m_range := PySem.W.mg_none_of X G z_range,
    m_repr := PySem.W.mg_none_of X G z_repr,
    m_sorted := PySem.W.mg_none_of X G z_sorted,
    m_str := PySem.W.mg_none_of X G z_str,
    m_sum := PySem.W.mg_none_of X G z_sum,
    m_tuple := PySem.W.mg_none_of X G z_tuple,
    m_zip := PySem.W.mg_none_of X G z_zip }
  refine ⟨_, [(cc35, PP35)], [(PP35, "_law_result.<locals>.<lambda>")], fun s v => (.of_eq rfl : BindsTo s (PySem.W.fnOf "law" "law" (defArgs (top 80)) (defBody (top 80)) (defScope (top 80)) .none kV43 dc43 pm43 an43 cd43 ct43) ⟨[v], []⟩ [("_law_script", v)]), (List.forall_mem_cons.mpr ⟨TF _ _ _ tr35 (tabIn_of a35 l35 rfl tc35 tt35), (fun _ z => by cases z)⟩), (List.forall_mem_cons.mpr ⟨tn35, (fun _ z => by cases z)⟩), (List.forall_mem_cons.mpr ⟨⟨_, .head _, rfl⟩, (fun _ z => by cases z)⟩), fun base _ _ TBs => ?_⟩
  have G_Rules___repr__ := ok_Rules___repr__ (P := l.prog) (w := w) (base := base) T 
  have G_has_parts := ok_has_parts (P := l.prog) (w := w) (base := base) T 
  have G_is_whole_from := ok_is_whole_from (P := l.prog) (w := w) (base := base) T 
  have G_is_whole_in := ok_is_whole_in (P := l.prog) (w := w) (base := base) T G_is_whole_from
  have G_is_day := ok_is_day (P := l.prog) (w := w) (base := base) T G_is_whole_in
  have G_is_try := ok_is_try (P := l.prog) (w := w) (base := base) T G_has_parts G_is_day G_is_whole_in
  have G_never_falls := ok_never_falls (P := l.prog) (w := w) (base := base) T 
  have G_are_tries := ok_are_tries (P := l.prog) (w := w) (base := base) T G_has_parts G_is_try G_never_falls
  have G_is_work := ok_is_work (P := l.prog) (w := w) (base := base) T G_has_parts G_is_day G_is_whole_in
  have G_is_result := ok_is_result (P := l.prog) (w := w) (base := base) T G_are_tries G_is_work
  have G_are_results_of := ok_are_results_of (P := l.prog) (w := w) (base := base) T G_has_parts G_is_result
  have G_are_rules_for := ok_are_rules_for (P := l.prog) (w := w) (base := base) T G_has_parts
  have G_is_drop := ok_is_drop (P := l.prog) (w := w) (base := base) T G_is_whole_in
  have G_are_works := ok_are_works (P := l.prog) (w := w) (base := base) T G_has_parts G_is_work G_never_falls
  have G_look_at_works := ok_look_at_works (P := l.prog) (w := w) (base := base) T G_are_works
  have G_is_cut := ok_is_cut (P := l.prog) (w := w) (base := base) T G_is_whole_in
  have G_is_second := ok_is_second (P := l.prog) (w := w) (base := base) T 
  have G_Rules___init__ := ok_Rules___init__ (P := l.prog) (w := w) (base := base) T G_is_cut G_is_drop G_is_second
  have G_rules_like := ok_rules_like (P := l.prog) (w := w) (base := base) T G_Rules___init__
  have G_Sheet___init__ := ok_Sheet___init__ (P := l.prog) (w := w) (base := base) T G_are_results_of G_are_rules_for G_is_drop G_look_at_works G_rules_like
  have G_counted_in := ok_counted_in (P := l.prog) (w := w) (base := base) T 
  have G_counted_of := ok_counted_of (P := l.prog) (w := w) (base := base) T 
  have G_late_points := ok_late_points (P := l.prog) (w := w) (base := base) T 
  have G_score := ok_score (P := l.prog) (w := w) (base := base) T G_counted_of G_is_result G_is_work G_late_points
  have G_scores_of := ok_scores_of (P := l.prog) (w := w) (base := base) T G_score
  have G_Sheet_rows := ok_Sheet_rows (P := l.prog) (w := w) (base := base) T G_counted_in G_scores_of
  have G_Sheet___len__ := ok_Sheet___len__ (P := l.prog) (w := w) (base := base) T G_Sheet_rows
  have G_Sheet_extra := ok_Sheet_extra (P := l.prog) (w := w) (base := base) T G_scores_of
  have G__law_made := ok__law_made (P := l.prog) (w := w) (base := base) T G_Rules___init__
  have G__law_take := ok__law_take (P := l.prog) (w := w) (base := base) T 
  have G__law_try := ok__law_try (P := l.prog) (w := w) (base := base) T G__law_take
  have G__law_result := ok__law_result (P := l.prog) (w := w) (base := base) T (TBs _ (.head _)) G__law_take G__law_try
  have G__law_rule := ok__law_rule (P := l.prog) (w := w) (base := base) T G__law_take
  have G__law_works := ok__law_works (P := l.prog) (w := w) (base := base) T G__law_take
  have G__law_parts := ok__law_parts (P := l.prog) (w := w) (base := base) T G__law_result G__law_rule G__law_take G__law_works
  have G__law_same := ok__law_same (P := l.prog) (w := w) (base := base) T G_Rules___repr__
  have G__law_cell_at := ok__law_cell_at (P := l.prog) (w := w) (base := base) T 
  have G__law_state := ok__law_state (P := l.prog) (w := w) (base := base) T G__law_cell_at
  have G__law_lots := ok__law_lots (P := l.prog) (w := w) (base := base) T 
  have G__law_best := ok__law_best (P := l.prog) (w := w) (base := base) T G__law_lots
  have G__law_points := ok__law_points (P := l.prog) (w := w) (base := base) T 
  have G__law_score := ok__law_score (P := l.prog) (w := w) (base := base) T G__law_points
  have G__law_told := ok__law_told (P := l.prog) (w := w) (base := base) T G__law_best G__law_score
  have G_law := ok_law (P := l.prog) (w := w) (base := base) T G_Rules___repr__ G_Sheet___init__ G_Sheet___len__ G_Sheet_extra G_Sheet_rows G__law_made G__law_parts G__law_same G__law_state G__law_told
  exact G_law
end Dl
open PySem PySem.W PyProof.Rows
set_option maxRecDepth 100000 in
set_option maxHeartbeats 0 in
theorem PySem.Challenge.cw_classmarks_k50_sheets_rows_and_extra_poi_holds : PySem.Challenge.rw_classmarks_k50_sheets_rows_and_extra_poi.Holds := by
  w_on; o_law; k_head; (case hw => w_witness2)
  k_fill
  refine Dl.walkT (k := 40) (x := "_law_script") (l := PySem.Challenge.rw_classmarks_k50_sheets_rows_and_extra_poi) rfl rfl ⟨rfl, by decide, by decide⟩ (fun w h Y => by first | exact PySem.W.kIn_of Y | exact PySem.W.km_in_of Y) ?F
  case F =>
    intro w mg fa h KX G TF hmg
    refine' Dl.all_mk KX G TF hmg ?aC_Rules ?aC_Sheet ?a0 ?l0 ?c0 ?k0 ?a1 ?l1 ?c1 ?k1 ?a2 ?l2 ?c2 ?k2 ?a3 ?l3 ?c3 ?k3 ?a4 ?l4 ?c4 ?k4 ?a5 ?i5 ?l5 ?c5 ?k5 ?d5 ?a6 ?i6 ?l6 ?c6 ?k6 ?a7 ?l7 ?c7 ?k7 ?a8 ?l8 ?c8 ?k8 ?a9 ?l9 ?c9 ?k9 ?a10 ?l10 ?c10 ?k10 ?a11 ?l11 ?c11 ?k11 ?a12 ?l12 ?c12 ?k12 ?a13 ?l13 ?c13 ?k13 ?a14 ?l14 ?c14 ?k14 ?d14 ?a15 ?l15 ?c15 ?k15 ?a16 ?l16 ?c16 ?k16 ?a17 ?l17 ?c17 ?k17 ?a18 ?l18 ?c18 ?k18 ?a19 ?l19 ?c19 ?k19 ?a20 ?l20 ?c20 ?k20 ?a21 ?l21 ?c21 ?k21 ?a22 ?l22 ?c22 ?k22 ?a23 ?l23 ?c23 ?k23 ?a24 ?i24 ?l24 ?c24 ?k24 ?d24 ?a25 ?i25 ?l25 ?c25 ?k25 ?a26 ?i26 ?l26 ?c26 ?k26 ?a27 ?i27 ?l27 ?c27 ?k27 ?a28 ?l28 ?c28 ?k28 ?a29 ?l29 ?c29 ?k29 ?a30 ?l30 ?c30 ?k30 ?a31 ?l31 ?c31 ?k31 ?a32 ?l32 ?c32 ?k32 ?a33 ?l33 ?c33 ?k33 ?a34 ?l34 ?c34 ?k34 ?a35 ?l35 ?c35 ?k35 ?tc35 ?tt35 ?tn35 ?tr35 ?a36 ?l36 ?c36 ?k36 ?a37 ?l37 ?c37 ?k37 ?a38 ?l38 ?c38 ?k38 ?a39 ?l39 ?c39 ?k39 ?a40 ?l40 ?c40 ?k40 ?a41 ?l41 ?c41 ?k41 ?a42 ?l42 ?c42 ?k42 ?a43 ?l43 ?c43 ?k43 ?q_Rules_pg ?q_Rules_hd ?q_Rules_po ?q_Rules_sa ?q_Rules_mk ?q_Rules_kc ?q_Rules_ob ?q_Rules_ha ?q_Rules_ht ?q_Rules_hn ?q_Rules_cs ?q_Rules_ty ?q_Rules_na_drop ?q_Rules_na_cut ?q_Rules_na_second ?q_Sheet_pg ?q_Sheet_hd ?q_Sheet_po ?q_Sheet_sa ?q_Sheet_mk ?q_Sheet_kc ?q_Sheet_ob ?q_Sheet_ha ?q_Sheet_ht ?q_Sheet_hn ?q_Sheet_cs ?q_Sheet_ty ?q_Sheet_na_works ?q_Sheet_na_rules ?q_Sheet_na_results ?q_Sheet_na_drop ?z_EXCUSED ?z_LAST_DAY ?z_MOST_CUT ?z_MOST_DROP ?z_MOST_POINTS ?z_MOST_TRIES ?z_MOST_WORKS ?y_SECONDS ?z_SECONDS ?z__law_one ?z_all ?z_bool ?z_enumerate ?z_int ?z_isinstance ?z_len ?z_list ?z_max ?z_min ?z_range ?z_repr ?z_sorted ?z_str ?z_sum ?z_tuple ?z_zip
    (case aC_Rules => k_is); (case aC_Sheet => k_is); (case a0 => k_is); (case l0 => k_is); (case c0 => k_is); (case k0 => k_is); (case a1 => k_is); (case l1 => k_is)
    (case c1 => k_is); (case k1 => k_is); (case a2 => k_is); (case l2 => k_is); (case c2 => k_is); (case k2 => k_is); (case a3 => k_is); (case l3 => k_is)
    (case c3 => k_is); (case k3 => k_is); (case a4 => k_is); (case l4 => k_is); (case c4 => k_is); (case k4 => k_is); (case a5 => k_is); (case i5 => k_is)
    (case l5 => k_is); (case c5 => k_is); (case k5 => k_is); (case d5 => k_is); (case a6 => k_is); (case i6 => k_is); (case l6 => k_is); (case c6 => k_is)
    (case k6 => k_is); (case a7 => k_is); (case l7 => k_is); (case c7 => k_is); (case k7 => k_is); (case a8 => k_is); (case l8 => k_is); (case c8 => k_is)
    (case k8 => k_is); (case a9 => k_is); (case l9 => k_is); (case c9 => k_is); (case k9 => k_is); (case a10 => k_is); (case l10 => k_is); (case c10 => k_is)
    (case k10 => k_is); (case a11 => k_is); (case l11 => k_is); (case c11 => k_is); (case k11 => k_is); (case a12 => k_is); (case l12 => k_is); (case c12 => k_is)
    (case k12 => k_is); (case a13 => k_is); (case l13 => k_is); (case c13 => k_is); (case k13 => k_is); (case a14 => k_is); (case l14 => k_is); (case c14 => k_is)
    (case k14 => k_is); (case d14 => k_is); (case a15 => k_is); (case l15 => k_is); (case c15 => k_is); (case k15 => k_is); (case a16 => k_is); (case l16 => k_is)
    (case c16 => k_is); (case k16 => k_is); (case a17 => k_is); (case l17 => k_is); (case c17 => k_is); (case k17 => k_is); (case a18 => k_is); (case l18 => k_is)
    (case c18 => k_is); (case k18 => k_is); (case a19 => k_is); (case l19 => k_is); (case c19 => k_is); (case k19 => k_is); (case a20 => k_is); (case l20 => k_is)
    (case c20 => k_is); (case k20 => k_is); (case a21 => k_is); (case l21 => k_is); (case c21 => k_is); (case k21 => k_is); (case a22 => k_is); (case l22 => k_is)
    (case c22 => k_is); (case k22 => k_is); (case a23 => k_is); (case l23 => k_is); (case c23 => k_is); (case k23 => k_is); (case a24 => k_is); (case i24 => k_is)
    (case l24 => k_is); (case c24 => k_is); (case k24 => k_is); (case d24 => k_is); (case a25 => k_is); (case i25 => k_is); (case l25 => k_is); (case c25 => k_is)
    (case k25 => k_is); (case a26 => k_is); (case i26 => k_is); (case l26 => k_is); (case c26 => k_is); (case k26 => k_is); (case a27 => k_is); (case i27 => k_is)
    (case l27 => k_is); (case c27 => k_is); (case k27 => k_is); (case a28 => k_is); (case l28 => k_is); (case c28 => k_is); (case k28 => k_is); (case a29 => k_is)
    (case l29 => k_is); (case c29 => k_is); (case k29 => k_is); (case a30 => k_is); (case l30 => k_is); (case c30 => k_is); (case k30 => k_is); (case a31 => k_is)
    (case l31 => k_is); (case c31 => k_is); (case k31 => k_is); (case a32 => k_is); (case l32 => k_is); (case c32 => k_is); (case k32 => k_is); (case a33 => k_is)
    (case l33 => k_is); (case c33 => k_is); (case k33 => k_is); (case a34 => k_is); (case l34 => k_is); (case c34 => k_is); (case k34 => k_is); (case a35 => k_is)
    (case l35 => k_is); (case c35 => k_is); (case k35 => k_is); (case tc35 => k_is); (case tt35 => exact rfl); (case tn35 => first | kernel_rfl | exact rfl | decide +kernel); (case tr35 => first | kernel_rfl | decide +kernel); (case a36 => k_is); (case l36 => k_is); (case c36 => k_is); (case k36 => k_is); (case a37 => k_is)
    (case l37 => k_is); (case c37 => k_is); (case k37 => k_is); (case a38 => k_is); (case l38 => k_is); (case c38 => k_is); (case k38 => k_is); (case a39 => k_is)
    (case l39 => k_is); (case c39 => k_is); (case k39 => k_is); (case a40 => k_is); (case l40 => k_is); (case c40 => k_is); (case k40 => k_is); (case a41 => k_is)
    (case l41 => k_is); (case c41 => k_is); (case k41 => k_is); (case a42 => k_is); (case l42 => k_is); (case c42 => k_is); (case k42 => k_is); (case a43 => k_is)
    (case l43 => k_is); (case c43 => k_is); (case k43 => k_is); (case q_Rules_pg => k_is); (case q_Rules_hd => k_is); (case q_Rules_po => k_is); (case q_Rules_sa => k_is); (case q_Rules_mk => k_is)
    (case q_Rules_kc => k_is); (case q_Rules_ob => k_is); (case q_Rules_ha => k_is); (case q_Rules_ht => k_is); (case q_Rules_hn => k_is); (case q_Rules_cs => k_is); (case q_Rules_ty => k_is); (case q_Rules_na_drop => k_is)
    (case q_Rules_na_cut => k_is); (case q_Rules_na_second => k_is); (case q_Sheet_pg => k_is); (case q_Sheet_hd => k_is); (case q_Sheet_po => k_is); (case q_Sheet_sa => k_is); (case q_Sheet_mk => k_is); (case q_Sheet_kc => k_is)
    (case q_Sheet_ob => k_is); (case q_Sheet_ha => k_is); (case q_Sheet_ht => k_is); (case q_Sheet_hn => k_is); (case q_Sheet_cs => k_is); (case q_Sheet_ty => k_is); (case q_Sheet_na_works => k_is); (case q_Sheet_na_rules => k_is)
    (case q_Sheet_na_results => k_is); (case q_Sheet_na_drop => k_is); (case z_EXCUSED => k_is); (case z_LAST_DAY => k_is); (case z_MOST_CUT => k_is); (case z_MOST_DROP => k_is); (case z_MOST_POINTS => k_is); (case z_MOST_TRIES => k_is)
    (case z_MOST_WORKS => k_is); (case y_SECONDS => k_is); (case z_SECONDS => k_is); (case z__law_one => k_is); (case z_all => k_is); (case z_bool => k_is); (case z_enumerate => k_is); (case z_int => k_is)
    (case z_isinstance => k_is); (case z_len => k_is); (case z_list => k_is); (case z_max => k_is); (case z_min => k_is); (case z_range => k_is); (case z_repr => k_is); (case z_sorted => k_is)
    (case z_str => k_is); (case z_sum => k_is); (case z_tuple => k_is); (case z_zip => k_is)
