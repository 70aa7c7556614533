import PyProof.Rows.All
import Wide.All
import OpenK.AllK
import Wide.FinOn
import HandS.ForMost
import HandS.IsInst
import HandS.Wide
import HandS.Deep
import HandS.TupAny
import HandS.Flow
import HandS.EndBits
import PyProof.ReprRoads
import PyProof.ReprLen
import HandS.Style
import HandS.Sort
import HandS.SortOrd
import HandS.SortRule
import HandS.SortKw
import HandS.Zip
import PySem.Challenge.RW_stilltold_k02_the_kth_greatest
set_option Elab.async false
set_option linter.all false
set_option maxRecDepth 100000
namespace Lw
open PySem PySem.Spec PyProof.Rows L2

/-! ### defs that call repr: what no repr is under way around -/
structure FnG (P : Program) (w : World) (K : PySem.W.Frag) (mg : Str → Option Value) (base : Heap) (k : Nat) (f : Addr) (fd : FuncData) (ps : List Str) (sp : Sp) : Prop where
  lenG : ∀ vs H Q E, sp vs H Q E → vs.length = ps.length
  runG : ∀ (A : Around) (outer : List Env) (s : Shared) (H : Hp) (args : Args) (us : List Value) (vs : List V) (Q : VK) (E : XK), A.guards = some [] →
    Room k A → Env0 P w K mg base A outer s H → BindsTo s fd args (ps.zip us) → Vals vs us → sp vs H Q E →
    codeAny (model P w) A (.call (.ref f) args) (CR CX0 outer P w H s Q E) s

theorem FnG.ofOk {P : Program} {w : World} {K : PySem.W.Frag} {mg : Str → Option Value} {base : Heap} {k : Nat} {f : Addr} {fd : FuncData} {ps : List Str} {sp : Sp}
    (F : FnOk P w K mg base CX0 k f fd ps sp) : FnG P w K mg base k f fd ps sp :=
  ⟨F.len, fun A outer s H args us vs Q E _ => F.run A outer s H args us vs Q E⟩

section
variable {P : Program} {w : World} {K : PySem.W.Frag} {mg : Str → Option Value} {base : Heap}
theorem okG {x qual : Str} {st : Stmt} {f : Addr} {fd : FuncData} {N ps : List Str} {k : Nat} {sp : Sp}
    (F : Fun K x qual st f fd) (S : FnScope N ps (defScope st)) (len : ∀ vs H Q E, sp vs H Q E → vs.length = ps.length)
    (body : ∀ (cdv : Value) (A : Around) (outer : List Env) (s : Shared) (H : Hp) (vs : List V) (Q : VK) (E : XK), A.guards = some [] →
      Room k (A.deeper (envOfC qual (defScope st) s.heap.objs.size f cdv)) → sp vs H Q E →
      ∃ t, PSs (cxOf CX0 P w K mg base N qual (defScope st) f cdv A outer s H E).nox (defBody st) t ∧
        t { nx := fun _ H' => Q .non H', rt := Q } (start N vs) H) :
    FnG P w K mg base (k + 1) f fd ps sp := by
  obtain ⟨oc, od, kV, doc, pm, an, cdv, ct, osl, rfl, lk, hcd⟩ := F.ex
  refine ⟨len, ?_⟩
  intro A outer s H args us vs Q E hgd room e0 bt rv hs
  have hlen := len vs H Q E hs
  have inK : K.In s.heap :=
    e0.mod.kin.keeps fun b o e => (e0.bs b o e).1
  have noLim : s.heap.NoLimit :=
    e0.mod.nolimit.keeps fun b o e => (e0.bs b o e).1
  have kinds : ∀ y ∈ ps.zip us, (defScope st).names.lookup y.1 = some .local ∨
      ((defScope st).names.lookup y.1 = some .cell ∧ ((cellsFrom (s.heap.objs.size + 1) (defScope st).names []).lookup y.1).isSome = true) := by
    rintro ⟨n, v⟩ hy
    rcases S.par n (List.of_mem_zip hy).1 with q | q
    · exact Or.inl q
    · exact Or.inr ⟨q, PySem.W.cellsFrom_some _ _ _ (Or.inl q)⟩
  refine codeAny_call_function room.depth (inK _ _ lk) rfl S.co S.gen rfl (PySem.W.codeRec_of inK hcd) (bt _ _ _ _ ?_)
  refine wpAny_newFunctionEnv_cells S.kind kinds ?_
  intro env henv s1 ic
  subst henv
  refine ⟨noLim.keeps ic.toInCall.keep, codeAny_func ?_⟩
  obtain ⟨t, pt, ht⟩ := body cdv A outer s H vs Q E hgd (room.deeper _) hs
  have I := inv_start (CX := CX0) (E := E) S room.hd e0 hlen rv ic
  refine wpAny_mono (pt.nox.run [] s1 (start N vs) H _ I ht) ?_ (fun _ _ z => z)
  intro fl s' z
  cases fl with
  | ret u =>
    obtain ⟨v, σ', H', J, r', q⟩ := z
    exact ⟨v, H', J.os, J.bare, J.base, J.hok, r', q⟩
  | next =>
    obtain ⟨σ', H', J, q⟩ := z
    exact ⟨V.non, H', J.os, J.bare, J.base, J.hok, rfl, q⟩
  | brk => exact (z.elim fun _ z => z.elim fun _ z => z.2).elim
  | cont => exact (z.elim fun _ z => z.elim fun _ z => z.2).elim
end

section
variable {X : Cx} {k : Nat} {f : Addr} {fd : FuncData} {ps : List Str} {sp : Sp} {x : Str} {p pos : Pos} {e : Expr} {es : List Expr} {t : TA}
theorem pe_callG (F : FnG X.prog X.w X.K X.mg X.base k f fd ps sp) (hgd : X.A.guards = some []) (room : Room k X.A) (hg : Gl X x) (hm : X.mg x = some (.ref f))
    (hk : PySem.W.keepIn X.K (.ref f) = true) (hb : Binds X.K fd ps []) (ha : PA X (e :: es) t)
    (hdb : (x == ("__debug__" : Str)) = false := by decide) (he : starEach (e :: es) X.env = (false, eval e X.env) :: starEach es X.env := by rfl)
    (hpl : (backTo pos (starEach es X.env)).any (·.1) = false := by rfl) : PE X (.Call (.Name x p) (e :: es) [] pos) (tCall sp [] E0 t) := by
  refine ⟨fun pins s σ H Q I h => wpAny_Call_Name_kw (ld_glob I hg hm ?_ hdb)⟩
  refine PySem.W.callWith_K (h₀ := X.base) I.ok.mod.kin hk ?_ he hpl
  refine thn (ha.run pos pins s σ H _ I h) ?_
  rintro us s1 ⟨vs, H1, I1, r, q⟩
  refine ⟨I1.kIn, ?_⟩
  have q' : sp (vs ++ []) H1 Q E0 := q
  rw [List.append_nil] at q'
  have hl : us.length = ps.length := by
    rw [← r.length]
    exact F.lenG _ _ _ _ q'
  have bt : BindsTo s1 fd ⟨us, []⟩ (ps.zip us) := by
    have := hb s1 us I1.kIn (by rw [List.append_nil]; exact hl)
    rw [List.append_nil] at this
    exact this
  refine wpAny_call (codeAny_mono (F.runG X.A X.stack s1 H1 ⟨us, []⟩ us vs Q E0 hgd room I1.env0 bt r q') ?_)
  intro r' s' hq
  cases r' with
  | error e => exact False.elim hq
  | ok fl =>
    cases fl with
    | ret u => exact I1.after hq
    | next => exact False.elim hq
    | brk => exact False.elim hq
    | cont => exact False.elim hq

/-! ### a call by keywords alone -/
theorem pe_kw0 {kws : List Keyword} {ks : List Str} {tk : TA} {g : List Value → List Value → List Value} {gV : List V → List V → List V}
    (F : FnOk X.prog X.w X.K X.mg X.base CX0 k f fd ps sp) (room : Room k X.A) (hg : Gl X x) (hm : X.mg x = some (.ref f)) (hk : PySem.W.keepIn X.K (.ref f) = true)
    (hb : KBinds X.K fd ps ks g gV) (hkw : PK X kws tk) (hall : (backToKw pos (keywordEach kws X.env)).all (·.1.isSome) = true := by rfl)
    (hks : (backToKw pos (keywordEach kws X.env)).filterMap (·.1) = ks := by rfl) (hdb : (x == ("__debug__" : Str)) = false := by decide)
    (hpl : ((backTo pos (starEach [] X.env)).any (·.1) || (backToKw pos (keywordEach kws X.env)).any (·.1.isNone)) = false := by rfl) :
    PE X (.Call (.Name x p) [] kws pos) (tCallK sp gV E0 tNil tk) := by
  refine ⟨fun pins s σ H Q I h => wpAny_Call_Name_kw (ld_glob I hg hm ?_ hdb)⟩
  refine PySem.W.callWith_KW0 (h₀ := X.base) I.ok.mod.kin hk hall ?_ hpl
  refine thn (hkw.run pos pins s σ H _ I h) ?_
  rintro ws s2 ⟨zs, H2, I2, rz, q2⟩
  refine ⟨I2.kIn, ?_⟩
  rw [hks]
  exact run_fnk (us := []) (vs := []) F room hb pass0 I2 .nil rz q2

/-! ### a list display, its place not that of sys.modules -/
def tLstN (t : TA) : TE := fun σ H Q => t σ H fun xs H1 => xs.length ≤ sizeLine ∧ ∀ p, H1 p = none → p ≠ sysModules → Q (.ref p) (upd H1 p (.lst xs))
theorem pe_lstN (h : PA X es t) : PE X (.List es pos) (tLstN t) := by
  refine ⟨fun pins s σ H Q I hq => wpAny_List_spliced (thn (h.run pos pins s σ H _ I hq) ?_)⟩
  rintro us s1 ⟨xs, H1, I1, r, z, q⟩
  refine ⟨by rw [← r.length]; exact z, ?_⟩
  have fresh : H1 s1.heap.objs.size = none := I1.hok.fresh (Nat.le_refl _)
  have big : sysModules < s1.heap.objs.size := by
    have h1 : mainGlobals < X.base.objs.size := I1.ok.mod.glob.lt
    have h2 := Nat.le_trans I1.ok.bsz I1.sz
    exact Nat.lt_of_lt_of_le (Nat.lt_trans (by decide) h1) h2
  refine ⟨.ref s1.heap.objs.size, upd H1 s1.heap.objs.size (.lst xs), I1.laid (t' := s1.toks) ?_ (Nat.le_refl _) ?_, rfl, q _ fresh (Nat.ne_of_gt big)⟩
  · intro b u e
    exact Heap.get?_push_of_some _ e
  · exact ⟨z, us, 0, r, Heap.get?_push_size _ rfl⟩
end
end Lw

namespace Lw
open PySem PySem.Spec PyProof.Rows L2

/-! ### the law's own call, no repr under way around -/
theorem enterG {P : Program} {w : World} {K : PySem.W.Frag} {mg mb : Str → Option Value} {k : Nat} {fa a : Addr} {fd : FuncData} {x : Str} {sp : Sp} {s₁ : Shared} {vs : List Value} {ns : List Int}
    (inK : K.In s₁.heap) (gl : s₁.heap.Ns mainGlobals mg) (bl : s₁.heap.Ns builtinsNs mb) (bb : ∀ x : Str, x ≠ "__name__" → mb x = bootBuiltins x) (lim : s₁.heap.NoLimit) (gens : s₁.gens = #[])
    (ha : s₁.heap.get? a = some { cls := .type "list", data := .seq vs.toArray }) (hints : IntsAre vs ns) (short : ns.length ≤ sizeLine) (room : Room k callerA)
    (F : ∀ base : Heap, K.In base → base.Ns mainGlobals mg → FnG P w K mg base k fa fd [x] sp)
    (bind : ∀ (s : Shared) (u : Value), BindsTo s fd ⟨[u], []⟩ [(x, u)])
    (hsp : ∀ H : Hp, SqL K H a (ns.map V.int) → sp [.ref a] H (fun v _ => v = .bl true) fun _ _ _ => False) :
    codeAny (model P w) callerA (.call (.ref fa) ⟨[.ref a], []⟩)
      (fun r s' => r = .ok (.ret (.bool true)) ∧ OldK s₁.heap s'.heap ∧ s'.os = s₁.os ∧ AllBare s'.gens) s₁ := by
  have rv := vals_ints hints
  have lenV := hints.length
  have main : ∀ H : Hp, (∀ b, H b = none ∨ ∃ o xs, H b = some (.frz o (.lst xs))) → SqL K H a (ns.map V.int) → HOk P w H s₁.heap →
      (∀ b, H b ≠ none → b = a) → (H a ≠ none → K.lookup a = none) →
      codeAny (model P w) callerA (.call (.ref fa) ⟨[.ref a], []⟩)
        (fun r s' => r = .ok (.ret (.bool true)) ∧ OldK s₁.heap s'.heap ∧ s'.os = s₁.os ∧ AllBare s'.gens) s₁ := by
    intro H only sq hok isA notK
    have free : ∀ {b : Addr} {o : Obj} {es : Array DictEntry} {ep : Nat},
        s₁.heap.get? b = some o → o.data = .dict es ep → H b = none := by
      intro b o es ep hb hd
      cases q : H b with
      | none => rfl
      | some u =>
        have eb : b = a := isA b (by rw [q]; exact fun z => nomatch z)
        rw [eb, ha] at hb
        cases hb
        have z : Data.seq vs.toArray _ = Data.dict es ep := hd
        cases z
    have nsT : ∀ {b : Addr} {m : Str → Option Value}, s₁.heap.Ns b m → (hidT s₁.heap H).Ns b m := by
      rintro b m ⟨o, es, ep, e, d, r⟩
      exact ⟨o, es, ep, hidT_get e (free e d), d, r⟩
    have kT : K.In (hidT s₁.heap H) := by
      intro b o e
      refine hidT_get (inK b o e) ?_
      cases q : H b with
      | none => rfl
      | some u =>
        have eb : b = a := isA b (by rw [q]; exact fun z => nomatch z)
        have nl := notK (by rw [← eb, q]; exact fun z => nomatch z)
        rw [← eb, e] at nl
        cases nl
    have md : Mod K mg (hidT s₁.heap H) := by
      obtain ⟨mc, l1, l2⟩ := lim
      exact ⟨kT, nsT gl, ⟨mb, nsT bl, bb⟩, mc, nsT l1, l2⟩
    have e0 : Env0 P w K mg (hidT s₁.heap H) callerA [] s₁ H := by
      refine ⟨rfl, md, fun b o e => of_hidT e, ?_, trivial, ?_, hok, .of_eq gens⟩
      · exact Nat.le_of_eq (hidT_size _ _)
      · intro b hb
        exact absurd (show b ∈ ([] : List Addr) from hb) (List.not_mem_nil)
    have ran := (F _ kT (nsT gl)).runG callerA [] s₁ H ⟨[.ref a], []⟩ [.ref a] [.ref a] _ _ rfl room e0 (bind s₁ (.ref a)) (.cons rfl .nil) (hsp H sq)
    refine codeAny_mono ran ?_
    intro r s' h
    cases r with
    | error e => exact False.elim h
    | ok fl =>
      cases fl with
      | next => exact False.elim h
      | brk => exact False.elim h
      | cont => exact False.elim h
      | ret u =>
        obtain ⟨v, H', os, bare, un, hok', r', q⟩ := h
        have ev : v = .bl true := q
        subst ev
        obtain rfl : u = Value.bool true := r'
        refine ⟨rfl, OldK.of_keep ?_, os, bare⟩
        intro b o e
        rcases only b with z | ⟨ob, xs, z⟩
        · exact un.keep b o e z (fun y => absurd (show b ∈ ([] : List Addr) from y) List.not_mem_nil) List.not_mem_nil
        · have z2 := un.frzs b ob _ z
          have e1 := (hok b _ z).1
          have e2 := (hok' b _ z2).1
          rw [e] at e1
          cases e1
          exact e2
  cases hk : K.lookup a with
  | some o =>
    have e := inK a o hk
    rw [ha] at e
    cases e
    refine main (fun _ => none) (fun _ => Or.inl rfl) (Or.inr ?_) ?_ (fun b z => absurd rfl z) (fun z => absurd rfl z)
    · exact ⟨_, vs.toArray, _, hk, rfl, rfl, rfl, by rw [List.size_toArray, lenV]; exact short, by simpa using rv⟩
    · intro b u z
      have z' : (none : Option HO) = some u := z
      cases z'
  | none =>
    let o₀ : Obj := { cls := .type "list", data := .seq vs.toArray }
    let H₀ : Hp := fun b => if b = a then some (.frz o₀ (.lst (ns.map V.int))) else none
    have at_a : H₀ a = some (.frz o₀ (.lst (ns.map V.int))) := if_pos rfl
    have off : ∀ b, b ≠ a → H₀ b = none := fun b hb => if_neg hb
    refine main H₀ ?_ (Or.inl (Or.inr ⟨o₀, at_a⟩)) ?_ ?_ (fun _ => hk)
    · intro b
      by_cases hb : b = a
      · rw [hb]
        exact Or.inr ⟨_, _, at_a⟩
      · exact Or.inl (off b hb)
    · intro b u z
      by_cases hb : b = a
      · rw [hb, at_a] at z
        cases z
        rw [hb]
        exact ⟨ha, by rw [List.length_map]; exact short, vs, _, rv, ha⟩
      · rw [off b hb] at z
        cases z
    · intro b z
      by_cases hb : b = a
      · exact hb
      · exact absurd (off b hb) z

theorem walkG {l : PySem.W.OpenLaw} {n k : Nat} {q : Program} {loose : List Str} {XP : (Str → Option Value) → Heap → Prop} {YP : World → Heap → Prop} {d : DefRec}
    {K : Params → PySem.W.Frag} {sp : PySem.W.Frag → Sp} {x : Str} (hn : l.most = some n) (hn2 : n ≤ sizeLine) (hdf : d.params.defaults = []) (room : Room k callerA)
    (hY : ∀ (w : World) (h : Heap), YP w h → (K w.params).In h)
    (F : ∀ (w : World) (mg : Str → Option Value) (fa : Addr) (h : Heap), (K w.params).In h → h.Ns mainGlobals mg → mg d.name = some (.ref fa) →
      ∃ fd : FuncData, (∀ (s : Shared) (u : Value), BindsTo s fd ⟨[u], []⟩ [(x, u)]) ∧
        ∀ base : Heap, (K w.params).In base → base.Ns mainGlobals mg → FnG l.prog w (K w.params) mg base k fa fd [x] (sp (K w.params)))
    (hsp : ∀ (K : PySem.W.Frag) (H : Hp) (a : Addr) (ns : List Int), ns.length ≤ n → (∀ z ∈ ns, Builtin.Int.intBits z ≤ 1048576) → SqL K H a (ns.map V.int) →
      sp K [.ref a] H (fun v _ => v = .bl true) fun _ _ _ => False) :
    PySem.W.WalkO q loose XP YP l.row.toRowW d [] (fun f vs => PySem.call f vs) := by
  refine Att.attach_callB hn hdf ?_
  intro w s₀ s₁ mg mb fa o pm cd doc a vs ns G Y ho hd hcd hmg hobj hints hlen hbits hg
  have inK := hY w _ Y
  obtain ⟨fd, hb, hF⟩ := F w mg fa _ inK G.T.g hmg
  exact enterG inK G.T.g G.T.b G.T.builtins G.T.nolimit hg hobj hints (Nat.le_trans hlen hn2) room hF hb fun H hS => hsp _ H a ns hlen hbits hS

/-! ### data in the heap -/
def keyD : Key → PyData
  | .inl i => .int i
  | .inr x => .str x
mutual
/-- v holds the data d; f: no list of it stands at the place of sys.modules -/
inductive D (f : Bool) (H : Hp) : V → PyData → Prop
  | non : D f H .non .none
  | bl (b : Bool) : D f H (.bl b) (.bool b)
  | int (i : Int) : D f H (.int i) (.int i)
  | str (x : Str) : D f H (.str x) (.str x)
  | lst {a : Addr} {xs : List V} {ds : List PyData} : H a = some (.lst xs) → (f = true → a ≠ sysModules) → DA f H xs ds → D f H (.ref a) (.list ds)
  | tup {a : Addr} {xs : List V} {ds : List PyData} : H a = some (.tup xs) → DA f H xs ds → D f H (.ref a) (.tuple ds)
  | dct {a : Addr} {kvs : List (Key × V)} {ds : List PyData} : H a = some (.dK kvs) → DA f H (kvs.map (·.2)) ds → D f H (.ref a) (.dict ((kvs.map fun p => keyD p.1).zip ds))
inductive DA (f : Bool) (H : Hp) : List V → List PyData → Prop
  | nil : DA f H [] []
  | cons {v : V} {vs : List V} {d : PyData} {ds : List PyData} : D f H v d → DA f H vs ds → DA f H (v :: vs) (d :: ds)
end
theorem DA.length {f : Bool} {H : Hp} : ∀ {vs : List V} {ds : List PyData}, DA f H vs ds → vs.length = ds.length
  | _, _, .nil => rfl
  | _, _, .cons _ t => by rw [List.length_cons, List.length_cons, t.length]
theorem DA.get {f : Bool} {H : Hp} : ∀ {vs : List V} {ds : List PyData} (i : Nat) {v : V}, DA f H vs ds → vs[i]? = some v → ∃ d, ds[i]? = some d ∧ D f H v d
  | _, _, _, _, .nil, e => by simp at e
  | _, _, 0, _, .cons h _, e => by
    simp at e
    subst e
    exact ⟨_, rfl, h⟩
  | _, _, i + 1, v, .cons _ t, e => by
    obtain ⟨d, e1, h⟩ := DA.get i (v := v) t (by simpa using e)
    exact ⟨d, by simpa using e1, h⟩
theorem DA.append {f : Bool} {H : Hp} : ∀ {vs ws : List V} {ds es : List PyData}, DA f H vs ds → DA f H ws es → DA f H (vs ++ ws) (ds ++ es)
  | _, _, _, _, .nil, h => h
  | _, _, _, _, .cons h t, g => .cons h (t.append g)
theorem DA.take {f : Bool} {H : Hp} : ∀ {vs : List V} {ds : List PyData} (n : Nat), DA f H vs ds → DA f H (vs.take n) (ds.take n)
  | _, _, 0, _ => .nil
  | _, _, _ + 1, .nil => .nil
  | _, _, n + 1, .cons h t => .cons h (t.take n)
theorem DA.drop {f : Bool} {H : Hp} : ∀ {vs : List V} {ds : List PyData} (n : Nat), DA f H vs ds → DA f H (vs.drop n) (ds.drop n)
  | _, _, 0, h => h
  | _, _, _ + 1, .nil => .nil
  | _, _, n + 1, .cons _ t => t.drop n
theorem DA.rev {f : Bool} {H : Hp} : ∀ {vs : List V} {ds : List PyData}, DA f H vs ds → DA f H vs.reverse ds.reverse
  | _, _, .nil => .nil
  | _, _, .cons h t => by
    rw [List.reverse_cons, List.reverse_cons]
    exact t.rev.append (.cons h .nil)
mutual
theorem D.same {f : Bool} {H H' : Hp} (s : Same H H') : ∀ {v : V} {d : PyData}, D f H v d → D f H' v d
  | _, _, .non => .non
  | _, _, .bl b => .bl b
  | _, _, .int i => .int i
  | _, _, .str x => .str x
  | _, _, .lst e n t => .lst (s _ _ e) n (DA.same s t)
  | _, _, .tup e t => .tup (s _ _ e) (DA.same s t)
  | _, _, .dct e t => .dct (s _ _ e) (DA.same s t)
theorem DA.same {f : Bool} {H H' : Hp} (s : Same H H') : ∀ {vs : List V} {ds : List PyData}, DA f H vs ds → DA f H' vs ds
  | _, _, .nil => .nil
  | _, _, .cons a b => .cons (D.same s a) (DA.same s b)
end
mutual
theorem D.weak {f : Bool} {H : Hp} : ∀ {v : V} {d : PyData}, D f H v d → D false H v d
  | _, _, .non => .non
  | _, _, .bl b => .bl b
  | _, _, .int i => .int i
  | _, _, .str x => .str x
  | _, _, .lst e _ t => .lst e (fun z => nomatch z) (DA.weak t)
  | _, _, .tup e t => .tup e (DA.weak t)
  | _, _, .dct e t => .dct e (DA.weak t)
theorem DA.weak {f : Bool} {H : Hp} : ∀ {vs : List V} {ds : List PyData}, DA f H vs ds → DA false H vs ds
  | _, _, .nil => .nil
  | _, _, .cons a b => .cons (D.weak a) (DA.weak b)
end

/-! ### the data are read by the machine -/
theorem readsAll_app {h : Heap} : ∀ {vs : List Value} {ds : List PyData} {as : List Addr}, ReadsAll h vs ds as → True := fun _ => trivial
theorem pairs_keys {P : Program} {w : World} {h : Heap} : ∀ {es : List DictEntry} {kvs : List (Key × Value)}, Pairs (mixKind P w) es kvs →
    ReadsAll h (es.map (·.key)) (kvs.map fun p => keyD p.1) []
  | _, _, .nil => .nil
  | _, _, .cons (kv := kv) (e := e) hk _ t => by
    have r : Reads h e.key (keyD kv.1) [] := by
      rcases keyIs_shape (show keyIs kv.1 e.key = true from hk) with ⟨i, tk, e1, e2⟩ | ⟨x, tk, e1, e2⟩
      · rw [e1, e2]; exact Reads.int i tk
      · rw [e1, e2]; exact Reads.str x tk
    exact ReadsAll.cons r (pairs_keys t)
theorem pairs_vals {P : Program} {w : World} : ∀ {es : List DictEntry} {kvs : List (Key × Value)}, Pairs (mixKind P w) es kvs → es.map (·.val) = kvs.map (·.2)
  | _, _, .nil => rfl
  | _, _, .cons _ hv t => by rw [List.map_cons, List.map_cons, hv, pairs_vals t]
theorem kv_keys : ∀ {kvs : List (Key × V)} {vs : List (Key × Value)}, KV kvs vs → kvs.map (fun p => keyD p.1) = vs.map fun p => keyD p.1
  | _, _, .nil => rfl
  | _, _, .cons h t => by rw [List.map_cons, List.map_cons, h.1, kv_keys t]
theorem kv_vals : ∀ {kvs : List (Key × V)} {vs : List (Key × Value)}, KV kvs vs → Vals (kvs.map (·.2)) (vs.map (·.2))
  | _, _, .nil => .nil
  | _, _, .cons h t => .cons h.2 (kv_vals t)
section
variable {X : Cx} {pins : List (Addr × Obj)} {σ : L2.St} {H : Hp} {s : Shared}
mutual
theorem D.reads {f : Bool} (I : Inv X pins σ H s) : ∀ {v : V} {d : PyData}, D f H v d → ∀ u, RelV v u → ∃ as, Reads s.heap u d as ∧ (f = true → sysModules ∉ as)
  | _, _, .non, u, r => by
    cases r
    exact ⟨_, Reads.none, fun _ => List.not_mem_nil⟩
  | _, _, .bl b, u, r => by
    cases r
    exact ⟨_, Reads.bool b, fun _ => List.not_mem_nil⟩
  | _, _, .int i, u, r => by
    obtain ⟨t, rfl⟩ := r
    exact ⟨_, Reads.int i t, fun _ => List.not_mem_nil⟩
  | _, _, .str x, u, r => by
    obtain ⟨t, rfl⟩ := r
    exact ⟨_, Reads.str x t, fun _ => List.not_mem_nil⟩
  | _, _, .lst (a := a) (xs := xs) e n t, u, r => by
    cases (show u = Value.ref a from r)
    obtain ⟨_, its, k, rv, ho⟩ := (show ObjOk X.prog X.w H s.heap a (.lst xs) from I.hok a _ e)
    obtain ⟨as, ra, na⟩ := DA.reads I t its rv
    refine ⟨_, Reads.list ho rfl rfl ra, fun hf z => ?_⟩
    rcases List.mem_cons.mp z with z | z
    · exact n hf z.symm
    · exact na hf z
  | _, _, .tup (a := a) (xs := xs) e t, u, r => by
    cases (show u = Value.ref a from r)
    obtain ⟨_, its, rv, o, ho, hc, k, hd⟩ := (show ObjOk X.prog X.w H s.heap a (.tup xs) from I.hok a _ e)
    obtain ⟨as, ra, na⟩ := DA.reads I t its rv
    exact ⟨_, Reads.tuple ho hc hd ra, na⟩
  | _, _, .dct (a := a) (kvs := kvs) (ds := ds) e t, u, r => by
    cases (show u = Value.ref a from r)
    obtain ⟨_, ns, vs, kv, o, es, ep, ho, ex, hd, _, pr, _⟩ := (show ObjOk X.prog X.w H s.heap a (.dK kvs) from I.hok a _ e)
    obtain ⟨as, ra, na⟩ := DA.reads I t _ (kv_vals kv)
    have hl : (kvs.map fun p => keyD p.1).length = ds.length := by
      have := t.length
      rw [List.length_map] at this
      rw [List.length_map]
      exact this
    have r1 := pairs_keys (h := s.heap) pr
    rw [← kv_keys kv] at r1
    rw [← pairs_vals pr] at ra
    refine ⟨_, Reads.dict ho ex.1 hd (as := []) (bs := as) ?_ ?_, fun hf z => ?_⟩
    · rw [List.map_fst_zip (Nat.le_of_eq hl)]
      exact r1
    · rw [List.map_snd_zip (Nat.le_of_eq hl.symm)]
      exact ra
    · rcases List.mem_cons.mp z with z | z
      · rw [← z] at ns
        exact absurd ns (by decide)
      · exact na hf (by simpa using z)
theorem DA.reads {f : Bool} (I : Inv X pins σ H s) : ∀ {vs : List V} {ds : List PyData}, DA f H vs ds → ∀ us, Vals vs us → ∃ as, ReadsAll s.heap us ds as ∧ (f = true → sysModules ∉ as)
  | _, _, .nil, us, r => by
    cases r
    exact ⟨_, ReadsAll.nil, fun _ => List.not_mem_nil⟩
  | _, _, .cons h t, us, r => by
    cases r with
    | cons r1 r2 =>
      obtain ⟨as, q1, n1⟩ := D.reads I h _ r1
      obtain ⟨bs, q2, n2⟩ := DA.reads I t _ r2
      exact ⟨_, ReadsAll.cons q1 q2, fun hf z => (List.mem_append.mp z).elim (n1 hf) (n2 hf)⟩
end
end

/-! ### repr -/
/-- what repr takes -/
structure Ok (d : PyData) : Prop where
  sh : d.showable = true
  dp : d.depth ≤ 100
  ln : d.shown.length ≤ sizeLine
def rRepr : List V → Hp → VK → Prop := fun xs H Q => ∃ (v : V) (d : PyData) (f : Bool), xs = [v] ∧ D f H v d ∧ (d.hasDict = true → f = true) ∧ Ok d ∧ Q (.str d.shown) H
theorem call_repr {X : Cx} {k : Nat} (hgd : X.A.guards = some []) (room : Room k X.A) : CallR X (.builtin "repr") rRepr := by
  intro pins s σ H xs us Q I r h
  obtain ⟨v, d, f, rfl, hd, hf, ok, q⟩ := h
  obtain ⟨u, rfl, ru⟩ := vals1 r
  cases hd with
  | non =>
    cases ru
    exact PySem.P.repr_of_none ⟨.str _, H, I.tok _, ⟨_, rfl⟩, by simpa only [PyData.shown] using q⟩
  | bl b =>
    cases ru
    exact PySem.P.repr_of_bool ⟨.str _, H, I.tok _, ⟨_, rfl⟩, by simpa only [PyData.shown] using q⟩
  | int i =>
    obtain ⟨t, rfl⟩ := ru
    have hz : i.natAbs.log2 < 1920 := by simpa only [PyData.showable, decide_eq_true_eq] using ok.sh
    exact PySem.P.repr_of_int hz ⟨.str _, H, I.tok _, ⟨_, rfl⟩, by simpa only [PyData.shown] using q⟩
  | str x =>
    obtain ⟨t, rfl⟩ := ru
    have hz : (reprText x).length ≤ sizeLine := by simpa only [PyData.shown] using ok.ln
    exact PySem.P.repr_of_str ⟨.str _, H, I.tok _, ⟨_, rfl⟩, by simpa only [PyData.shown] using q⟩ hz
  | lst e n t =>
    cases ru
    obtain ⟨as, rd, na⟩ := D.reads I (.lst e n t) _ rfl
    have hu := room.un
    have hdp := ok.dp
    exact repr_of_reads' rd ok.sh (fun z => na (hf z)) hgd (by omega) (fun _ _ e => e) (fun h' tk t2 hk => ⟨.str _, H, I.kept (t' := t2) hk, ⟨_, rfl⟩, q⟩) ok.ln
  | tup e t =>
    cases ru
    obtain ⟨as, rd, na⟩ := D.reads I (.tup e t) _ rfl
    have hu := room.un
    have hdp := ok.dp
    exact repr_of_reads' rd ok.sh (fun z => na (hf z)) hgd (by omega) (fun _ _ e => e) (fun h' tk t2 hk => ⟨.str _, H, I.kept (t' := t2) hk, ⟨_, rfl⟩, q⟩) ok.ln
  | dct e t =>
    cases ru
    obtain ⟨as, rd, na⟩ := D.reads I (.dct e t) _ rfl
    have hu := room.un
    have hdp := ok.dp
    exact repr_of_reads' rd ok.sh (fun z => na (hf z)) hgd (by omega) (fun _ _ e => e) (fun h' tk t2 hk => ⟨.str _, H, I.kept (t' := t2) hk, ⟨_, rfl⟩, q⟩) ok.ln
end Lw

namespace Lw
open PySem PySem.Spec PyProof.Rows L2

/-! ### powers of great numbers -/
def CPowW (i j : Int) : Prop := 0 ≤ j ∧ (Builtin.Int.intBits i : Int) * j ≤ 2 ^ 27
theorem op_powW {X : Cx} : OpR X (binaryOp .Pow) (rI CPowW fun i j => .int (i ^ j.toNat)) :=
  opI fun _ _ _ _ _ _ _ hc q => pow_int hc.1 hc.2 q

/-! ### a tuple turned about -/
section
variable {prog : Program} {w : World} {A : Around} {E : Value → Shared → Prop} {s : Shared}
theorem places_back (n : Nat) : Builtin.Slice.slicePlaces ((n : Int) - 1) (-1) (-1) = n := by
  unfold Builtin.Slice.slicePlaces
  rw [if_neg (by decide)]
  by_cases h : n = 0
  · subst h
    rfl
  · rw [if_pos (by omega)]
    have e : (((n : Int) - 1 - -1 - 1) / (- -1)) = (n : Int) - 1 := by
      rw [show (- -1 : Int) = 1 from rfl, Int.ediv_one]
      omega
    rw [e]
    omega
theorem pick_back (xs : Array Value) : ((List.range xs.size).filterMap fun (k : Nat) => xs[((xs.size : Int) - 1 + (k : Int) * (-1)).toNat]?) = xs.toList.reverse := by
  have e : ∀ k ∈ List.range xs.size, xs[((xs.size : Int) - 1 + (k : Int) * (-1)).toNat]? = xs.toList.reverse[k]? := by
    intro k hk
    have hk' : k < xs.size := List.mem_range.mp hk
    have e1 : ((xs.size : Int) - 1 + (k : Int) * (-1)).toNat = xs.size - 1 - k := by omega
    rw [e1, List.getElem?_reverse (by rw [Array.length_toList]; exact hk'), Array.length_toList, Array.getElem?_toList]
  have fm : ∀ (l : List Nat) (f g : Nat → Option Value), (∀ k ∈ l, f k = g k) → l.filterMap f = l.filterMap g := by
    intro l f g
    induction l with
    | nil => intro _; rfl
    | cons k l ih =>
      intro h
      rw [List.filterMap_cons, List.filterMap_cons, h k List.mem_cons_self, ih fun j hj => h j (List.mem_cons_of_mem _ hj)]
  rw [fm _ _ _ e]
  have e2 : xs.size = xs.toList.reverse.length := by rw [List.length_reverse, Array.length_toList]
  rw [e2]
  generalize xs.toList.reverse = ys
  induction ys with
  | nil => rfl
  | cons y ys ih =>
    rw [List.length_cons, List.range_succ_eq_map, List.filterMap_cons]
    show y :: _ = _
    rw [List.filterMap_map]
    exact congrArg (y :: ·) ih
theorem getItem_back {t sl : Addr} {items : Array Value} {tk : Tok} {Q : Value → Shared → Prop} (ht : IsTup s.heap t items) (hs : s.heap.IsSliceOf sl .none .none (.int (-1) tk))
    (h : Q (.ref s.heap.objs.size) { s with heap := s.heap.push { cls := .type "tuple", data := .seq items.toList.reverse.toArray } }) (hz : items.size ≤ sizeLine) :
    wpAny (model prog w) A (getItem (.ref t) (.ref sl)) Q E s := by
  have room : sizeOk (.seq items.toList.reverse.toArray) := by
    show items.toList.reverse.toArray.size ≤ sizeLine
    rw [List.size_toArray, List.length_reverse, Array.length_toList]
    exact hz
  obtain ⟨os, hos, hcs, hds⟩ := id hs
  have hTs : s.TypeIs (.ref sl) "slice" := ⟨os, hos, hcs⟩
  unfold getItem
  try with_reducible refine wpAny_holding ?_
  first
    | refine wpAny_bind (wpAny_pure ?_)
    | skip
  refine wpAny_bind (wpAny_sequenceKey ht.typeIs (by decide) ?_)
  refine wpAny_bind (wpAny_callSpecial?_slot (name := Str.ofString "__getitem__") ht.typeIs
    PyProof.Rows.slot_tuple_getitem (wpAny_call_entry PyProof.Rows.slot_tuple_getitem ht.typeIs entry_tuple_getitem ?_ (args_tuple_getitem _ _)))
  show wpAny _ _ (Builtin.Tuple.tupleItemsOf (.ref t) >>= _) _ _ s
  refine wpAny_bind (tupleItemsOf_ ht ?_)
  refine wpAny_bind (wpAny_typeOf hTs ?_)
  rw [if_pos (by decide)]
  refine wpAny_bind (m := Builtin.Slice.sliceApplied (.ref sl) (pure (items.size : Int))) ?_
  unfold Builtin.Slice.sliceApplied Builtin.Slice.sliceFields
  refine wpAny_bind (wpAny_bind (wpAny_field hos hds (x := Value.none) rfl (wpAny_bind
    (wpAny_field hos hds (x := Value.none) rfl (wpAny_bind (wpAny_field hos hds (x := .int (-1) tk) rfl (wpAny_pure ?_)))))))
  refine wpAny_bind (slicePart_int ?_)
  show wpAny _ _ (if ((-1 : Int) == 0) = true then _ else _) _ _ s
  rw [if_neg (by decide)]
  refine wpAny_bind (slicePart_none (wpAny_bind (slicePart_none (wpAny_bind (wpAny_pure ?_)))))
  show wpAny _ _ (pure ((items.size : Int) - 1, (-1 : Int), Builtin.Slice.slicePlaces ((items.size : Int) - 1) (-1) (-1))) _ _ s
  rw [places_back]
  refine wpAny_pure ?_
  show wpAny _ _ (if (((items.size : Int) - 1 == 0) && ((-1 : Int) == 1) && (items.size == items.size)) = true then _ else _) _ _ s
  rw [if_neg (by simp), pick_back]
  first
    | exact wpAny_bind (m := Builtin.Tuple.tupleExact _) (wpAny_newObj_type (wpAny_pure ⟨_, rfl, wpAny_pure h⟩) room)
    | exact wpAny_bind (m := Builtin.Tuple.tupleExact _)
        (wpAny_newObj_type (wpAny_bind (wpAny_pure (wpAny_pure ⟨_, rfl, wpAny_pure h⟩))) room)
end
section
variable {X : Cx}
def tRevT (K : PySem.W.Frag) (te : TE) : TE := fun σ H Q => te σ H fun x H1 => ∃ a xs, x = .ref a ∧ SqT K H1 a xs ∧ ∀ p, H1 p = none → Q (.ref p) (upd H1 p (.tup xs.reverse))
theorem vals_rev : ∀ {xs : List V} {us : List Value}, Vals xs us → Vals xs.reverse us.reverse
  | _, _, .nil => .nil
  | _, _, .cons h t => by
    rw [List.reverse_cons, List.reverse_cons]
    exact (vals_rev t).append (.cons h .nil)
theorem pe_revT {e : Expr} {te : TE} {k : Nat} {p1 p2 p3 pos : Pos} (he : PE X e te) :
    PE X (.Subscript e (.Slice none none (some (.UnaryOp .USub (.Constant (.int 1) k p1) p2)) p3) pos) (tRevT X.K te) := by
  refine ⟨fun pins s σ H Q I h => Subscript_ (thn (he.run pins s σ H _ I h) ?_)⟩
  rintro v s1 ⟨x, H1, I1, r1, a, xs, rfl, hx, q⟩
  cases r1
  have hst : PO X (some (.UnaryOp .USub (.Constant (.int 1) k p1) p2)) (tPart (tUn (rU fun i => .int (-i)) (tC (.int 1)))) :=
    po_some (pe_un un_neg pe_int)
  refine wpAny_Slice (thn (po_none.run pins s1 σ H1 (fun o H2 => o = none ∧ H2 = H1) I1 ⟨rfl, rfl⟩) ?_)
  rintro vl s2 ⟨l, H2, I2, pl, el, e2⟩
  subst el e2
  refine thn (po_none.run pins s2 σ H2 (fun o H3 => o = none ∧ H3 = H2) I2 ⟨rfl, rfl⟩) ?_
  rintro vu s3 ⟨u, H3, I3, pu, eu, e3⟩
  subst eu e3
  refine thn (hst.run pins s3 σ H3 (fun o H4 => o = some (-1) ∧ H4 = H3) I3 ⟨1, rfl, -1, rfl, rfl, rfl⟩) ?_
  rintro vs s4 ⟨o, H4, I4, ps, eo, e4⟩
  subst eo e4
  cases pl
  cases pu
  cases ps with
  | int i tk =>
    have I5 : Inv X pins σ H4 { s4 with heap := s4.heap.push { cls := .type "slice", data := .fields #[.none, .none, .int (-1) tk] } } :=
      I4.kept (t' := s4.toks) fun b ob q => Heap.get?_push_of_some _ q
    obtain ⟨its, r, ht, hz⟩ := I5.tuple hx
    have hlen := r.length
    show wpAny (model X.prog X.w) X.A (subscriptTail e (.Slice none none (some (.UnaryOp .USub (.Constant (.int 1) k p1) p2)) p3) (.ref a)
      (.ref s4.heap.objs.size)) (EP X pins σ Q) X.xe { s4 with heap := s4.heap.push { cls := .type "slice", data := .fields #[.none, .none, .int (-1) tk] } }
    refine tail_any (ops := [.ref a, .ref s4.heap.objs.size]) ht.typeIs PyProof.Rows.slot_tuple_getitem.lookup ?_ (by with_unfolding_all rfl)
    refine getItem_back ht (Heap.IsSliceOf.new _ _ _ _) ?_ (by rw [List.size_toArray]; omega)
    refine ⟨.ref _, _, I5.laid (t' := s4.toks) (o := .tup xs.reverse) (fun b ob q => Heap.get?_push_of_some _ q) (Nat.le_refl _) ?_, rfl, q _ (I5.hok.fresh (Nat.le_refl _))⟩
    exact ⟨by rw [List.length_reverse]; exact hz, its.reverse, vals_rev r, IsTup.new _ _⟩
/-! ### tuples cut and put together: one way out -/
theorem cut_whole {xs : List V} {lo hi : Option Int} (h : HT.sIx xs.length 0 lo = 0 ∧ HT.sIx xs.length xs.length hi = xs.length) : cutV xs lo hi = xs := by
  unfold cutV
  rw [h.1, h.2, List.drop_zero, Nat.sub_zero]
  exact List.take_length
def rSlU : V → Option Int → Option Int → Hp → VK → Prop := fun x lo hi H Q => ∃ a xs, x = .ref a ∧ H a = some (.tup xs) ∧
  ∀ p H', Same H H' → H' p = some (.tup (cutV xs lo hi)) → (p = a ∨ H p = none) → Q (.ref p) H'
theorem upd_grow {H : Hp} {p : Addr} {o : HO} (h : H p = none) : Same H (upd H p o) := fun b u q => by
  rw [upd_ne (ne_of_none q h)]
  exact q
theorem sl_U : SlR X rSlU := by
  intro pins s σ H x v vl vu lo hi sl Q I rx hs pl pu h
  obtain ⟨a, xs, rfl, hx, q⟩ := h
  refine sl_tupA pins s σ H _ v vl vu lo hi sl Q I rx hs pl pu ⟨a, xs, rfl, SqT.of hx, fun hw => ?_, fun _ p np => ?_⟩
  · exact q a H (Same.refl H) (by rw [cut_whole hw]; exact hx) (Or.inl rfl)
  · exact q p _ (upd_grow np) upd_same (Or.inr np)
def rCatU : R2 := fun x y H Q => ∃ a b xs ys, x = .ref a ∧ y = .ref b ∧ H a = some (.tup xs) ∧ H b = some (.tup ys) ∧ xs.length + ys.length ≤ sizeLine ∧
  ∀ p H', Same H H' → H' p = some (.tup (xs ++ ys)) → (p = a ∨ p = b ∨ H p = none) → Q (.ref p) H'
theorem op_catU : OpR X (binaryOp .Add) rCatU := by
  intro pins s σ H x y v u Q I rx ry h
  obtain ⟨a, b, xs, ys, rfl, rfl, ha, hb, hz, q⟩ := h
  refine op_catA pins s σ H _ _ v u Q I rx ry ⟨a, b, xs, ys, rfl, rfl, SqT.of ha, SqT.of hb, hz, fun e => ?_, fun _ e => ?_, fun _ _ p np => ?_⟩
  · exact q b H (Same.refl H) (by rw [e]; exact hb) (Or.inr (Or.inl rfl))
  · exact q a H (Same.refl H) (by rw [e, List.append_nil]; exact ha) (Or.inl rfl)
  · exact q p _ (upd_grow np) upd_same (Or.inr (Or.inr np))
def cutD (ds : List PyData) (lo hi : Option Int) : List PyData := (ds.drop (HT.sIx ds.length 0 lo)).take (HT.sIx ds.length ds.length hi - HT.sIx ds.length 0 lo)
theorem DA.cut {f : Bool} {H : Hp} {xs : List V} {ds : List PyData} (h : DA f H xs ds) (lo hi : Option Int) : DA f H (cutV xs lo hi) (cutD ds lo hi) := by
  unfold cutV cutD
  rw [h.length]
  exact (h.drop _).take _
theorem cutD_mem {ds : List PyData} {lo hi : Option Int} {x : PyData} (h : x ∈ cutD ds lo hi) : x ∈ ds := List.mem_of_mem_drop (List.mem_of_mem_take h)
theorem cutV_le (xs : List V) (lo hi : Option Int) : (cutV xs lo hi).length ≤ xs.length := cutV_length xs lo hi
end
end Lw

namespace Lw
open PySem PySem.Spec PyProof.Rows L2

/-! ### kinds of data -/
def tyD : PyData → String
  | .none => "NoneType"
  | .bool _ => "bool"
  | .int _ => "int"
  | .str _ => "str"
  | .list _ => "list"
  | .tuple _ => "tuple"
  | .dict _ => "dict"
theorem D.ty {f : Bool} {K : PySem.W.Frag} {H : Hp} {v : V} {d : PyData} (h : D f H v d) : TyX K H v (.type (tyD d)) := by
  cases h with
  | non => exact .base .non
  | bl b => exact .base (.bl b)
  | int i => exact .base (.int i)
  | str x => exact .base (.str x)
  | lst e n t => exact .base (.lst e)
  | tup e t => exact .base (.tup e)
  | dct e t => exact .base (.dK e)
def isIntD : PyData → Bool
  | .int _ => true
  | .bool _ => true
  | _ => false
def isBoolD : PyData → Bool
  | .bool _ => true
  | _ => false
def isTupD : PyData → Bool
  | .tuple _ => true
  | _ => false
def isStrD : PyData → Bool
  | .str _ => true
  | _ => false
section
variable {K : PySem.W.Frag} {H : Hp} {f : Bool} {v : V} {d : PyData} {Q : VK}
theorem kit_int (d : PyData) : PySem.W.kitOne K (.type (tyD d)) (.type "int") = some (isIntD d) := by
  cases d with
  | none => exact kit_ty (by decide +kernel : kitB "NoneType" "int" = some false)
  | bool b => exact kit_ty (by decide +kernel : kitB "bool" "int" = some true)
  | int i => exact kit_ty (by decide +kernel : kitB "int" "int" = some true)
  | str x => exact kit_ty (by decide +kernel : kitB "str" "int" = some false)
  | list xs => exact kit_ty (by decide +kernel : kitB "list" "int" = some false)
  | tuple xs => exact kit_ty (by decide +kernel : kitB "tuple" "int" = some false)
  | dict kvs => exact kit_ty (by decide +kernel : kitB "dict" "int" = some false)
theorem kit_bool (d : PyData) : PySem.W.kitOne K (.type (tyD d)) (.type "bool") = some (isBoolD d) := by
  cases d with
  | none => exact kit_ty (by decide +kernel : kitB "NoneType" "bool" = some false)
  | bool b => exact kit_ty (by decide +kernel : kitB "bool" "bool" = some true)
  | int i => exact kit_ty (by decide +kernel : kitB "int" "bool" = some false)
  | str x => exact kit_ty (by decide +kernel : kitB "str" "bool" = some false)
  | list xs => exact kit_ty (by decide +kernel : kitB "list" "bool" = some false)
  | tuple xs => exact kit_ty (by decide +kernel : kitB "tuple" "bool" = some false)
  | dict kvs => exact kit_ty (by decide +kernel : kitB "dict" "bool" = some false)
theorem kit_tup (d : PyData) : PySem.W.kitOne K (.type (tyD d)) (.type "tuple") = some (isTupD d) := by
  cases d with
  | none => exact kit_ty (by decide +kernel : kitB "NoneType" "tuple" = some false)
  | bool b => exact kit_ty (by decide +kernel : kitB "bool" "tuple" = some false)
  | int i => exact kit_ty (by decide +kernel : kitB "int" "tuple" = some false)
  | str x => exact kit_ty (by decide +kernel : kitB "str" "tuple" = some false)
  | list xs => exact kit_ty (by decide +kernel : kitB "list" "tuple" = some false)
  | tuple xs => exact kit_ty (by decide +kernel : kitB "tuple" "tuple" = some true)
  | dict kvs => exact kit_ty (by decide +kernel : kitB "dict" "tuple" = some false)
theorem kit_str (d : PyData) : PySem.W.kitOne K (.type (tyD d)) (.type "str") = some (isStrD d) := by
  cases d with
  | none => exact kit_ty (by decide +kernel : kitB "NoneType" "str" = some false)
  | bool b => exact kit_ty (by decide +kernel : kitB "bool" "str" = some false)
  | int i => exact kit_ty (by decide +kernel : kitB "int" "str" = some false)
  | str x => exact kit_ty (by decide +kernel : kitB "str" "str" = some true)
  | list xs => exact kit_ty (by decide +kernel : kitB "list" "str" = some false)
  | tuple xs => exact kit_ty (by decide +kernel : kitB "tuple" "str" = some false)
  | dict kvs => exact kit_ty (by decide +kernel : kitB "dict" "str" = some false)
end
/-- a new thing is laid -/
theorem same_new {H : Hp} {p : Addr} {o : HO} (h : H p = none) : Same H (upd H p o) := fun b u q => by
  rw [upd_ne (ne_of_none q h)]
  exact q

/-! ### draws -/
/-- the hand that draws: at most n draws were mixed -/
def Hd (H : Hp) (a : Addr) (n : Nat) : Prop := ∃ g m c : Int, H a = some (.lst [.int g, .int m, .int c]) ∧ 0 ≤ m ∧ m < 2305843009213693921 ∧ 0 ≤ c ∧ c ≤ n
/-- all but what stands at a is as it was -/
def Kp (a : Addr) (H H' : Hp) : Prop := ∀ b o, b ≠ a → H b = some o → H' b = some o
theorem Kp.refl (a : Addr) (H : Hp) : Kp a H H := fun _ _ _ h => h
theorem Kp.trans {a : Addr} {H H1 H2 : Hp} (x : Kp a H H1) (y : Kp a H1 H2) : Kp a H H2 := fun b o n h => y b o n (x b o n h)
theorem Kp.of_same {a : Addr} {H H' : Hp} (x : Same H H') : Kp a H H' := fun b o _ h => x b o h
theorem Kp.upd {a : Addr} {H H' : Hp} {o : HO} (x : Kp a H H') : Kp a H (L2.upd H' a o) := fun b u n h => by
  rw [upd_ne n]
  exact x b u n h
theorem Hd.same {H H' : Hp} {a : Addr} {n : Nat} (x : Hd H a n) (s : Same H H') : Hd H' a n := by
  obtain ⟨g, m, c, e, r⟩ := x
  exact ⟨g, m, c, s _ _ e, r⟩
theorem Hd.mono {H : Hp} {a : Addr} {n k : Nat} (x : Hd H a n) (h : n ≤ k) : Hd H a k := by
  obtain ⟨g, m, c, e, h1, h2, h3, h4⟩ := x
  exact ⟨g, m, c, e, h1, h2, h3, by omega⟩
/-- the heap without what stands at some places -/
def remL (as : List Addr) (H : Hp) : Hp := fun b => if b ∈ as then none else H b
theorem remL_ne {as : List Addr} {b : Addr} {H : Hp} (h : b ∉ as) : remL as H b = H b := if_neg h
theorem remL_some {as : List Addr} {b : Addr} {H : Hp} {o : HO} (h : remL as H b = some o) : b ∉ as ∧ H b = some o := by
  by_cases e : b ∈ as
  · rw [show remL as H b = none from if_pos e] at h
    cases h
  · rw [remL_ne e] at h
    exact ⟨e, h⟩
theorem remL_same {as : List Addr} {H : Hp} : Same (remL as H) H := fun b o h => (remL_some h).2
theorem same_remL {as : List Addr} {H H' : Hp} (k : Same H H') : Same (remL as H) (remL as H') := fun b o h => by
  obtain ⟨n, e⟩ := remL_some h
  rw [remL_ne n]
  exact k b o e
theorem Kp.remL {as : List Addr} {a : Addr} {H H' : Hp} (ha : a ∈ as) (k : Kp a H H') : Same (Lw.remL as H) (Lw.remL as H') := fun b o h => by
  obtain ⟨n, e⟩ := remL_some h
  rw [remL_ne n]
  exact k b o (fun z => n (z ▸ ha)) e
/-- these places are taken -/
def Trk (as : List Addr) (H : Hp) : Prop := ∀ b ∈ as, H b ≠ none
theorem Trk.same {as : List Addr} {H H' : Hp} (t : Trk as H) (k : Same H H') : Trk as H' := fun b hb z => by
  cases e : H b with
  | none => exact t b hb e
  | some o =>
    rw [k b o e] at z
    cases z
theorem Trk.kp {as : List Addr} {a : Addr} {n : Nat} {H H' : Hp} (t : Trk as H) (k : Kp a H H') (h : Hd H' a n) : Trk as H' := fun b hb z => by
  by_cases e0 : b = a
  · obtain ⟨g, m, c, e, _⟩ := h
    rw [e0, e] at z
    cases z
  · cases e : H b with
    | none => exact t b hb e
    | some o =>
      rw [k b o e0 e] at z
      cases z
theorem Trk.new {as : List Addr} {H : Hp} {p : Addr} (t : Trk as H) (h : H p = none) : p ∉ as := fun z => t p z h
theorem remL_new {as : List Addr} {H : Hp} {p : Addr} {o : HO} (t : Trk as H) (h : H p = none) : remL as (upd H p o) p = some o := by
  rw [remL_ne (t.new h), upd_same]

/-! ### how large data are -/
theorem int_short {i : Int} (h : i.natAbs < 10 ^ 62) : (PyData.shown (.int i)).length ≤ 64 := by
  have e := int_text_length_le10 (k := 62) (by decide) h
  show (Str.ofString (toString i)).length ≤ 64
  rw [PySem.ofString_length]
  omega
structure Bd (n m : Nat) (d : PyData) : Prop where
  lf : d.leavesShort 64 = true
  sh : d.showable = true
  dp : d.depth ≤ n
  wt : d.weight ≤ m
theorem Bd.mono {n m n' m' : Nat} {d : PyData} (h : Bd n m d) (hn : n ≤ n') (hm : m ≤ m') : Bd n' m' d := ⟨h.lf, h.sh, Nat.le_trans h.dp hn, Nat.le_trans h.wt hm⟩
theorem Bd.ok {n m : Nat} {d : PyData} (h : Bd n m d) (hn : n ≤ 100) (hm : m ≤ 250000) : Ok d := by
  refine ⟨h.sh, Nat.le_trans h.dp hn, ?_⟩
  have h1 := PyData.shown_le 64 (by decide) d h.lf
  have h2 : (64 + 2) * d.weight + 64 ≤ 16777216 := by
    have := h.wt
    omega
  exact Nat.le_trans h1 h2
theorem all_of {n m : Nat} : ∀ {ds : List PyData}, (∀ x ∈ ds, Bd n m x) → PyData.leavesShortAll 64 ds = true ∧ PyData.showableAll ds = true ∧ PyData.depthAll ds ≤ n ∧ PyData.weightAll ds ≤ ds.length * (m + 1)
  | [], _ => by
    refine ⟨rfl, rfl, ?_, ?_⟩
    · show PyData.depthAll [] ≤ n
      simp only [PyData.depthAll]
      exact Nat.zero_le _
    · simp only [PyData.weightAll]
      exact Nat.zero_le _
  | x :: ds, h => by
    have hx := h x List.mem_cons_self
    obtain ⟨a, b, c, d⟩ := all_of (ds := ds) fun y hy => h y (List.mem_cons_of_mem _ hy)
    refine ⟨?_, ?_, ?_, ?_⟩
    · simp only [PyData.leavesShortAll, hx.lf, a, Bool.and_self]
    · simp only [PyData.showableAll, hx.sh, b, Bool.and_self]
    · simp only [PyData.depthAll]
      have := hx.dp
      omega
    · simp only [PyData.weightAll, List.length_cons, Nat.succ_mul]
      have := hx.wt
      omega
theorem Bd.tuple {n m k : Nat} {ds : List PyData} (h : ∀ x ∈ ds, Bd n m x) (hk : ds.length * (m + 1) ≤ k) : Bd (n + 1) k (.tuple ds) := by
  obtain ⟨a, b, c, d⟩ := all_of h
  exact ⟨by simpa only [PyData.leavesShort] using a, by simpa only [PyData.showable] using b, by simp only [PyData.depth]; omega, by simp only [PyData.weight]; omega⟩
theorem Bd.list {n m k : Nat} {ds : List PyData} (h : ∀ x ∈ ds, Bd n m x) (hk : ds.length * (m + 1) ≤ k) : Bd (n + 1) k (.list ds) := by
  obtain ⟨a, b, c, d⟩ := all_of h
  exact ⟨by simpa only [PyData.leavesShort] using a, by simpa only [PyData.showable] using b, by simp only [PyData.depth]; omega, by simp only [PyData.weight]; omega⟩
theorem Bd.int {n : Nat} {i : Int} (h : i.natAbs < 10 ^ 62) : Bd n 210 (.int i) := by
  have hl : i.natAbs.log2 < 206 := PySem.Flt.log2_lt_of (by decide) (Nat.lt_of_lt_of_le h (by decide +kernel))
  refine ⟨?_, ?_, ?_, ?_⟩
  · simp only [PyData.leavesShort, decide_eq_true_eq]
    exact int_short h
  · simp only [PyData.showable, decide_eq_true_eq]
    omega
  · simp only [PyData.depth]
    exact Nat.zero_le _
  · simp only [PyData.weight]
    split <;> omega
theorem Bd.flat0 {n m : Nat} {d : PyData} (h : d = .none ∨ (∃ b, d = .bool b) ∨ d = .str "" ∨ d = .str "0" ∨ d = .tuple [] ∨ d = .list [] ∨ d = .dict []) (hn : 1 ≤ n) (hm : 1 ≤ m) : Bd n m d := by
  have z : Bd 1 1 d := by
    rcases h with rfl | ⟨b, rfl⟩ | rfl | rfl | rfl | rfl | rfl
    all_goals exact ⟨by decide +kernel +revert, by decide +kernel +revert, by decide +kernel +revert, by decide +kernel +revert⟩
  exact z.mono hn hm
/-! ### rows of data, by their whole weight -/
structure BA (n t : Nat) (ds : List PyData) : Prop where
  lf : PyData.leavesShortAll 64 ds = true
  sh : PyData.showableAll ds = true
  dp : PyData.depthAll ds ≤ n
  wt : PyData.weightAll ds ≤ t
theorem BA.mono {n t n' t' : Nat} {ds : List PyData} (h : BA n t ds) (hn : n ≤ n') (ht : t ≤ t') : BA n' t' ds := ⟨h.lf, h.sh, Nat.le_trans h.dp hn, Nat.le_trans h.wt ht⟩
theorem BA.nil {n t : Nat} : BA n t [] := ⟨rfl, rfl, by simp only [PyData.depthAll]; exact Nat.zero_le _, by simp only [PyData.weightAll]; exact Nat.zero_le _⟩
theorem wa_append : ∀ (ds es : List PyData), PyData.weightAll (ds ++ es) = PyData.weightAll ds + PyData.weightAll es
  | [], es => by simp only [List.nil_append, PyData.weightAll, Nat.zero_add]
  | d :: ds, es => by
    have := wa_append ds es
    simp only [List.cons_append, PyData.weightAll]
    omega
theorem da_append : ∀ (ds es : List PyData), PyData.depthAll (ds ++ es) = max (PyData.depthAll ds) (PyData.depthAll es)
  | [], es => by simp only [List.nil_append, PyData.depthAll, Nat.zero_max]
  | d :: ds, es => by
    have := da_append ds es
    simp only [List.cons_append, PyData.depthAll]
    omega
theorem la_append : ∀ (ds es : List PyData), PyData.leavesShortAll 64 (ds ++ es) = (PyData.leavesShortAll 64 ds && PyData.leavesShortAll 64 es)
  | [], es => by simp only [List.nil_append, PyData.leavesShortAll, Bool.true_and]
  | d :: ds, es => by simp only [List.cons_append, PyData.leavesShortAll, la_append ds es, Bool.and_assoc]
theorem sa_append : ∀ (ds es : List PyData), PyData.showableAll (ds ++ es) = (PyData.showableAll ds && PyData.showableAll es)
  | [], es => by simp only [List.nil_append, PyData.showableAll, Bool.true_and]
  | d :: ds, es => by simp only [List.cons_append, PyData.showableAll, sa_append ds es, Bool.and_assoc]
theorem BA.append {n t u : Nat} {ds es : List PyData} (h : BA n t ds) (g : BA n u es) : BA n (t + u) (ds ++ es) := by
  refine ⟨?_, ?_, ?_, ?_⟩
  · rw [la_append, h.lf, g.lf]
    rfl
  · rw [sa_append, h.sh, g.sh]
    rfl
  · rw [da_append]
    have := h.dp
    have := g.dp
    omega
  · rw [wa_append]
    have := h.wt
    have := g.wt
    omega
theorem BA.parts {n t : Nat} {ds es : List PyData} (h : BA n t (ds ++ es)) : BA n t ds ∧ BA n t es := by
  have h1 := h.lf
  have h2 := h.sh
  have h3 := h.dp
  have h4 := h.wt
  rw [la_append, Bool.and_eq_true] at h1
  rw [sa_append, Bool.and_eq_true] at h2
  rw [da_append] at h3
  rw [wa_append] at h4
  exact ⟨⟨h1.1, h2.1, by omega, by omega⟩, ⟨h1.2, h2.2, by omega, by omega⟩⟩
theorem BA.take {n t : Nat} {ds : List PyData} (h : BA n t ds) (k : Nat) : BA n t (ds.take k) := by
  rw [← List.take_append_drop k ds] at h
  exact h.parts.1
theorem BA.drop {n t : Nat} {ds : List PyData} (h : BA n t ds) (k : Nat) : BA n t (ds.drop k) := by
  rw [← List.take_append_drop k ds] at h
  exact h.parts.2
theorem BA.cut {n t : Nat} {ds : List PyData} (h : BA n t ds) (lo hi : Option Int) : BA n t (cutD ds lo hi) := (h.drop _).take _
theorem BA.one {n m : Nat} {d : PyData} (h : Bd n m d) : BA n (m + 1) [d] := by
  refine ⟨?_, ?_, ?_, ?_⟩
  · simp only [PyData.leavesShortAll, h.lf, Bool.and_self]
  · simp only [PyData.showableAll, h.sh, Bool.and_self]
  · simp only [PyData.depthAll]
    have := h.dp
    omega
  · simp only [PyData.weightAll]
    have := h.wt
    omega
theorem BA.rev {n t : Nat} : ∀ {ds : List PyData}, BA n t ds → BA n t ds.reverse
  | [], h => h
  | d :: ds, h => by
    have e : d :: ds = [d] ++ ds := rfl
    have p := (e ▸ h : BA n t ([d] ++ ds)).parts
    have hw := h.wt
    simp only [PyData.weightAll] at hw
    have r : BA n (PyData.weightAll ds) ds.reverse := BA.rev ⟨p.2.lf, p.2.sh, p.2.dp, Nat.le_refl _⟩
    have o : BA n (d.weight + 1) [d] := ⟨p.1.lf, p.1.sh, p.1.dp, by simp only [PyData.weightAll]; omega⟩
    rw [List.reverse_cons]
    exact (r.append o).mono (Nat.le_refl _) (by omega)
theorem BA.tuple {n t : Nat} {ds : List PyData} (h : BA n t ds) : Bd (n + 1) t (.tuple ds) :=
  ⟨by simpa only [PyData.leavesShort] using h.lf, by simpa only [PyData.showable] using h.sh, by simp only [PyData.depth]; have := h.dp; omega, by simp only [PyData.weight]; exact h.wt⟩
theorem BA.list {n t : Nat} {ds : List PyData} (h : BA n t ds) : Bd (n + 1) t (.list ds) :=
  ⟨by simpa only [PyData.leavesShort] using h.lf, by simpa only [PyData.showable] using h.sh, by simp only [PyData.depth]; have := h.dp; omega, by simp only [PyData.weight]; exact h.wt⟩
/-- v is a tuple of the data ds, apart from some places -/
def Tp (as : List Addr) (H : Hp) (b : Addr) (ds : List PyData) : Prop := b ∉ as ∧ ∃ xs, H b = some (.tup xs) ∧ DA true (remL as H) xs ds
theorem Tp.same {as : List Addr} {H H' : Hp} {b : Addr} {ds : List PyData} (h : Tp as H b ds) (s : Same H H') : Tp as H' b ds := by
  obtain ⟨n, xs, e, t⟩ := h
  exact ⟨n, xs, s _ _ e, t.same (same_remL s)⟩
theorem Tp.kp {as : List Addr} {a : Addr} {H H' : Hp} {b : Addr} {ds : List PyData} (h : Tp as H b ds) (ha : a ∈ as) (k : Kp a H H') : Tp as H' b ds := by
  obtain ⟨n, xs, e, t⟩ := h
  exact ⟨n, xs, k _ _ (fun z => n (z ▸ ha)) e, t.same (k.remL ha)⟩
theorem Tp.d {as : List Addr} {H : Hp} {b : Addr} {ds : List PyData} (h : Tp as H b ds) : D true (remL as H) (.ref b) (.tuple ds) := by
  obtain ⟨n, xs, e, t⟩ := h
  exact .tup (by rw [remL_ne n]; exact e) t
end Lw

namespace Lw
open PySem PySem.Spec PyProof.Rows L2

/-! ### rows of ints, by their order -/
abbrev lex := HT.lexLt
theorem lex_cons (x y : Int) (xs ys : List Int) : lex (x :: xs) (y :: ys) = if x = y then lex xs ys else decide (x < y) := rfl
theorem lex_irr : ∀ x : List Int, lex x x = false
  | [] => rfl
  | a :: x => by
    rw [lex_cons, if_pos rfl]
    exact lex_irr x
theorem lex_asym : ∀ x y : List Int, lex x y = true → lex y x = false
  | [], [], h => by cases h
  | [], _ :: _, _ => rfl
  | _ :: _, [], h => by cases h
  | a :: x, b :: y, h => by
    rw [lex_cons] at h ⊢
    by_cases e : a = b
    · subst e
      rw [if_pos rfl] at h ⊢
      exact lex_asym x y h
    · rw [if_neg e, decide_eq_true_eq] at h
      rw [if_neg (fun z => e z.symm), decide_eq_false_iff_not]
      omega
theorem lex_tr : ∀ x y z : List Int, lex y x = false → lex z y = false → lex z x = false
  | [], [], [], _, _ => rfl
  | [], [], _ :: _, _, _ => rfl
  | [], _ :: _, [], _, h => by cases h
  | [], _ :: _, _ :: _, _, _ => rfl
  | _ :: _, [], _, h, _ => by cases h
  | _ :: _, _ :: _, [], _, h => by cases h
  | a :: x, b :: y, c :: z, h1, h2 => by
    rw [lex_cons] at h1 h2 ⊢
    by_cases e1 : b = a
    · subst e1
      rw [if_pos rfl] at h1
      by_cases e2 : c = b
      · subst e2
        rw [if_pos rfl] at h2 ⊢
        exact lex_tr x y z h1 h2
      · rw [if_neg e2] at h2 ⊢
        exact h2
    · rw [if_neg e1, decide_eq_false_iff_not] at h1
      by_cases e2 : c = b
      · subst e2
        rw [if_neg e1, decide_eq_false_iff_not]
        omega
      · rw [if_neg e2, decide_eq_false_iff_not] at h2
        rw [if_neg (show ¬ c = a by omega), decide_eq_false_iff_not]
        omega
theorem lex_eq : ∀ x y : List Int, lex x y = false → lex y x = false → x = y
  | [], [], _, _ => rfl
  | [], _ :: _, h, _ => by cases h
  | _ :: _, [], _, h => by cases h
  | a :: x, b :: y, h1, h2 => by
    rw [lex_cons] at h1 h2
    by_cases e : a = b
    · subst e
      rw [if_pos rfl] at h1 h2
      rw [lex_eq x y h1 h2]
    · rw [if_neg e, decide_eq_false_iff_not] at h1
      rw [if_neg (fun z => e z.symm), decide_eq_false_iff_not] at h2
      omega
theorem swo_key {α : Type} (k : α → List Int) : SrtO.Swo fun v u => lex (k v) (k u) :=
  ⟨fun x y h => lex_asym _ _ h, fun x y z h1 h2 => lex_tr _ _ _ h1 h2⟩

/-- v is a tuple of the ints ns -/
def TI (h : Heap) (v : Value) (ns : List Int) : Prop := ∃ (a : Addr) (o : Obj) (its : Array Value) (n : Nat), v = .ref a ∧ h.get? a = some o ∧ o.cls = .type "tuple" ∧ o.data = .seq its n ∧ IntsAre its.toList ns
theorem TI.keeps {h h' : Heap} {v : Value} {ns : List Int} (t : TI h v ns) (k : ∀ b o, h.get? b = some o → o.cls = .type "tuple" → h'.get? b = some o) : TI h' v ns := by
  obtain ⟨a, o, its, n, e, ho, hc, r⟩ := t
  exact ⟨a, o, its, n, e, k a o ho hc, hc, r⟩
section
variable {prog : Program} {w : World} {A : Around} {E : Value → Shared → Prop} {s : Shared} {Q : Bool → Shared → Prop}
theorem lex_walk {b : Bool} : ∀ {xs ys : List Value} {ns ms : List Int} {fin : Bool} (i : Nat), IntsAre xs ns → IntsAre ys ms → fin = decide (ns.length < ms.length) → Q (lex ns ms) s → PySem.W.KatLex prog w A b fin Q (xs.zip ys) i s
  | _, _, _, _, fin, i, .nil, .nil, hf, h => by
    subst hf
    exact PySem.W.kat_nil h
  | _, _, _, _, fin, i, .nil, .cons (ns := ms) m t hy, hf, h => by
    have e : fin = true := by
      rw [hf]
      exact decide_eq_true (by simp)
    rw [e]
    exact PySem.W.kat_nil (i := i) h
  | _, _, _, _, fin, i, .cons (ns := ns) m t hy, .nil, hf, h => by
    have e : fin = false := by
      rw [hf]
      exact decide_eq_false (by simp)
    rw [e]
    exact PySem.W.kat_nil (i := i) h
  | _, _, _, _, fin, i, .cons (ns := ns) x t hx, .cons (ns := ms) y u hy, hf, h => by
    refine PySem.W.kat_cons (SeqAt.EqAt.int_int x t y u prog w _ _ ?_)
    refine PySem.W.kat_go (fun e1 => ?_) (fun e1 => ?_)
    · have ex : x = y := by simpa using e1
      have h' : Q (lex ns ms) s := by
        rw [show lex (x :: ns) (y :: ms) = lex ns ms by rw [lex_cons, if_pos ex]] at h
        exact h
      refine PySem.W.kat_yes (lex_walk (i + 1) hx hy ?_ h')
      rw [hf]
      exact decide_eq_decide.mpr (by simp)
    · have ex : ¬ x = y := by simpa using e1
      have h' : Q (decide (x < y)) s := by
        rw [show lex (x :: ns) (y :: ms) = decide (x < y) by rw [lex_cons, if_neg ex]] at h
        exact h
      exact PySem.W.kat_no (TS.oneLt_ints _ h')
/-- the three ways in which two such tuples are compared -/
theorem ti_tuples {x y : Value} {ns ms : List Int} (hx : TI s.heap x ns) (hy : TI s.heap y ms) (h : Q (lex ns ms) s) : wpAny (model prog w) A (keyLt' (tuples' true) x y) Q E s := by
  obtain ⟨a, o, its, n, rfl, ho, hc, hd, hi⟩ := hx
  obtain ⟨b, p, jts, m, rfl, hp, hc2, hd2, hj⟩ := hy
  refine PySem.W.kat_lt ho hd hp hd2 (lex_walk 0 hi hj ?_ h)
  have e1 := hi.length
  have e2 := hj.length
  rw [Array.length_toList] at e1 e2
  rw [← e1, ← e2]
theorem ti_general {x y : Value} {ns ms : List Int} (hu : A.units < cLine) (hx : TI s.heap x ns) (hy : TI s.heap y ms) (h : Q (lex ns ms) s) : wpAny (model prog w) A (keyLt' general' x y) Q E s := by
  obtain ⟨a, o, its, n, rfl, ho, hc, hd, hi⟩ := hx
  obtain ⟨b, p, jts, m, rfl, hp, hc2, hd2, hj⟩ := hy
  show wpAny _ _ (oneLt' false (.ref a) (.ref b)) Q E s
  exact PySem.W.kat_one _ _ (HT.lt_tupInts ⟨o, ho, hc, n, hd⟩ ⟨p, hp, hc2, m, hd2⟩ hi hj hu h)
theorem ti_one {x y : Value} {ns ms : List Int} (hu : A.units < cLine) (hx : TI s.heap x ns) (hy : TI s.heap y ms) (h : Q (lex ns ms) s) : wpAny (model prog w) A (keyLt' oneType' x y) Q E s := by
  obtain ⟨a, ⟨cls, dd, data, sl⟩, its, n, rfl, ho, hc, hd, hi⟩ := hx
  obtain ⟨b, ⟨cls2, dd2, data2, sl2⟩, jts, m, rfl, hp, hc2, hd2, hj⟩ := hy
  simp only at hc hd hc2 hd2
  subst hc hd hc2 hd2
  rw [keyLt'_oneType, oneLt'_eq]
  simp only [if_true]
  refine wpAny_bind (wpAny_cRoomFor hu ?_)
  refine wpAny_bind (wpAny_callSpecialIfBound?_slot ⟨_, ho, rfl⟩ PySem.F.slot_tuple_lt (call_meets PySem.F.slot_tuple_lt ⟨_, ho, rfl⟩ PySem.F.entry_tuple_lt (PySem.F.args_tuple_lt_2 _ _)
    (HT.tuple_lt_ints a b its jts n m dd dd2 sl sl2 ns ms hi hj) ⟨ho, hp, ?_⟩))
  exact wpAny_truthy_bool h
end
section
variable {M : Model} {A : Around} {E : Value → Shared → Prop} {s : Shared}
/-- the first part of a tuple -/
def fstH (h : Heap) : Value → Option Value
  | .ref a => match h.get? a with
    | some o => match o.data with
      | .seq its _ => its[0]?
      | _ => none
    | none => none
  | _ => none
theorem fst_ti {h : Heap} {a : Addr} {o : Obj} {its : Array Value} {n : Nat} (ho : h.get? a = some o) (hd : o.data = .seq its n) : fstH h (.ref a) = its[0]? := by
  unfold fstH
  simp only [ho, hd]
theorem fst_some {h : Heap} {v : Value} {ns : List Int} (t : TI h v ns) : (fstH h v).isSome = true ↔ ns ≠ [] := by
  obtain ⟨a, o, its, n, e, ho, hc, hd, hi⟩ := t
  subst e
  rw [fst_ti ho hd, ← Array.getElem?_toList]
  generalize its.toList = l at hi
  cases hi with
  | nil => simp
  | cons x t r => simp
theorem firsts_run {k : Value → List Int} : ∀ (vs : List Value) {Q : List (Option Value) → Shared → Prop}, (∀ v ∈ vs, TI s.heap v (k v)) → Q (vs.map (fstH s.heap)) s → wpAny M A (vs.mapM firstOfTuple') Q E s
  | [], _, _, h => by
    rw [List.mapM_nil]
    exact wpAny_pure h
  | v :: vs, Q, hp, h => by
    obtain ⟨a, o, its, n, e, ho, hc, hd, hi⟩ := hp v List.mem_cons_self
    subst e
    rw [List.mapM_cons]
    refine wpAny_bind ?_
    rw [PySem.W.kas_first_eq]
    refine wpAny_bind (PySem.W.Looks.here (show PySem.W.Looks M s.heap (typeOf (.ref a)) o.cls from (PySem.W.Looks.ld ho).andThen .now) ?_)
    rw [hc, if_neg (by first | decide | simp)]
    refine wpAny_bind (listItems_at ho hd (wpAny_pure ?_))
    refine wpAny_bind (firsts_run vs (Q := fun bs s' => wpAny M A (pure (its[0]? :: bs)) Q E s') (fun u hu => hp u (List.mem_cons_of_mem _ hu)) (wpAny_pure ?_))
    rw [List.map_cons, fst_ti ho hd] at h
    exact h
theorem types_tup {k : Value → List Int} {vs : List Value} (h : ∀ v ∈ vs, TI s.heap v (k v)) (h0 : 0 < vs.length) {Q : Option Value → Shared → Prop} (hq : Q (some (.type "tuple")) s) : wpAny M A (oneTypeOnly' vs.toArray) Q E s := by
  rw [oneTypeOnly'_eq, List.mapM_toArray, map_eq_pure_bind]
  refine wpAny_bind (wpAny_bind (PySem.W.kas_mapM (r := Value.type "tuple") _ (fun v hv Q' hq' => ?_) (wpAny_pure ?_)))
  · obtain ⟨a, o, its, n, e, ho, hc, _⟩ := h v hv
    subst e
    have l : PySem.W.Looks M s.heap (typeOf (.ref a)) o.cls := (PySem.W.Looks.ld ho).andThen .now
    rw [hc] at l
    exact l.here hq'
  · have all : ((List.map (fun _ => Value.type "tuple") vs).toArray.all fun x => x == Value.type "tuple") = true := by
      simp only [List.all_toArray, List.all_map, List.all_eq_true]
      intro _ _
      rfl
    have at0 : (List.map (fun _ => Value.type "tuple") vs).toArray[0]? = some (Value.type "tuple") := by
      match vs, h0 with
      | v :: vs, _ => simp
    rw [at0]
    simp only [all, if_true]
    exact wpAny_pure hq
end
section
variable {prog : Program} {w : World} {A : Around} {E : Value → Shared → Prop} {s : Shared}
theorem tups_sortable {a : Addr} {vs : List Value} {k : Value → List Int} (hu : A.units < cLine) (h0 : 0 < vs.length) (hp : ∀ v ∈ vs, TI s.heap v (k v)) (ha : ∀ o, s.heap.get? a = some o → o.cls ≠ .type "tuple") :
    SrtO.SortableO prog w A s a vs fun v u => lex (k v) (k u) := by
  intro h' keep
  have hp' : ∀ v ∈ vs, TI h' v (k v) := fun v hm => (hp v hm).keeps fun b o e c => keep b o (fun z => by subst z; exact ha o e c) e
  by_cases hall : ∀ v ∈ vs, k v ≠ []
  · refine ⟨tuples' true, fun Q E hq => ?_, fun p q hm hm' => ti_tuples (hp' _ hm) (hp' _ hm') ⟨rfl, rfl⟩⟩
    have ks : ∀ us : List Value, (∀ v ∈ us, TI h' v (k v) ∧ k v ≠ []) → ∃ fs : List Value, PySem.W.KatTups h' us fs ∧ fs.length = us.length ∧ ∀ f ∈ fs, ∃ x t, f = Value.int x t := by
      intro us
      induction us with
      | nil => intro _; exact ⟨[], PySem.W.KatTups.nil, rfl, fun f hf => by cases hf⟩
      | cons u us ih =>
        intro hus
        obtain ⟨fs, f1, f2, f3⟩ := ih fun v hv => hus v (List.mem_cons_of_mem _ hv)
        obtain ⟨⟨b, o, its, n, e, ho, hc, hd, hi⟩, hne⟩ := hus u List.mem_cons_self
        subst e
        obtain ⟨x, t, hx⟩ : ∃ x t, its[0]? = some (Value.int x t) := by
          rw [← Array.getElem?_toList]
          generalize its.toList = l at hi
          generalize k (.ref b) = ns at hi hne
          cases hi with
          | nil => exact absurd rfl hne
          | cons x t r => exact ⟨x, t, rfl⟩
        refine ⟨.int x t :: fs, PySem.W.KatTups.cons ho hc hd hx f1, by rw [List.length_cons, List.length_cons, f2], fun f hf => ?_⟩
        rcases List.mem_cons.mp hf with e | hf
        · exact ⟨x, t, e⟩
        · exact f3 f hf
    obtain ⟨fs, f1, f2, f3⟩ := ks vs fun v hv => ⟨hp' v hv, hall v hv⟩
    refine PySem.W.kat_kind (T := .type "int") f1 (by omega) (fun f hm => ?_) (by rfl) ?_
    · obtain ⟨x, t, rfl⟩ := f3 f hm
      exact PySem.W.Looks.now
    · have e : (Value.type "int" != Value.type "tuple") = true := by
        first
          | decide +kernel
          | rfl
      rw [e]
      exact hq
  · have notall : ¬ ((vs.map (fstH h')).toArray.all fun x => x.isSome) = true := fun z => hall fun v hv => by
      rw [List.all_toArray, List.all_eq_true] at z
      exact (fst_some (hp' v hv)).mp (z _ (List.mem_map.mpr ⟨v, hv, rfl⟩))
    by_cases h1 : (((vs.map (fstH h')).toArray[0]?).bind id).isSome = true
    · refine ⟨general', fun Q E hq => ?_, fun p q hm hm' => ti_general hu (hp' _ hm) (hp' _ hm') ⟨rfl, rfl⟩⟩
      rw [keyKind'_eq, List.mapM_toArray, map_eq_pure_bind]
      refine wpAny_bind (wpAny_bind (firsts_run (s := { s with heap := h' }) (k := k) vs hp' (wpAny_pure ?_)))
      rw [if_neg notall, if_pos h1]
      exact wpAny_pure hq
    · refine ⟨oneType', fun Q E hq => ?_, fun p q hm hm' => ti_one hu (hp' _ hm) (hp' _ hm') ⟨rfl, rfl⟩⟩
      rw [keyKind'_eq, List.mapM_toArray, map_eq_pure_bind]
      refine wpAny_bind (wpAny_bind (firsts_run (s := { s with heap := h' }) (k := k) vs hp' (wpAny_pure ?_)))
      rw [if_neg notall, if_neg h1]
      exact wpAny_bind (types_tup (s := { s with heap := h' }) hp' h0 (wpAny_pure hq))
end
/-! ### sorted of a tuple -/
section
variable {prog : Program} {w : World} {A : Around} {E : Value → Shared → Prop} {s : Shared}
theorem collect_tup {l : Addr} {vs : List Value} {Q : List Value → Shared → Prop} (hl : IsTup s.heap l vs.toArray) (hsz : vs.length ≤ sizeLine)
    (h : Q vs { s with heap := (s.heap.push (seqObj "list" #[] 0)).update s.heap.objs.size (Obj.mapSeq (· ++ vs.toArray)) }) : wpAny (model prog w) A (collect (.ref l)) Q E s := by
  obtain ⟨o, ho, hc, n, hd⟩ := id hl
  unfold collect
  refine wpAny_bind (wpAny_runValue (codeAny_builtin entry_proto_collect' ?_))
  show wpAny _ _ (do again (.builtin "list.__iadd__" ⟨[← newList [], .ref l], []⟩)) _ _ s
  refine wpAny_bind (wpAny_newList (wpAny_pure ⟨Code.quiet_builtin _ (by decide +kernel), codeAny_builtin entry_list_iadd' ?_⟩))
  show wpAny _ _ (Builtin.List.listExtendWith (.ref s.heap.objs.size) (.ref l) (.ref s.heap.objs.size)) _ _ { s with heap := s.heap.push (seqObj "list" #[] 0) }
  unfold Builtin.List.listExtendWith
  have old : (s.heap.push (seqObj "list" #[] 0)).get? l = some o := Heap.get?_push_of_some _ ho
  refine wpAny_bind (wpAny_typeOf (T := "tuple") ⟨o, old, hc⟩ ?_)
  have yes : (Value.type "tuple" == Value.type "tuple") = true := by rfl
  rw [if_pos (by rw [yes]; simp)]
  refine wpAny_bind (listItems_at old hd ?_)
  refine wpAny_bind (listItems_at (xs := #[]) (n := 0) (Heap.get?_push_size _ rfl) rfl ?_)
  rw [if_neg (by simp)]
  refine wpAny_bind (listUpdate_at (xs := #[]) (n := 0) (Heap.get?_push_size _ rfl) rfl ?_ (Nat.zero_le _)
    (by show (#[] ++ vs.toArray).size ≤ sizeLine + 1; simp only [Array.size_append, List.size_toArray, List.length_nil]; omega))
  refine wpAny_pure ?_
  show wpAny (model prog w) A (do
      let o ← load s.heap.objs.size
      match o.data with
      | .seq xs _ => pure xs.toList
      | _ => unsupported "internal:collect") Q E { s with heap := (s.heap.push (seqObj "list" #[] 0)).update s.heap.objs.size (Obj.mapSeq (· ++ vs.toArray)) }
  refine wpAny_bind (wpAny_load (get?_update_seq (Heap.get?_push_size _ rfl) _) ?_)
  show wpAny _ _ (pure ((#[] : Array Value) ++ vs.toArray).toList) Q E _
  have e : ((#[] : Array Value) ++ vs.toArray).toList = vs := by simp
  rw [e]
  exact wpAny_pure h
/-- sorted(t, reverse=True), t a tuple or a list of tuples of ints -/
theorem sorted_tups {l : Addr} {vs : List Value} {k : Value → List Int} {Q : Value → Shared → Prop} (hu : A.units + 2 < cLine) (hl : IsTup s.heap l vs.toArray ∨ s.heap.IsList l vs.toArray) (hz : vs.length ≤ sizeLine) (hp : ∀ v ∈ vs, TI s.heap v (k v))
    (h : ∀ out : List Value, out.Perm vs → out.Pairwise (fun x y => lex (k x) (k y) = false) → Q (.ref (s.heap.objs.size + 1)) { s with heap := sortedAll s.heap vs out.toArray }) :
    wpAny (model prog w) A (call (.builtin "sorted") [.ref l] [(Str.ofString "reverse", .bool true)]) Q E s := by
  have fin : ∀ out : List Value, SrtO.Srtd (fun v u => lex (k v) (k u)) out → SrtO.Stb (fun v u => lex (k v) (k u)) out (if true = true then vs.reverse else vs) →
      Q (.ref (s.heap.objs.size + 1)) { s with heap := sortedAll s.heap vs (if true = true then out.toArray.reverse else out.toArray) } := by
    intro out h1 h2
    rw [if_pos rfl] at h2 ⊢
    have e : out.toArray.reverse = out.reverse.toArray := by simp
    rw [e]
    refine h _ (((List.reverse_perm out).trans h2.perm).trans (List.reverse_perm vs)) ?_
    exact List.pairwise_reverse.mpr h1
  have sortable : 2 ≤ vs.length → ∀ (h₁ : Heap) (a : Addr), h₁.get? a = some (seqObj "list" vs.toArray 0) → (∀ b o, s.heap.get? b = some o → b ≠ a ∧ h₁.get? b = some o) →
      SrtO.SortableO prog w A.in1.in1 { s with heap := h₁ } a vs fun v u => lex (k v) (k u) := by
    intro h2 h₁ a ha kk
    refine tups_sortable (s := { s with heap := h₁ }) (by show A.units + 1 + 1 < cLine; omega) (by omega) (fun v hm => (hp v hm).keeps fun b o e _ => (kk b o e).2) fun o e => ?_
    have e' : some o = some (seqObj "list" vs.toArray 0) := e.symm.trans ha
    cases e'
    exact fun c => absurd (Value.type.inj c) (by decide)
  rcases hl with hl | hl
  · refine call_function_entry_kw kind_sorted plain_sorted entry_sorted (args_sorted_rev _ _) ?_
    unfold Builtin.«sorted»
    refine wpAny_bind (m := checkCount "sorted" 1 1 _) (wpAny_pure ?_)
    refine wpAny_bind (collect_tup hl hz ?_)
    refine wpAny_bind (wpAny_newList ?_ hz)
    have sz : ((s.heap.push (seqObj "list" #[] 0)).update s.heap.objs.size (Obj.mapSeq (· ++ vs.toArray))).objs.size = s.heap.objs.size + 1 := by
      rw [Heap.size_update, size_push']
    have new : (((s.heap.push (seqObj "list" #[] 0)).update s.heap.objs.size (Obj.mapSeq (· ++ vs.toArray))).push (seqObj "list" vs.toArray 0)).get? (s.heap.objs.size + 1) = some (seqObj "list" vs.toArray 0) := by
      rw [← sz]
      exact Heap.get?_push_size _ rfl
    have keep : ∀ b o, s.heap.get? b = some o → b ≠ s.heap.objs.size + 1 ∧ (((s.heap.push (seqObj "list" #[] 0)).update s.heap.objs.size (Obj.mapSeq (· ++ vs.toArray))).push (seqObj "list" vs.toArray 0)).get? b = some o := by
      intro b o q
      have lt : b < s.heap.objs.size := Heap.lt_size q
      refine ⟨Nat.ne_of_lt (Nat.lt_succ_of_lt lt), Heap.get?_push_of_some _ ?_⟩
      rw [Heap.get?_update_ne _ _ _ _ (Nat.ne_of_lt lt)]
      exact Heap.get?_push_of_some _ q
    show wpAny _ _ _ _ _ { s with heap := ((s.heap.push (seqObj "list" #[] 0)).update s.heap.objs.size (Obj.mapSeq (· ++ vs.toArray))).push (seqObj "list" vs.toArray 0) }
    rw [sz]
    refine wpAny_bind (wpAny_holding (wpAny_call_entry_kw slot_list_sort ⟨_, new, rfl⟩ entry_list_sort ?_ (args_list_sort_rev _ _)))
    refine SrtR.list_sort_ordR (swo_key k) new hz (fun h2 => sortable h2 _ _ new keep) fun out hs hb => ⟨_, rfl, ?_⟩
    exact wpAny_pure ⟨_, rfl, fin out hs hb⟩
  · exact SrtR.sorted_ordK (fun _ => rfl) (args_sorted_rev _ _) (fun _ => args_list_sort_rev _ _) (swo_key k) hl hz sortable fin
end
section
variable {X : Cx}
def rSortTR (K : PySem.W.Frag) : List V → List V → Hp → VK → Prop := fun vs zs H Q => ∃ (a : Addr) (xs : List V) (k : V → List Int), vs = [V.ref a] ∧ zs = [V.bl true] ∧ (SqT K H a xs ∨ SqL K H a xs) ∧
  (∀ x ∈ xs, ∃ t, x = V.ref t ∧ H t = some (.tup ((k x).map V.int))) ∧
  ∀ ys p, ys.Perm xs → ys.Pairwise (fun x y => lex (k x) (k y) = false) → H p = none → Q (.ref p) (upd H p (.lst ys))
theorem cr_sortTR {r : Nat} (room : Room r X.A) : CallRK X (.builtin "sorted") [Str.ofString "reverse"] (rSortTR X.K) := by
  intro pins s σ H vs zs us ws Q I r rz h
  obtain ⟨a, xs, k, rfl, rfl, hs, hx, q⟩ := h
  obtain rfl := Vals.ref1 r
  obtain ⟨w1, rfl, e1⟩ := vals1 rz
  obtain rfl : w1 = Value.bool true := e1
  obtain ⟨its, rv, hl, hz⟩ : ∃ its : List Value, Vals xs its ∧ (IsTup s.heap a its.toArray ∨ s.heap.IsList a its.toArray) ∧ xs.length ≤ sizeLine := by
    rcases hs with hs | hs
    · obtain ⟨its, rv, p, hz⟩ := I.tuple hs
      exact ⟨its, rv, .inl p, hz⟩
    · obtain ⟨its, rv, p, hz⟩ := I.list hs
      exact ⟨its, rv, .inr p.isList, hz⟩
  obtain ⟨e1, e2⟩ := refs_back rv fun x m => by
    obtain ⟨t, e, _⟩ := hx x m
    exact ⟨t, e⟩
  refine sorted_tups (k := fun u => k (backV u)) (by have := room.un; omega) hl (by rw [← rv.length]; exact hz) (fun v hv => ?_) fun out h1 h2 => ?_
  · obtain ⟨t, rfl⟩ := e2 v hv
    have hm : V.ref t ∈ xs := by
      rw [e1]
      exact List.mem_map.mpr ⟨_, hv, rfl⟩
    obtain ⟨t', e, ht⟩ := hx _ hm
    cases e
    obtain ⟨_, its2, r2, o, ho, hc, n, hd⟩ := I.hok _ _ ht
    exact ⟨t, o, its2.toArray, n, rfl, ho, hc, hd, intsAre_of r2⟩
  · have h3 : ∀ u ∈ out, ∃ b, u = Value.ref b := fun u hu => e2 u (h1.mem_iff.mp hu)
    obtain ⟨n, hn⟩ := PyProof.Rows.sortedAll_at s.heap its out.toArray
    have hb : (out.map backV).Perm xs := by
      rw [e1]
      exact h1.map backV
    refine ⟨.ref _, upd H (s.heap.objs.size + 1) (.lst (out.map backV)), I.laid (t' := s.toks) (fun _ _ => PyProof.Rows.sortedAll_old) (Nat.le_succ _) ⟨?_, out, n, vals_back h3, hn⟩, rfl, q _ _ hb (List.pairwise_map.mpr h2) (I.hok.fresh (Nat.le_succ _))⟩
    rw [hb.length_eq]
    exact hz
end
end Lw

namespace Lw
open PySem PySem.Spec PyProof.Rows L2

/-! ### comprehensions over a tuple, over a range -/
/-- what a comprehension's reading asks behind its source -/
def LcEnd (J : It) (g : TG) (tt : TT) (te : TE) (vs : List Nat) (σ : L2.St) (H1 : Hp) (D : Addr) (Qd : Hp → Prop) : Prop :=
  ∃ W : Nat → Nat → Hp → Prop, (∃ m, W 0 m (upd H1 D (.lst []))) ∧ ∀ i m H, W i m H →
    (J.stop i H ∧ Qd H) ∨ (J.go i H ∧ ∃ Nx : Hp → Prop, (∀ H', Nx H' → ∃ m', m' < m ∧ W (i + 1) m' H') ∧ ∀ x H', J.yld i H x H' → g x (wipe σ vs) H' fun σ2 H2 => wipe σ2 vs = wipe σ vs ∧ tt σ2 H2 fun b H3 =>
      if b = true then te σ2 H3 fun y H4 => ∃ acc, H4 D = some (.lst acc) ∧ acc.length < sizeLine ∧ Nx (upd H4 D (.lst (acc ++ [y]))) else Nx H3)
theorem lc_tup {K : PySem.W.Frag} {a : Addr} {xs : List V} {g : TG} {tt : TT} {te : TE} {vs : List Nat} {σ : L2.St} {H1 : Hp} {D : Addr} {Qd : Hp → Prop} (Pv : Nat → Hp → Prop) (h0 : Pv 0 (upd H1 D (.lst []))) (hl : ∀ i H, i ≤ xs.length → Pv i H → SqT K H a xs)
    (hs : ∀ i x H, xs[i]? = some x → Pv i H → g x (wipe σ vs) H fun σ2 H2 => wipe σ2 vs = wipe σ vs ∧ tt σ2 H2 fun b H3 =>
      if b = true then te σ2 H3 fun y H4 => ∃ acc, H4 D = some (.lst acc) ∧ acc.length < sizeLine ∧ Pv (i + 1) (upd H4 D (.lst (acc ++ [y]))) else Pv (i + 1) H3) (hd : ∀ H, Pv xs.length H → Qd H) :
    LcEnd (Itt K a) g tt te vs σ H1 D Qd := by
  refine ⟨fun i m H => m = xs.length - i ∧ i ≤ xs.length ∧ Pv i H, ⟨xs.length, by simp, Nat.zero_le _, h0⟩, ?_⟩
  rintro i m H ⟨rfl, hi, p⟩
  have q := hl i H hi p
  by_cases lt : i < xs.length
  · refine Or.inr ⟨⟨xs, xs[i], q, by simp [lt]⟩, Pv (i + 1), ?_, ?_⟩
    · intro H' p'
      exact ⟨xs.length - (i + 1), by omega, rfl, lt, p'⟩
    · rintro x H' ⟨e, y⟩
      subst e
      exact hs i x _ (y xs q) p
  · have e : i = xs.length := by omega
    subst e
    exact Or.inl ⟨⟨xs, q, Nat.le_refl _⟩, hd H p⟩
theorem lc_range {lo : Int} {n : Nat} {g : TG} {tt : TT} {te : TE} {vs : List Nat} {σ : L2.St} {H1 : Hp} {D : Addr} {Qd : Hp → Prop} (Pv : Nat → Hp → Prop) (h0 : Pv 0 (upd H1 D (.lst [])))
    (hs : ∀ i H, i < n → Pv i H → g (.int (lo + i)) (wipe σ vs) H fun σ2 H2 => wipe σ2 vs = wipe σ vs ∧ tt σ2 H2 fun b H3 =>
      if b = true then te σ2 H3 fun y H4 => ∃ acc, H4 D = some (.lst acc) ∧ acc.length < sizeLine ∧ Pv (i + 1) (upd H4 D (.lst (acc ++ [y]))) else Pv (i + 1) H3) (hd : ∀ H, Pv n H → Qd H) :
    LcEnd (Itr lo n) g tt te vs σ H1 D Qd := by
  refine ⟨fun i m H => m = n - i ∧ i ≤ n ∧ Pv i H, ⟨n, by simp, Nat.zero_le _, h0⟩, ?_⟩
  rintro i m H ⟨rfl, hi, p⟩
  by_cases lt : i < n
  · refine Or.inr ⟨lt, Pv (i + 1), ?_, ?_⟩
    · intro H' p'
      exact ⟨n - (i + 1), by omega, rfl, lt, p'⟩
    · rintro x H' ⟨e, y⟩
      subst e y
      exact hs i _ lt p
  · have e : i = n := by omega
    subst e
    exact Or.inl ⟨Nat.le_refl _, hd H p⟩

/-! ### the k-th greatest -/
section
variable {α : Type}
def above (key : α → List Int) (xs : List α) (v : α) : Nat := (xs.filter fun x => lex (key v) (key x)).length
def below (key : α → List Int) (xs : List α) (v : α) : Nat := (xs.filter fun x => lex (key x) (key v)).length
structure IsKth (key : α → List Int) (xs : List α) (k : Nat) (v : α) : Prop where
  up : above key xs v < k
  dn : below key xs v + k ≤ xs.length
theorem filter_false {p : α → Bool} {l : List α} (h : ∀ x ∈ l, p x = false) : l.filter p = [] :=
  List.filter_eq_nil_iff.mpr fun x hx => by
    rw [h x hx]
    exact Bool.false_ne_true
theorem kth_parts {key : α → List Int} {xs A B : List α} {v : α} (hp : (A ++ v :: B).Perm xs) (hs : (A ++ v :: B).Pairwise fun x y => lex (key x) (key y) = false) : IsKth key xs (A.length + 1) v := by
  obtain ⟨h1, h2, h3⟩ := List.pairwise_append.mp hs
  obtain ⟨h4, h5⟩ := List.pairwise_cons.mp h2
  have up : ∀ x ∈ v :: B, lex (key v) (key x) = false := by
    intro x hx
    rcases List.mem_cons.mp hx with z | hx
    · rw [z]
      exact lex_irr _
    · exact h4 x hx
  have dn : ∀ x ∈ A, lex (key x) (key v) = false := fun x hx => h3 x hx _ List.mem_cons_self
  have n1 : above key xs v = ((A ++ v :: B).filter fun x => lex (key v) (key x)).length := (hp.filter _).length_eq.symm
  have n2 : below key xs v = ((A ++ v :: B).filter fun x => lex (key x) (key v)).length := (hp.filter _).length_eq.symm
  rw [List.filter_append, filter_false up, List.append_nil] at n1
  rw [List.filter_append, filter_false dn, List.nil_append, List.filter_cons_of_neg (by rw [lex_irr]; exact Bool.false_ne_true)] at n2
  have f1 := List.length_filter_le (fun x => lex (key v) (key x)) A
  have f2 := List.length_filter_le (fun x => lex (key x) (key v)) B
  have hl := hp.length_eq
  rw [List.length_append, List.length_cons] at hl
  exact ⟨by omega, by omega⟩
theorem kth_of_sorted {key : α → List Int} {xs ys : List α} {k : Nat} {v : α} (hp : ys.Perm xs) (hs : ys.Pairwise fun x y => lex (key x) (key y) = false) (h : ys[k]? = some v) : IsKth key xs (k + 1) v := by
  obtain ⟨hk, hv⟩ := List.getElem?_eq_some_iff.mp h
  have e : ys = ys.take k ++ v :: ys.drop (k + 1) := by
    rw [← hv, ← List.drop_eq_getElem_cons hk]
    exact (List.take_append_drop k ys).symm
  have lt : (ys.take k).length = k := by
    rw [List.length_take]
    omega
  have r := kth_parts (key := key) (xs := xs) (A := ys.take k) (v := v) (B := ys.drop (k + 1)) (by rw [← e]; exact hp) (by rw [← e]; exact hs)
  rw [lt] at r
  exact r
theorem filter_le {p q : α → Bool} : ∀ {l : List α}, (∀ x, p x = true → q x = true) → (l.filter p).length ≤ (l.filter q).length
  | [], _ => Nat.le_refl _
  | x :: l, h => by
    have ih := filter_le (l := l) h
    cases hp : p x with
    | true =>
      rw [List.filter_cons_of_pos hp, List.filter_cons_of_pos (h x hp), List.length_cons, List.length_cons]
      omega
    | false =>
      rw [List.filter_cons_of_neg (by rw [hp]; exact Bool.false_ne_true)]
      cases hq : q x with
      | true =>
        rw [List.filter_cons_of_pos hq, List.length_cons]
        omega
      | false =>
        rw [List.filter_cons_of_neg (by rw [hq]; exact Bool.false_ne_true)]
        exact ih
theorem filter_split {p : α → Bool} : ∀ l : List α, (l.filter p).length + (l.filter fun x => !p x).length = l.length
  | [] => rfl
  | x :: l => by
    have ih := filter_split (p := p) l
    cases hp : p x with
    | true =>
      rw [List.filter_cons_of_pos hp, List.filter_cons_of_neg (by rw [hp]; decide), List.length_cons, List.length_cons]
      omega
    | false =>
      rw [List.filter_cons_of_neg (by rw [hp]; decide), List.filter_cons_of_pos (by rw [hp]; rfl), List.length_cons, List.length_cons]
      omega
theorem kth_less {key : α → List Int} {xs : List α} {k : Nat} {u v : α} (hu : IsKth key xs k u) (hv : IsKth key xs k v) : lex (key u) (key v) = false := by
  cases h : lex (key u) (key v) with
  | false => rfl
  | true =>
    exfalso
    have O := swo_key key
    have e1 : (xs.filter fun x => !lex (key x) (key v)).length ≤ above key xs u := by
      refine filter_le fun x hx => ?_
      have hx' : lex (key x) (key v) = false := by simpa using hx
      exact O.ltle (x := u) (y := v) (z := x) h hx'
    have e2 := filter_split (p := fun x => lex (key x) (key v)) xs
    have e3 : (xs.filter fun x => lex (key x) (key v)).length = below key xs v := rfl
    have := hu.up
    have := hv.dn
    omega
theorem kth_same {key : α → List Int} {xs : List α} {k : Nat} {u v : α} (hu : IsKth key xs k u) (hv : IsKth key xs k v) : key u = key v := lex_eq _ _ (kth_less hu hv) (kth_less hv hu)
end
end Lw

namespace Z
open PySem PySem.Spec PyProof.Rows L2 Lw
def kbG {α : Type} : List α → List α → List α
  | [], [x, y] => [y, x]
  | us, ws => us ++ ws
def topS (i : Nat) : Stmt := PySem.Challenge.pw_stilltold_k02_the_kth_greatest.main.body.getD i (.Pass ⟨0, 0, 0, 0⟩)
abbrev s_kth : Stmt := topS 1
abbrev s__law_hand : Stmt := topS 3
abbrev s__law_take : Stmt := topS 4
abbrev s__law_of : Stmt := topS 5
abbrev s__law_thing : Stmt := topS 6
abbrev s__law_above : Stmt := topS 7
abbrev s__law_due : Stmt := topS 8
abbrev s__law_right : Stmt := topS 9
abbrev s_law : Stmt := topS 10
theorem sc_kth : FnScope ["things", "k", "falling"] ["things", "k"] (defScope s_kth) := ⟨rfl, rfl, rfl, by decide +kernel, rfl, by decide +kernel, by decide +kernel⟩
theorem sc__law_hand : FnScope ["_law_script", "_law_nth", "_law_cell", "_law_great"] ["_law_script", "_law_nth"] (defScope s__law_hand) := ⟨rfl, rfl, rfl, by decide +kernel, rfl, by decide +kernel, by decide +kernel⟩
theorem sc__law_take : FnScope ["_law_hand_here", "_law_upon", "_law_digit", "_law_prime", "_law_drawn"] ["_law_hand_here", "_law_upon"] (defScope s__law_take) := ⟨rfl, rfl, rfl, by decide +kernel, rfl, by decide +kernel, by decide +kernel⟩
theorem sc__law_of : FnScope ["_law_hand_here", "_law_some"] ["_law_hand_here", "_law_some"] (defScope s__law_of) := ⟨rfl, rfl, rfl, by decide +kernel, rfl, by decide +kernel, by decide +kernel⟩
theorem sc__law_thing : FnScope ["_law_hand_here", "_law_number"] ["_law_hand_here"] (defScope s__law_thing) := ⟨rfl, rfl, rfl, by decide +kernel, rfl, by decide +kernel, by decide +kernel⟩
theorem sc__law_above : FnScope ["_law_one", "_law_other", "_law_mine", "_law_its"] ["_law_one", "_law_other"] (defScope s__law_above) := ⟨rfl, rfl, rfl, by decide +kernel, rfl, by decide +kernel, by decide +kernel⟩
theorem sc__law_due : FnScope ["_law_row", "_law_turn", "_law_item", "_law_above_here", "_law_beneath", "_law_other"] ["_law_row", "_law_turn"] (defScope s__law_due) := ⟨rfl, rfl, rfl, by decide +kernel, rfl, by decide +kernel, by decide +kernel⟩
theorem sc__law_right : FnScope ["_law_row", "_law_looked", "_law_turn", "_law_due_here", "_law_told_so", "_law_item"] ["_law_row"] (defScope s__law_right) := ⟨rfl, rfl, rfl, by decide +kernel, rfl, by decide +kernel, by decide +kernel⟩
theorem sc_law : FnScope ["_law_script", "_law_nth", "_law_hand_here", "_law_turn", "_law_row", "_law_spot"] ["_law_script"] (defScope s_law) := ⟨rfl, rfl, rfl, by decide +kernel, rfl, by decide +kernel, by decide +kernel⟩
structure Txt (K : PySem.W.Frag) (mg : Str → Option Value) where
  f_kth : Addr
  fd_kth : FuncData
  F_kth : Fun K "kth" "kth" s_kth f_kth fd_kth
  g_kth : mg "kth" = some (.ref f_kth)
  b_kth : Binds K fd_kth ["things", "k"] []
  f__law_hand : Addr
  fd__law_hand : FuncData
  F__law_hand : Fun K "_law_hand" "_law_hand" s__law_hand f__law_hand fd__law_hand
  g__law_hand : mg "_law_hand" = some (.ref f__law_hand)
  b__law_hand : Binds K fd__law_hand ["_law_script", "_law_nth"] []
  f__law_take : Addr
  fd__law_take : FuncData
  F__law_take : Fun K "_law_take" "_law_take" s__law_take f__law_take fd__law_take
  g__law_take : mg "_law_take" = some (.ref f__law_take)
  b__law_take : Binds K fd__law_take ["_law_hand_here", "_law_upon"] []
  f__law_of : Addr
  fd__law_of : FuncData
  F__law_of : Fun K "_law_of" "_law_of" s__law_of f__law_of fd__law_of
  g__law_of : mg "_law_of" = some (.ref f__law_of)
  b__law_of : Binds K fd__law_of ["_law_hand_here", "_law_some"] []
  f__law_thing : Addr
  fd__law_thing : FuncData
  F__law_thing : Fun K "_law_thing" "_law_thing" s__law_thing f__law_thing fd__law_thing
  g__law_thing : mg "_law_thing" = some (.ref f__law_thing)
  b__law_thing : Binds K fd__law_thing ["_law_hand_here"] []
  f__law_above : Addr
  fd__law_above : FuncData
  F__law_above : Fun K "_law_above" "_law_above" s__law_above f__law_above fd__law_above
  g__law_above : mg "_law_above" = some (.ref f__law_above)
  b__law_above : Binds K fd__law_above ["_law_one", "_law_other"] []
  f__law_due : Addr
  fd__law_due : FuncData
  F__law_due : Fun K "_law_due" "_law_due" s__law_due f__law_due fd__law_due
  g__law_due : mg "_law_due" = some (.ref f__law_due)
  b__law_due : Binds K fd__law_due ["_law_row", "_law_turn"] []
  f__law_right : Addr
  fd__law_right : FuncData
  F__law_right : Fun K "_law_right" "_law_right" s__law_right f__law_right fd__law_right
  g__law_right : mg "_law_right" = some (.ref f__law_right)
  b__law_right : Binds K fd__law_right ["_law_row"] []
  f_law : Addr
  fd_law : FuncData
  F_law : Fun K "law" "law" s_law f_law fd_law
  g_law : mg "law" = some (.ref f_law)
  b_law : Binds K fd_law ["_law_script"] []
  kb_kth : KBinds K fd_kth ["things", "k"] ["k", "things"] kbG kbG
  m_abs : mg "abs" = none
  m_all : mg "all" = none
  m_int : mg "int" = none
  m_len : mg "len" = none
  m_min : mg "min" = none
  m_range : mg "range" = none
  m_repr : mg "repr" = none
  m_sorted : mg "sorted" = none
  m_tuple : mg "tuple" = none
  m_zip : mg "zip" = none
theorem Txt.k_kth {K : PySem.W.Frag} {mg : Str → Option Value} (T : Txt K mg) : PySem.W.keepIn K (.ref T.f_kth) = true := T.F_kth.kp
theorem Txt.k__law_hand {K : PySem.W.Frag} {mg : Str → Option Value} (T : Txt K mg) : PySem.W.keepIn K (.ref T.f__law_hand) = true := T.F__law_hand.kp
theorem Txt.k__law_take {K : PySem.W.Frag} {mg : Str → Option Value} (T : Txt K mg) : PySem.W.keepIn K (.ref T.f__law_take) = true := T.F__law_take.kp
theorem Txt.k__law_of {K : PySem.W.Frag} {mg : Str → Option Value} (T : Txt K mg) : PySem.W.keepIn K (.ref T.f__law_of) = true := T.F__law_of.kp
theorem Txt.k__law_thing {K : PySem.W.Frag} {mg : Str → Option Value} (T : Txt K mg) : PySem.W.keepIn K (.ref T.f__law_thing) = true := T.F__law_thing.kp
theorem Txt.k__law_above {K : PySem.W.Frag} {mg : Str → Option Value} (T : Txt K mg) : PySem.W.keepIn K (.ref T.f__law_above) = true := T.F__law_above.kp
theorem Txt.k__law_due {K : PySem.W.Frag} {mg : Str → Option Value} (T : Txt K mg) : PySem.W.keepIn K (.ref T.f__law_due) = true := T.F__law_due.kp
theorem Txt.k__law_right {K : PySem.W.Frag} {mg : Str → Option Value} (T : Txt K mg) : PySem.W.keepIn K (.ref T.f__law_right) = true := T.F__law_right.kp
theorem Txt.k_law {K : PySem.W.Frag} {mg : Str → Option Value} (T : Txt K mg) : PySem.W.keepIn K (.ref T.f_law) = true := T.F_law.kp
end Z

namespace Z
open PySem PySem.Spec PyProof.Rows L2 Lw

/-! ### draws: the hand, a draw, one of some -/
section
variable {P : Program} {w : World} {K : PySem.W.Frag} {mg : Str → Option Value} {base : Heap}
theorem bit_small (b : Bool) : -(2 ^ 64) < (if b = true then (1 : Int) else 0) ∧ (if b = true then (1 : Int) else 0) < 2 ^ 64 := by cases b <;> exact ⟨by decide, by decide⟩
def sp_hand (K : PySem.W.Frag) : Sp := fun vs H Q _ => ∃ (a : Addr) (ns : List Int) (k : Nat), vs = [.ref a, .int k] ∧ SqL K H a (ns.map V.int) ∧ k ≤ 1000 ∧
  ∀ p H', Same H H' → H p = none → Hd H' p 0 → Q (.ref p) H'
theorem ok_hand (T : Txt K mg) {k : Nat} : FnOk P w K mg base CX0 (k + 1) T.f__law_hand T.fd__law_hand ["_law_script", "_law_nth"] (sp_hand K) := by
  refine T.F__law_hand.ok sc__law_hand (fun vs H Q E h => ?_) (fun cdv A outer s H vs Q E hr h => ?_)
  · obtain ⟨a, ns, k, rfl, _⟩ := h
    rfl
  obtain ⟨a, ns, k, rfl, hS, hk, q⟩ := h
  refine ⟨_, (pss_cons (ps_set (i := 2) sc__law_hand.nd rfl (.inl rfl) (pe_ifExp (pt_cmpR op_lt (pv 1) (pe_callB call_len_seq (by rfl) T.m_len (by decide +kernel) (pa_cons (pv 0) pa_nil)) (nomark _)) (pe_ix ix_list (pv 0) (pv 1) (fun _ _ => rfl)) (pe_op op_add (pe_op op_mul pe_int (pv 1)) pe_int)))
      (pss_cons (ps_set (i := 3) sc__law_hand.nd rfl (.inl rfl) (pe_op op_mul (pe_op op_mod (pe_callB call_abs (by rfl) T.m_abs (by decide +kernel) (pa_cons (pv 2) pa_nil)) (pe_op op_powW (pe_op op_pow pe_int pe_int) pe_int)) (pe_callTy call_int1 (by rfl) T.m_int (by decide +kernel) (pa_cons (pe_cmpR op_ge (pe_callB call_abs (by rfl) T.m_abs (by decide +kernel) (pa_cons (pv 2) pa_nil)) (pe_op op_pow pe_int pe_int) (nomark _)) pa_nil))))
      (pss_one (ps_ret (pe_lst (pa_cons (pv 3) (pa_cons (pe_op op_mod (pe_op op_mul (pe_op op_add (pe_op op_add (pe_op op_mod (pv 2) pe_int) (pe_op op_mul (pe_op op_mul pe_int (pv 1)) (pv 1))) pe_int) pe_int) pe_int) (pa_cons pe_int pa_nil)))))))), ?_⟩
  have p1 : CPow 10 60 := ⟨by decide, by decide, by decide⟩
  have p2 : CPowW ((10 : Int) ^ (60 : Int).toNat) 15 := ⟨by decide, by decide +kernel⟩
  have p3 : CPow 10 18 := ⟨by decide, by decide, by decide⟩
  have p4 : (0 : Int) < ((10 : Int) ^ (60 : Int).toNat) ^ (15 : Int).toNat := by decide +kernel
  have fin : ∀ (x y : Int), ∀ p, H p = none → Q (.ref p) (upd H p (.lst [.int x, .int (y % 2305843009213693921), .int 0])) := by
    intro x y p np
    refine q p _ (same_new np) np ⟨_, _, _, upd_same, ?_, ?_, Int.le_refl 0, Int.le_refl 0⟩
    · exact Int.emod_nonneg _ (by decide)
    · exact Int.emod_lt_of_pos _ (by decide)
  refine ⟨.int k, rfl, .ref a, rfl, a, _, rfl, .inl hS, _, _, rfl, rfl, _, rfl, ite2 (fun c => ?_) (fun c => ?_)⟩
  · have c' : (k : Int) < (((ns.map V.int).length : Nat) : Int) := of_decide_eq_true c
    rw [List.length_map] at c'
    have hk' : k < ns.length := by omega
    have at_k : atI (ns.map V.int) (k : Int) = some (.int ns[k]) := atI_nat (by rw [List.getElem?_map, List.getElem?_eq_getElem hk']; rfl)
    refine ⟨_, rfl, _, rfl, a, _, _, _, rfl, rfl, hS, at_k, ?_⟩
    refine ⟨_, rfl, _, rfl, _, _, rfl, rfl, p1, _, _, rfl, rfl, p2, _, _, rfl, rfl, p4, _, rfl, _, rfl, _, _, rfl, rfl, p3, _, _, rfl, rfl, .inr ⟨_, rfl, _, _, rfl, rfl, .inr ?_, ?_⟩⟩
    · exact bit_small _
    refine ⟨_, rfl, _, rfl, _, _, rfl, rfl, (by show (0 : Int) < 2305843009213693951; decide), _, rfl, _, _, rfl, rfl, .inl ⟨by decide, by decide⟩, _, rfl, _, _, rfl, rfl, .inr ⟨by omega, by omega⟩, _, _, rfl, rfl, _, _, rfl, rfl,
      _, _, rfl, rfl, .inr ⟨by decide, by decide⟩, _, _, rfl, rfl, (by show (0 : Int) < 2305843009213693921; decide), (by show 3 ≤ sizeLine; decide), ?_⟩
    exact fin _ _
  · refine ⟨_, rfl, _, _, rfl, rfl, .inl ⟨by decide, by decide⟩, _, _, rfl, rfl, ?_⟩
    refine ⟨_, rfl, _, rfl, _, _, rfl, rfl, p1, _, _, rfl, rfl, p2, _, _, rfl, rfl, p4, _, rfl, _, rfl, _, _, rfl, rfl, p3, _, _, rfl, rfl, .inr ⟨_, rfl, _, _, rfl, rfl, .inr ?_, ?_⟩⟩
    · exact bit_small _
    refine ⟨_, rfl, _, rfl, _, _, rfl, rfl, (by show (0 : Int) < 2305843009213693951; decide), _, rfl, _, _, rfl, rfl, .inl ⟨by decide, by decide⟩, _, rfl, _, _, rfl, rfl, .inr ⟨by omega, by omega⟩, _, _, rfl, rfl, _, _, rfl, rfl,
      _, _, rfl, rfl, .inr ⟨by decide, by decide⟩, _, _, rfl, rfl, (by show (0 : Int) < 2305843009213693921; decide), (by show 3 ≤ sizeLine; decide), ?_⟩
    exact fin _ _

/-- a draw below u -/
def sp_take : Sp := fun vs H Q _ => ∃ (a : Addr) (n u : Nat), vs = [.ref a, .int u] ∧ Hd H a n ∧ n ≤ 1000000 ∧ 0 < u ∧ u ≤ 1000000 ∧
  ∀ (r : Nat) H', r < u → Hd H' a (n + 1) → Kp a H H' → Q (.int r) H'
def primes : List V := [.int 2147483629, .int 2147483587, .int 2147483579, .int 2147483563, .int 2147483549, .int 2147483543, .int 2147483497]
theorem prime_at (c : Int) : ∃ q : Int, atI primes (c % 7) = some (.int q) ∧ 0 < q ∧ q < 4294967296 := by
  have h0 : 0 ≤ c % 7 := Int.emod_nonneg _ (by decide)
  have h1 : c % 7 < 7 := Int.emod_lt_of_pos _ (by decide)
  have h : c % 7 = 0 ∨ c % 7 = 1 ∨ c % 7 = 2 ∨ c % 7 = 3 ∨ c % 7 = 4 ∨ c % 7 = 5 ∨ c % 7 = 6 := by omega
  rcases h with e | e | e | e | e | e | e <;> rw [e] <;> exact ⟨_, rfl, by decide, by decide⟩
theorem ok_take (T : Txt K mg) {k : Nat} : FnOk P w K mg base CX0 (k + 1) T.f__law_take T.fd__law_take ["_law_hand_here", "_law_upon"] sp_take := by
  refine T.F__law_take.ok sc__law_take (fun vs H Q E h => ?_) (fun cdv A outer s H vs Q E hr h => ?_)
  · obtain ⟨a, n, u, rfl, _⟩ := h
    rfl
  obtain ⟨a, n, u, rfl, ⟨g, m, c, ha, m0, m1, c0, c1⟩, hn, u0, u1, q⟩ := h
  refine ⟨_, (pss_cons (ps_if (pt_cmpR op_gt (pe_ix ix_list (pv 0) pe_int (fun _ _ => rfl)) pe_int (nomark _)) (pss_cons (ps_set (i := 2) sc__law_take.nd rfl (.inl rfl) (pe_op op_mod (pe_ix ix_list (pv 0) pe_int (fun _ _ => rfl)) (pv 1)))
      (pss_cons (ps_asg (pe_op op_fdiv (pe_ix ix_list (pv 0) pe_int (fun _ _ => rfl)) (pv 1)) (pg_sub (pv 0) pe_int set_list))
      (pss_one (ps_ret (pv 2))))) pss_nil)
      (pss_cons (ps_asg (pe_op op_add (pe_ix ix_list (pv 0) pe_int (fun _ _ => rfl)) pe_int) (pg_sub (pv 0) pe_int set_list))
      (pss_cons (ps_set (i := 3) sc__law_take.nd rfl (.inl rfl) (pe_ix ix_list (pe_lst (pa_cons pe_int (pa_cons pe_int (pa_cons pe_int (pa_cons pe_int (pa_cons pe_int (pa_cons pe_int (pa_cons pe_int pa_nil)))))))) (pe_op op_mod (pe_ix ix_list (pv 0) pe_int (fun _ _ => rfl)) pe_int) (fun _ _ => rfl)))
      (pss_cons (ps_set (i := 4) sc__law_take.nd rfl (.inl rfl) (pe_op op_mod (pe_op op_pow (pe_op op_add (pe_ix ix_list (pv 0) pe_int (fun _ _ => rfl)) (pe_op op_mul pe_int (pe_ix ix_list (pv 0) pe_int (fun _ _ => rfl)))) pe_int) (pv 3)))
      (pss_one (ps_ret (pe_op op_mod (pe_op op_fdiv (pe_op op_mod (pe_op op_mul (pv 4) (pe_op op_add (pe_op op_mod (pv 4) pe_int) (pe_ix ix_list (pv 0) pe_int (fun _ _ => rfl)))) (pv 3)) pe_int) (pv 1)))))))), ?_⟩
  have u0' : (0 : Int) < (u : Int) := by omega
  refine ⟨_, rfl, a, _, 0, _, rfl, rfl, SqL.of ha, rfl, _, _, rfl, rfl, _, rfl, ite2 (fun cc => ?_) (fun cc => ?_)⟩
  · refine ⟨_, rfl, a, _, 0, _, rfl, rfl, SqL.of ha, rfl, _, rfl, _, _, rfl, rfl, u0', ?_⟩
    refine ⟨_, rfl, a, _, 0, _, rfl, rfl, SqL.of ha, rfl, _, rfl, _, _, rfl, rfl, ⟨u0', by omega⟩, _, rfl, a, _, 0, 0, rfl, rfl, ha, rfl, _, rfl, ?_⟩
    have r0 : 0 ≤ g % (u : Int) := Int.emod_nonneg _ (by omega)
    have r1 : g % (u : Int) < (u : Int) := Int.emod_lt_of_pos _ u0'
    have e : g % (u : Int) = (((g % (u : Int)).toNat : Nat) : Int) := by omega
    show Q (.int (g % (u : Int))) _
    rw [e]
    exact q _ _ (by omega) ⟨_, _, _, upd_same, m0, m1, c0, by omega⟩ (Kp.upd (Kp.refl a H))
  · refine ⟨_, rfl, a, _, 2, _, rfl, rfl, SqL.of ha, rfl, _, _, rfl, rfl, _, rfl, a, _, 2, 2, rfl, rfl, ha, rfl, ?_⟩
    have h1 : (upd H a (.lst ([V.int g, .int m, .int c].set 2 (.int (c + 1))))) a = some (.lst [.int g, .int m, .int (c + 1)]) := upd_same
    generalize hH : upd H a (.lst ([V.int g, .int m, .int c].set 2 (.int (c + 1)))) = H1 at h1 ⊢
    have k1 : Kp a H H1 := by
      rw [← hH]
      exact Kp.upd (Kp.refl a H)
    refine ⟨(by show 7 ≤ sizeLine; decide), fun p np => ?_⟩
    have s2 : Same H1 (upd H1 p (.lst primes)) := same_new np
    have h2 := s2 _ _ h1
    obtain ⟨pr, pe, pr0, pr1⟩ := prime_at (c + 1)
    refine ⟨_, rfl, a, _, 2, _, rfl, rfl, SqL.of h2, rfl, _, _, rfl, rfl, (by show (0 : Int) < 7; decide), p, primes, _, _, rfl, rfl, SqL.of upd_same, pe, ?_⟩
    refine ⟨_, rfl, a, _, 1, _, rfl, rfl, SqL.of h2, rfl, _, rfl, a, _, 2, _, rfl, rfl, SqL.of h2, rfl, _, _, rfl, rfl, .inl ⟨by decide, by decide⟩, _, _, rfl, rfl, _, _, rfl, rfl, ⟨by decide, by decide, ?_⟩, _, rfl, _, _, rfl, rfl, pr0, ?_⟩
    · have : (m + 7919 * (c + 1)).natAbs < 18446744073709551616 := by omega
      exact this
    generalize hd : (m + 7919 * (c + 1)) ^ (3 : Int).toNat % pr = dr
    have d0 : 0 ≤ dr := by
      rw [← hd]
      exact Int.emod_nonneg _ (by omega)
    have d1 : dr < pr := by
      rw [← hd]
      exact Int.emod_lt_of_pos _ pr0
    refine ⟨_, rfl, _, rfl, _, _, rfl, rfl, (by show (0 : Int) < 1009; decide), _, rfl, a, _, 2, _, rfl, rfl, SqL.of h2, rfl, _, _, rfl, rfl, _, _, rfl, rfl, .inl ⟨by omega, by omega⟩, _, rfl, _, _, rfl, rfl, pr0, _, _, rfl, rfl, ⟨by decide, by decide⟩, _, rfl, _, _, rfl, rfl, u0', ?_⟩
    have key : ∀ z : Int, Q (.int (z % (u : Int))) (upd H1 p (.lst primes)) := by
      intro z
      have r0 : 0 ≤ z % (u : Int) := Int.emod_nonneg _ (by omega)
      have r1 : z % (u : Int) < (u : Int) := Int.emod_lt_of_pos _ u0'
      have e : z % (u : Int) = (((z % (u : Int)).toNat : Nat) : Int) := by omega
      rw [e]
      exact q _ _ (by omega) ⟨_, _, _, h2, m0, m1, by omega, by omega⟩ (k1.trans (Kp.of_same s2))
    exact key _

/-- one of some -/
def sp_of : Sp := fun vs H Q _ => ∃ (a b : Addr) (n : Nat) (xs : List V), vs = [.ref a, .ref b] ∧ Hd H a n ∧ n ≤ 1000000 ∧ H b = some (.lst xs) ∧ b ≠ a ∧ 0 < xs.length ∧ xs.length ≤ 1000 ∧
  ∀ (v : V) H', v ∈ xs → Hd H' a (n + 1) → Kp a H H' → Q v H'
theorem ok_of (T : Txt K mg) {k : Nat} : FnOk P w K mg base CX0 (k + 2) T.f__law_of T.fd__law_of ["_law_hand_here", "_law_some"] sp_of := by
  have G__law_take := ok_take (P := P) (w := w) (base := base) T (k := k)
  refine T.F__law_of.ok sc__law_of (fun vs H Q E h => ?_) (fun cdv A outer s H vs Q E hr h => ?_)
  · obtain ⟨a, b, n, xs, rfl, _⟩ := h
    rfl
  obtain ⟨a, b, n, xs, rfl, ha, hn, hb, nb, x0, x1, q⟩ := h
  refine ⟨_, (pss_one (ps_ret (pe_ix ix_list (pv 1) (pe_call G__law_take hr (by rfl) T.g__law_take T.k__law_take T.b__law_take .nil pass0 (pa_cons (pv 0) (pa_cons (pe_callB call_len_seq (by rfl) T.m_len (by decide +kernel) (pa_cons (pv 1) pa_nil)) pa_nil))) (fun _ _ => rfl)))), ?_⟩
  refine ⟨_, rfl, _, rfl, _, rfl, b, xs, rfl, .inl (SqL.of hb), a, n, xs.length, rfl, ha, hn, x0, by omega, fun r H' hr' hd kp => ?_⟩
  have hb' : H' b = some (.lst xs) := kp b _ nb hb
  refine ⟨b, xs, (r : Int), xs[r], rfl, rfl, SqL.of hb', atI_nat (List.getElem?_eq_getElem hr'), ?_⟩
  exact q _ _ (List.getElem_mem hr') hd kp
end

end Z

namespace Z
open PySem PySem.Spec PyProof.Rows L2 Lw

section
variable {P : Program} {w : World} {K : PySem.W.Frag} {mg : Str → Option Value} {base : Heap}
/-- rows of tuples of ints, by their key -/
def Rows (H : Hp) (key : V → List Int) (xs : List V) : Prop := ∀ x ∈ xs, ∃ t, x = V.ref t ∧ H t = some (.tup ((key x).map V.int))
theorem Rows.same {H H' : Hp} {key : V → List Int} {xs : List V} (h : Rows H key xs) (s : Same H H') : Rows H' key xs := fun x hx => by
  obtain ⟨t, e, g⟩ := h x hx
  exact ⟨t, e, s _ _ g⟩
def sp_kth (K : PySem.W.Frag) : Sp := fun vs H Q _ => ∃ (a : Addr) (xs : List V) (key : V → List Int) (k : Nat), vs = [.ref a, .int k] ∧ (SqT K H a xs ∨ SqL K H a xs) ∧ Rows H key xs ∧ 1 ≤ k ∧ k ≤ xs.length ∧
  ∀ v H', v ∈ xs → IsKth key xs k v → Same H H' → Q v H'
theorem ok_kth (T : Txt K mg) {k : Nat} : FnOk P w K mg base CX0 (k + 1) T.f_kth T.fd_kth ["things", "k"] (sp_kth K) := by
  refine T.F_kth.ok sc_kth (fun vs H Q E h => ?_) (fun cdv A outer s H vs Q E hr h => ?_)
  · obtain ⟨a, xs, key, k, rfl, _⟩ := h
    rfl
  obtain ⟨a, xs, key, k, rfl, hS, hR, k1, k2, q⟩ := h
  refine ⟨_, (pss_cons (ps_set (i := 2) sc_kth.nd rfl (.inl rfl) (pe_callBK (cr_sortTR hr) (by rfl) T.m_sorted (by decide +kernel) (pa_cons (pv 0) pa_nil) (pk_cons pe_bl pk_nil)))
      (pss_one (ps_ret (pe_ifExp (pt_chain op_le op_le pe_int (pv 1) (pe_callB call_len_seq (by rfl) T.m_len (by decide +kernel) (pa_cons (pv 2) pa_nil))) (pe_ix ix_list (pv 2) (pe_op op_sub (pv 1) pe_int) (fun _ _ => rfl)) (pe_tup pa_nil))))), ?_⟩
  refine ⟨_, rfl, a, xs, key, rfl, rfl, hS, hR, fun ys p hp hs np => ?_⟩
  have hl := hp.length_eq
  refine ⟨_, rfl, _, _, rfl, rfl, _, rfl, ?_⟩
  have c1 : decide ((1 : Int) ≤ (k : Int)) = true := decide_eq_true (by omega)
  rw [c1]
  refine iteT ⟨_, rfl, p, ys, rfl, .inl (SqL.of upd_same), _, _, rfl, rfl, _, rfl, ?_⟩
  have c2 : decide ((k : Int) ≤ (ys.length : Int)) = true := decide_eq_true (by omega)
  rw [c2]
  have e1 : (k : Int) - 1 = ((k - 1 : Nat) : Int) := by omega
  have hk : k - 1 < ys.length := by omega
  refine iteT ⟨_, rfl, _, rfl, _, _, rfl, rfl, p, ys, _, ys[k - 1], rfl, rfl, SqL.of upd_same, ?_, ?_⟩
  · rw [e1]
    exact atI_nat (List.getElem?_eq_getElem hk)
  · have r := kth_of_sorted (key := key) hp hs (List.getElem?_eq_getElem hk)
    rw [show k - 1 + 1 = k by omega] at r
    exact q _ _ (hp.mem_iff.mp (List.getElem_mem hk)) r (same_new np)
end

end Z

namespace Z
open PySem PySem.Spec PyProof.Rows L2 Lw

section
variable {P : Program} {w : World} {K : PySem.W.Frag} {mg : Str → Option Value} {base : Heap}
/-- none, or a note -/
def Sm (ns : List Int) : Prop := ns = [] ∨ ∃ x y z : Int, ns = [x, y, z] ∧ x.natAbs < 10 ^ 62 ∧ y.natAbs < 10 ^ 62 ∧ z.natAbs < 10 ^ 62
def sp_thing : Sp := fun vs H Q _ => ∃ (a : Addr) (n : Nat), vs = [.ref a] ∧ Hd H a n ∧ n ≤ 900000 ∧
  ∀ (t : Addr) (ns : List Int) H', H' t = some (.tup (ns.map V.int)) → Sm ns → Hd H' a (n + 4) → Kp a H H' → Q (.ref t) H'
theorem ok_thing (T : Txt K mg) {k : Nat} : FnOk P w K mg base CX0 (k + 3) T.f__law_thing T.fd__law_thing ["_law_hand_here"] sp_thing := by
  have G__law_of := ok_of (P := P) (w := w) (base := base) T (k := k)
  have G__law_take := ok_take (P := P) (w := w) (base := base) T (k := k + 1)
  refine T.F__law_thing.ok sc__law_thing (fun vs H Q E h => ?_) (fun cdv A outer s H vs Q E hr h => ?_)
  · obtain ⟨a, n, rfl, _⟩ := h
    rfl
  obtain ⟨a, n, rfl, ha, hn, q⟩ := h
  refine ⟨_, (pss_cons (ps_if (pt_cmpR op_eq (pe_call G__law_take hr (by rfl) T.g__law_take T.k__law_take T.b__law_take .nil pass0 (pa_cons (pv 0) (pa_cons pe_int pa_nil))) pe_int (nomark _)) (pss_one (ps_ret (pe_tup pa_nil))) pss_nil)
      (pss_cons (ps_set (i := 1) sc__law_thing.nd rfl (.inl rfl) (pe_call G__law_of hr (by rfl) T.g__law_of T.k__law_of T.b__law_of .nil pass0 (pa_cons (pv 0) (pa_cons (pe_lst (pa_cons pe_int (pa_cons pe_int (pa_cons pe_int (pa_cons (pe_un un_neg pe_int) (pa_cons pe_int (pa_cons (pe_op op_pow pe_int pe_int) (pa_cons (pe_op op_sub (pe_op op_pow pe_int pe_int) pe_int) (pa_cons (pe_un un_neg (pe_op op_pow pe_int pe_int)) pa_nil))))))))) pa_nil))))
      (pss_one (ps_ret (pe_tup (pa_cons (pv 1) (pa_cons (pe_call G__law_take hr (by rfl) T.g__law_take T.k__law_take T.b__law_take .nil pass0 (pa_cons (pv 0) (pa_cons pe_int pa_nil))) (pa_cons (pe_call G__law_take hr (by rfl) T.g__law_take T.k__law_take T.b__law_take .nil pass0 (pa_cons (pv 0) (pa_cons pe_int pa_nil))) pa_nil)))))))), ?_⟩
  have p59 : CPow 10 59 := ⟨by decide, by decide, by decide⟩
  refine ⟨_, rfl, a, n, 4, rfl, ha, by omega, by decide, by decide, fun r H1 hr1 g1 k1 => ⟨rfl, _, rfl, ite2 (fun c => ?_) (fun c => ?_)⟩⟩
  · refine ⟨(by show 0 ≤ sizeLine; decide), fun p np => ?_⟩
    exact q p [] _ upd_same (.inl rfl) ((g1.same (same_new np)).mono (by omega)) (k1.trans (Kp.of_same (same_new np)))
  · refine ⟨_, rfl, _, rfl, _, _, rfl, rfl, p59, _, _, rfl, rfl, p59, _, _, rfl, rfl, _, _, rfl, rfl, p59, _, rfl, (by show 8 ≤ sizeLine; decide), fun p1 n1 => ?_⟩
    have s1 := same_new (o := .lst [.int 0, .int 1, .int 2, .int (-1), .int 5, .int ((10 : Int) ^ (59 : Int).toNat), .int ((10 : Int) ^ (59 : Int).toNat - 1), .int (-((10 : Int) ^ (59 : Int).toNat))]) n1
    have na : p1 ≠ a := fun z => by
      obtain ⟨g, m, c, e, _⟩ := g1
      rw [z, e] at n1
      cases n1
    refine ⟨a, p1, n + 1, _, rfl, g1.same s1, by omega, upd_same, na, (by decide), (by decide), fun v2 H2 hv2 g2 k2 => ?_⟩
    obtain ⟨num, rfl, hnum⟩ : ∃ num : Int, v2 = .int num ∧ num.natAbs < 10 ^ 62 := by
      simp only [List.mem_cons, List.not_mem_nil, or_false] at hv2
      rcases hv2 with e | e | e | e | e | e | e | e
      all_goals exact ⟨_, e, by decide +kernel⟩
    refine ⟨_, rfl, _, rfl, a, n + 1 + 1, 4, rfl, g2, by omega, by decide, by decide, fun r3 H3 hr3 g3 k3 => ?_⟩
    refine ⟨_, rfl, a, n + 1 + 1 + 1, 2, rfl, g3, by omega, by decide, by decide, fun r4 H4 hr4 g4 k4 => ?_⟩
    refine ⟨(by show 3 ≤ sizeLine; decide), fun p np => ?_⟩
    have s5 := same_new (o := .tup [.int num, .int (r3 : Int), .int (r4 : Int)]) np
    refine q p [num, (r3 : Int), (r4 : Int)] _ upd_same (.inr ⟨_, _, _, rfl, hnum, ?_, ?_⟩) (g4.same s5) (k1.trans ((Kp.of_same s1).trans (k2.trans (k3.trans (k4.trans (Kp.of_same s5))))))
    · exact Nat.lt_trans (show ((r3 : Nat) : Int).natAbs < 4 by omega) (by decide +kernel)
    · exact Nat.lt_trans (show ((r4 : Nat) : Int).natAbs < 2 by omega) (by decide +kernel)

/-! ### above -/
theorem dp_ints {H : Hp} : ∀ ns : List Int, DpAll K H (ns.map V.int) (ns.map PyData.int)
  | [] => .nil
  | n :: ns => .cons (.int n) (dp_ints ns)
theorem lay_ints : ∀ ns : List Int, PyData.canLayAll0 (ns.map PyData.int) = true
  | [] => by simp [PyData.canLayAll0]
  | n :: ns => by simp [PyData.canLayAll0, PyData.canLay0, lay_ints ns]
theorem dep_ints : ∀ ns : List Int, PyData.depthAll (ns.map PyData.int) = 0
  | [] => by simp [PyData.depthAll]
  | n :: ns => by simp [PyData.depthAll, PyData.depth, dep_ints ns]
theorem shaped_ints (ns : List Int) : SeqAt.shaped (.tuple (ns.map PyData.int)) = true := by
  have h2 : PyData.depth (.tuple (ns.map PyData.int)) ≤ 64 := by
    simp only [PyData.depth, dep_ints]
    omega
  show (PyData.canLay0 (.tuple (ns.map PyData.int)) && decide (PyData.depth (.tuple (ns.map PyData.int)) ≤ 64)) = true
  rw [Bool.and_eq_true]
  exact ⟨by simp only [PyData.canLay0]; exact lay_ints ns, decide_eq_true h2⟩
theorem eqv_nil (ns : List Int) : PyData.eqv (.tuple (ns.map PyData.int)) (.tuple []) = decide (ns = []) := by
  cases ns with
  | nil => rfl
  | cons n ns => rfl
def sp_above : Sp := fun vs H Q _ => ∃ (a b : Addr) (ns ms : List Int), vs = [.ref a, .ref b] ∧ H a = some (.tup (ns.map V.int)) ∧ H b = some (.tup (ms.map V.int)) ∧ Sm ns ∧ Sm ms ∧
  ∀ H', Same H H' → Q (.bl (lex ms ns)) H'
theorem ok_above (T : Txt K mg) {k : Nat} : FnOk P w K mg base CX0 (k + 1) T.f__law_above T.fd__law_above ["_law_one", "_law_other"] sp_above := by
  refine T.F__law_above.ok sc__law_above (fun vs H Q E h => ?_) (fun cdv A outer s H vs Q E hr h => ?_)
  · obtain ⟨a, b, ns, ms, rfl, _⟩ := h
    rfl
  obtain ⟨a, b, ns, ms, rfl, ha, hb, sn, sm, q⟩ := h
  refine ⟨_, (pss_cons (ps_if (PW.pt (pw_or (pt_cmpR (op_eqD hr.units) (pv 0) (pe_tup pa_nil) (nomark _)) (pw_or1 (pt_cmpR (op_eqD hr.units) (pv 1) (pe_tup pa_nil) (nomark _))))) (pss_one (ps_ret (pe_and (pe_cmpR (op_neD hr.units) (pv 0) (pe_tup pa_nil) (nomark _)) (pe_one (pe_cmpR (op_eqD hr.units) (pv 1) (pe_tup pa_nil) (nomark _)))))) pss_nil)
      (pss_cons (ps_for PassesOwn.never rfl (RZ.pi_zipA (by rfl) T.m_zip (pa_cons (pv 0) (pa_cons (pv 1) pa_nil))) (pg_tup rfl (pgs_cons (pg_name (i := 2) sc__law_above.nd rfl (.inl rfl)) (pgs_cons (pg_name (i := 3) sc__law_above.nd rfl (.inl rfl)) pgs_nil))) (pss_one (ps_if (pt_cmpR op_ne (pv 2) (pv 3) (nomark _)) (pss_one (ps_ret (pe_cmpR op_gt (pv 2) (pv 3) (nomark _)))) pss_nil)))
      (pss_one (ps_ret pe_bl)))), ?_⟩
  refine ⟨_, rfl, (by show 0 ≤ sizeLine; decide), fun p1 n1 => ?_⟩
  have s1 := same_new (o := .tup []) n1
  refine ⟨.tuple (ns.map .int), .tuple [], .tup (SqT.of (s1 _ _ ha)) (dp_ints ns), .tup (SqT.of upd_same) .nil, shaped_ints ns, (by decide), _, rfl, ?_⟩
  rw [eqv_nil]
  have fin0 : ∀ H', Same H H' → (ns = [] ∨ ms = []) → Q (.bl (!decide (ns = []) && decide (ms = []))) H' := by
    intro H' s' o
    have e : (!decide (ns = []) && decide (ms = [])) = lex ms ns := by
      cases ns with
      | nil => cases ms <;> rfl
      | cons x ns =>
        rcases o with o | o
        · cases o
        · subst o
          rfl
    rw [e]
    exact q H' s'
  -- what is told where one of both is none
  have some0 : ∀ H', Same H H' → (ns = [] ∨ ms = []) → tRet (tAndV (tOp (rNeD K) (tVar 0) (tTup tNil)) (tOp (rEqD K) (tVar 1) (tTup tNil))) { nx := fun x H' => Q V.non H', rt := Q } [some (.ref a), some (.ref b), none, none] H' := by
    intro H' s' o
    refine ⟨_, rfl, (by show 0 ≤ sizeLine; decide), fun p2 n2 => ?_⟩
    have s2 := same_new (o := .tup []) n2
    refine ⟨.tuple (ns.map .int), .tuple [], .tup (SqT.of (s2 _ _ (s' _ _ ha))) (dp_ints ns), .tup (SqT.of upd_same) .nil, shaped_ints ns, (by decide), _, rfl, ?_⟩
    rw [eqv_nil]
    by_cases h1 : ns = []
    · have f := fin0 _ (s'.trans s2) o
      rw [decide_eq_true h1] at f ⊢
      exact iteF f
    · rw [decide_eq_false h1]
      refine iteT ⟨_, rfl, (by show 0 ≤ sizeLine; decide), fun p3 n3 => ?_⟩
      have s3 := same_new (o := .tup []) n3
      refine ⟨.tuple (ms.map .int), .tuple [], .tup (SqT.of (s3 _ _ (s2 _ _ (s' _ _ hb)))) (dp_ints ms), .tup (SqT.of upd_same) .nil, shaped_ints ms, (by decide), ?_⟩
      have f := fin0 _ (s'.trans (s2.trans s3)) o
      rw [decide_eq_false h1, Bool.not_false, Bool.true_and] at f
      rw [eqv_nil]
      exact f
  by_cases h1 : ns = []
  · rw [decide_eq_true h1]
    exact iteT (iteT (some0 _ s1 (.inl h1)))
  · rw [decide_eq_false h1]
    refine iteF ⟨_, rfl, (by show 0 ≤ sizeLine; decide), fun p2 n2 => ?_⟩
    have s2 := same_new (o := .tup []) n2
    refine ⟨.tuple (ms.map .int), .tuple [], .tup (SqT.of (s2 _ _ (s1 _ _ hb))) (dp_ints ms), .tup (SqT.of upd_same) .nil, shaped_ints ms, (by decide), _, rfl, ?_⟩
    rw [eqv_nil]
    have s12 := s1.trans s2
    by_cases h2 : ms = []
    · rw [decide_eq_true h2]
      exact iteT (some0 _ s12 (.inr h2))
    · rw [decide_eq_false h2]
      refine iteF ?_
      obtain ⟨x1, x2, x3, rfl, _⟩ := sn.resolve_left h1
      obtain ⟨y1, y2, y3, rfl, _⟩ := sm.resolve_left h2
      refine ⟨_, rfl, _, rfl, a, b, _, _, rfl, .inr ⟨SqT.of (s12 _ _ ha), SqT.of (s12 _ _ hb), ?_⟩⟩
      refine ⟨fun i m σ H' => (∃ u v, σ = [some (.ref a), some (.ref b), u, v]) ∧ i + m = 3 ∧ Same H H' ∧ [x1, x2, x3].take i = [y1, y2, y3].take i, ⟨3, ⟨_, _, rfl⟩, rfl, s12, rfl⟩, ?_⟩
      rintro i m σ H' ⟨⟨u, v, rfl⟩, em, sH, et⟩
      have hA : SqT K H' a [.int x1, .int x2, .int x3] := SqT.of (sH _ _ ha)
      have hB : SqT K H' b [.int y1, .int y2, .int y3] := SqT.of (sH _ _ hb)
      by_cases hi : i < 3
      · obtain ⟨x, hx⟩ : ∃ x, [x1, x2, x3][i]? = some x := ⟨_, List.getElem?_eq_getElem hi⟩
        obtain ⟨y, hy⟩ : ∃ y, [y1, y2, y3][i]? = some y := ⟨_, List.getElem?_eq_getElem hi⟩
        have gx : ([.int x1, .int x2, .int x3] : List V)[i]? = some (.int x) := by
          have : ([x1, x2, x3].map V.int)[i]? = some (.int x) := by rw [List.getElem?_map, hx]; rfl
          exact this
        have gy : ([.int y1, .int y2, .int y3] : List V)[i]? = some (.int y) := by
          have : ([y1, y2, y3].map V.int)[i]? = some (.int y) := by rw [List.getElem?_map, hy]; rfl
          exact this
        have next : x = y → [x1, x2, x3].take (i + 1) = [y1, y2, y3].take (i + 1) := by
          intro z
          rw [List.take_add_one, List.take_add_one, et, hx, hy, z]
        have stop : x ≠ y → lex [y1, y2, y3] [x1, x2, x3] = decide (y < x) := by
          intro z
          match i, hi, et, hx, hy with
          | 0, _, _, hx, hy =>
            have e1 : x1 = x := Option.some.inj hx
            have e2 : y1 = y := Option.some.inj hy
            subst e1 e2
            rw [lex_cons, if_neg (Ne.symm z)]
          | 1, _, et, hx, hy =>
            have e1 : x2 = x := Option.some.inj hx
            have e2 : y2 = y := Option.some.inj hy
            have e3 : x1 = y1 := (List.cons.inj et).1
            subst e1 e2 e3
            rw [lex_cons, if_pos rfl, lex_cons, if_neg (Ne.symm z)]
          | 2, _, et, hx, hy =>
            have e1 : x3 = x := Option.some.inj hx
            have e2 : y3 = y := Option.some.inj hy
            have e3 : x1 = y1 := (List.cons.inj et).1
            have e4 : x2 = y2 := (List.cons.inj (List.cons.inj et).2).1
            subst e1 e2 e3 e4
            rw [lex_cons, if_pos rfl, lex_cons, if_pos rfl, lex_cons, if_neg (Ne.symm z)]
        refine .inr ⟨⟨_, _, _, _, hA, hB, gx, gy⟩, fun σ' H'' => (∃ u v, σ' = [some (.ref a), some (.ref b), u, v]) ∧ Same H H'' ∧ [x1, x2, x3].take (i + 1) = [y1, y2, y3].take (i + 1), ?_, ?_⟩
        · rintro σ' H'' ⟨z1, z2, z3⟩
          exact ⟨m - 1, by omega, z1, by omega, z2, z3⟩
        · rintro z H'' ⟨TT, vx, vy, rfl, nT, rfl, fx, fy⟩
          have ex : vx = .int x := Option.some.inj ((fx _ hA).symm.trans gx)
          have ey : vy = .int y := Option.some.inj ((fy _ hB).symm.trans gy)
          subst ex ey
          have sT := same_new (o := .tup [.int x, .int y]) nT
          refine ⟨TT, _, rfl, SqT.of upd_same, rfl, _, _, rfl, _, _, rfl, rfl, ?_⟩
          refine ⟨_, rfl, _, rfl, rfl, _, rfl, ?_⟩
          by_cases hxy : x = y
          · have e : decide (V.int x = V.int y) = true := decide_eq_true (by rw [hxy])
            rw [e]
            exact iteF ⟨⟨_, _, rfl⟩, sH.trans sT, next hxy⟩
          · have e : decide (V.int x = V.int y) = false := decide_eq_false (fun z => hxy (V.int.inj z))
            rw [e]
            refine iteT ⟨_, rfl, _, rfl, _, _, rfl, rfl, ?_⟩
            have f := q _ (sH.trans sT)
            rw [stop hxy] at f
            exact f
      · have e3 : i = 3 := by omega
        subst e3
        refine .inl ⟨⟨_, _, hA, hB, .inl (Nat.le_refl 3)⟩, ?_⟩
        have f := q _ sH
        have e : [y1, y2, y3] = [x1, x2, x3] := et.symm
        rw [e, lex_irr] at f
        exact f
end

end Z

namespace Z
open PySem PySem.Spec PyProof.Rows L2 Lw

section
variable {P : Program} {w : World} {K : PySem.W.Frag} {mg : Str → Option Value} {base : Heap}
def sp_due (K : PySem.W.Frag) : Sp := fun vs H Q _ => ∃ (a : Addr) (xs : List V) (key : V → List Int) (k : Nat), vs = [.ref a, .int k] ∧ H a = some (.tup xs) ∧ Rows H key xs ∧ (∀ x ∈ xs, Sm (key x)) ∧ xs.length ≤ 1000 ∧ (∃ v ∈ xs, IsKth key xs k v) ∧
  ∀ u H', u ∈ xs → IsKth key xs k u → Same H H' → Q u H'
theorem filter_step {α : Type} {p : α → Bool} {xs : List α} {j : Nat} {x : α} (h : xs[j]? = some x) : (xs.take (j + 1)).filter p = (xs.take j).filter p ++ (if p x = true then [x] else []) := by
  rw [List.take_add_one, h, List.filter_append]
  cases hp : p x with
  | true => simp [hp]
  | false => simp [hp]
theorem ok_due (T : Txt K mg) {k : Nat} : FnOk P w K mg base CX0 (k + 2) T.f__law_due T.fd__law_due ["_law_row", "_law_turn"] (sp_due K) := by
  have G__law_above := ok_above (P := P) (w := w) (base := base) T (k := k)
  refine T.F__law_due.ok sc__law_due (fun vs H Q E h => ?_) (fun cdv A outer s H vs Q E hr h => ?_)
  · obtain ⟨a, xs, key, k, rfl, _⟩ := h
    rfl
  obtain ⟨a, xs, key, k, rfl, ha, hR, hM, hz, ⟨v0, hv0, kv0⟩, q⟩ := h
  refine ⟨_, (pss_cons (ps_for PassesOwn.never rfl (pi_tup (pv 0)) (pg_name (i := 2) sc__law_due.nd rfl (.inr rfl)) (pss_cons (ps_set (i := 3) sc__law_due.nd rfl (.inl rfl) (pe_callB call_len_seq (by rfl) T.m_len (by decide +kernel) (pa_cons (pe_lc (own := [("_law_other", 5)]) (g := gName 5) rfl sc__law_due.nd (pi_tup (pv 0)) (blkOk_by (N := ["_law_row", "_law_turn", "_law_item", "_law_above_here", "_law_beneath", "_law_other"]) (sc := defScope s__law_due) (by decide +kernel)) (fun _ _ _ _ _ => (pg_name (i := 5) sc__law_due.nd rfl (Or.inl rfl))) (fun _ _ _ _ _ => (pts_one (pt_val (pe_call G__law_above hr (by rfl) T.g__law_above T.k__law_above T.b__law_above .nil pass0 (pa_cons (pv 5) (pa_cons (pv 2) pa_nil)))))) (fun _ _ _ _ _ => (pv 5))) pa_nil)))
      (pss_cons (ps_set (i := 4) sc__law_due.nd rfl (.inl rfl) (pe_callB call_len_seq (by rfl) T.m_len (by decide +kernel) (pa_cons (pe_lc (own := [("_law_other", 5)]) (g := gName 5) rfl sc__law_due.nd (pi_tup (pv 0)) (blkOk_by (N := ["_law_row", "_law_turn", "_law_item", "_law_above_here", "_law_beneath", "_law_other"]) (sc := defScope s__law_due) (by decide +kernel)) (fun _ _ _ _ _ => (pg_name (i := 5) sc__law_due.nd rfl (Or.inl rfl))) (fun _ _ _ _ _ => (pts_one (pt_val (pe_call G__law_above hr (by rfl) T.g__law_above T.k__law_above T.b__law_above .nil pass0 (pa_cons (pv 2) (pa_cons (pv 5) pa_nil)))))) (fun _ _ _ _ _ => (pv 5))) pa_nil)))
      (pss_one (ps_if (PW.pt (pw_and (pt_cmpR op_lt (pv 3) (pv 1) (nomark _)) (pw_and1 (pt_cmpR op_ge (pe_op op_sub (pe_callB call_len_seq (by rfl) T.m_len (by decide +kernel) (pa_cons (pv 0) pa_nil)) (pv 4)) (pv 1) (nomark _))))) (pss_one (ps_ret (pv 2))) pss_nil)))))
      (pss_one (ps_ret pe_non))), ?_⟩
  refine ⟨_, rfl, a, rfl, ⟨xs, SqT.of ha⟩, for_tup (xs := xs) (fun i σ H' => (∃ y2 y3 y4 y5, σ = [some (.ref a), some (.int k), y2, y3, y4, y5]) ∧ Same H H' ∧ ∀ j u, j < i → xs[j]? = some u → ¬ IsKth key xs k u) ?_ ?_ ?_ ?_⟩
  · exact ⟨⟨_, _, _, _, rfl⟩, Same.refl H, fun j u hj => absurd hj (Nat.not_lt_zero j)⟩
  · rintro i σ H' _ ⟨_, s1, _⟩
    exact SqT.of (s1 _ _ ha)
  · rintro i x σ H1 hx ⟨⟨y2, y3, y4, y5, rfl⟩, s1, hno⟩
    have hxm := List.mem_of_getElem? hx
    obtain ⟨tx, ex, htx⟩ := hR x hxm
    -- those above
    refine ⟨_, rfl, a, rfl, ⟨xs, SqT.of (s1 _ _ ha)⟩, fun D1 n1 => ?_⟩
    refine Lw.lc_tup (xs := xs) (fun j H2 => Same H1 H2 ∧ H2 D1 = some (.lst ((xs.take j).filter fun y => lex (key x) (key y)))) ⟨same_new n1, upd_same⟩ ?_ ?_ ?_
    · rintro j H2 _ ⟨s2, _⟩
      exact SqT.of (s2 _ _ (s1 _ _ ha))
    · rintro j y H2 hy ⟨s2, e2⟩
      have hym := List.mem_of_getElem? hy
      obtain ⟨ty, ey, hty⟩ := hR y hym
      have s02 := s1.trans s2
      refine ⟨rfl, ?_⟩
      subst ex ey
      refine ⟨_, rfl, _, rfl, ty, tx, _, _, rfl, s02 _ _ hty, s02 _ _ htx, hM _ hym, hM _ hxm, fun H3 s3 => ⟨_, rfl, ?_⟩⟩
      have st := filter_step (p := fun y => lex (key (.ref tx)) (key y)) hy
      cases hb : lex (key (.ref tx)) (key (.ref ty)) with
      | true =>
        rw [if_pos hb] at st
        refine iteT ⟨_, rfl, _, s3 _ _ e2, ?_, ?_, ?_⟩
        · refine Nat.lt_of_le_of_lt (Nat.le_trans (List.length_filter_le _ _) (Nat.le_trans (List.length_take_le _ _) (show j ≤ 1000 from ?_))) (by decide)
          have := (List.getElem?_eq_some_iff.mp hy).1
          omega
        · intro b o e
          have nb : b ≠ D1 := fun z => by
            rw [z, n1] at e
            cases e
          rw [upd_ne nb]
          exact s3 _ _ (s2 _ _ e)
        · rw [upd_same, st]
      | false =>
        rw [if_neg (by rw [hb]; exact Bool.false_ne_true), List.append_nil] at st
        refine iteF ⟨s2.trans s3, ?_⟩
        rw [st]
        exact s3 _ _ e2
    · rintro H2 ⟨s2, e2⟩
      rw [List.take_length] at e2
      refine ⟨D1, _, rfl, .inl (SqL.of e2), ?_⟩
      have s12 := s1.trans s2
      -- those beneath
      refine ⟨_, rfl, a, rfl, ⟨xs, SqT.of (s12 _ _ ha)⟩, fun D2 n2 => ?_⟩
      refine Lw.lc_tup (xs := xs) (fun j H3 => Same H2 H3 ∧ H3 D2 = some (.lst ((xs.take j).filter fun y => lex (key y) (key x)))) ⟨same_new n2, upd_same⟩ ?_ ?_ ?_
      · rintro j H3 _ ⟨s3, _⟩
        exact SqT.of (s3 _ _ (s12 _ _ ha))
      · rintro j y H3 hy ⟨s3, e3⟩
        have hym := List.mem_of_getElem? hy
        obtain ⟨ty, ey, hty⟩ := hR y hym
        have s03 := s12.trans s3
        refine ⟨rfl, ?_⟩
        subst ex ey
        refine ⟨_, rfl, _, rfl, tx, ty, _, _, rfl, s03 _ _ htx, s03 _ _ hty, hM _ hxm, hM _ hym, fun H4 s4 => ⟨_, rfl, ?_⟩⟩
        have st := filter_step (p := fun y => lex (key y) (key (.ref tx))) hy
        cases hb : lex (key (.ref ty)) (key (.ref tx)) with
        | true =>
          rw [if_pos hb] at st
          refine iteT ⟨_, rfl, _, s4 _ _ e3, ?_, ?_, ?_⟩
          · refine Nat.lt_of_le_of_lt (Nat.le_trans (List.length_filter_le _ _) (Nat.le_trans (List.length_take_le _ _) (show j ≤ 1000 from ?_))) (by decide)
            have := (List.getElem?_eq_some_iff.mp hy).1
            omega
          · intro b o e
            have nb : b ≠ D2 := fun z => by
              rw [z, n2] at e
              cases e
            rw [upd_ne nb]
            exact s4 _ _ (s3 _ _ e)
          · rw [upd_same, st]
        | false =>
          rw [if_neg (by rw [hb]; exact Bool.false_ne_true), List.append_nil] at st
          refine iteF ⟨s3.trans s4, ?_⟩
          rw [st]
          exact s4 _ _ e3
      · rintro H3 ⟨s3, e3⟩
        rw [List.take_length] at e3
        refine ⟨D2, _, rfl, .inl (SqL.of e3), ?_⟩
        have s03 := s12.trans s3
        have back : IsKth key xs k x → Q x H3 := fun z => q x H3 hxm z s03
        have go : ¬ IsKth key xs k x → ∀ j u, j < i + 1 → xs[j]? = some u → ¬ IsKth key xs k u := by
          intro z j u hj hu
          by_cases e : j = i
          · subst e
            rw [hx] at hu
            cases hu
            exact z
          · exact hno j u (by omega) hu
        have eA : (xs.filter fun y => lex (key x) (key y)).length = above key xs x := rfl
        have eB : (xs.filter fun y => lex (key y) (key x)).length = below key xs x := rfl
        have leB : below key xs x ≤ xs.length := List.length_filter_le _ _
        refine ⟨_, rfl, _, rfl, _, _, rfl, rfl, _, rfl, ?_⟩
        rw [eA]
        by_cases c1 : above key xs x < k
        · have d1 : decide (((above key xs x : Nat) : Int) < (k : Int)) = true := decide_eq_true (by omega)
          rw [d1]
          refine iteT ⟨_, rfl, a, xs, rfl, .inr (SqT.of (s03 _ _ ha)), _, rfl, _, _, rfl, rfl, _, rfl, _, _, rfl, rfl, _, rfl, ?_⟩
          rw [eB]
          by_cases c2 : below key xs x + k ≤ xs.length
          · have d2 : decide ((k : Int) ≤ (xs.length : Int) - ((below key xs x : Nat) : Int)) = true := decide_eq_true (by omega)
            rw [d2]
            exact iteT ⟨_, rfl, back ⟨c1, c2⟩⟩
          · have d2 : decide ((k : Int) ≤ (xs.length : Int) - ((below key xs x : Nat) : Int)) = false := decide_eq_false (by omega)
            rw [d2]
            exact iteF ⟨⟨_, _, _, _, rfl⟩, s03, go fun z => c2 z.dn⟩
        · have d1 : decide (((above key xs x : Nat) : Int) < (k : Int)) = false := decide_eq_false (by omega)
          rw [d1]
          exact iteF (iteF ⟨⟨_, _, _, _, rfl⟩, s03, go fun z => c1 z.up⟩)
  · rintro σ H' ⟨_, s1, hno⟩
    obtain ⟨j, hj⟩ := List.getElem?_of_mem hv0
    exact absurd kv0 (hno j v0 (List.getElem?_eq_some_iff.mp hj).1 hj)
end

end Z

namespace Z
open PySem PySem.Spec PyProof.Rows L2 Lw

section
variable {P : Program} {w : World} {K : PySem.W.Frag} {mg : Str → Option Value} {base : Heap}
theorem bd3 {x y z : Int} (hx : x.natAbs < 10 ^ 62) (hy : y.natAbs < 10 ^ 62) (hz : z.natAbs < 10 ^ 62) : BA 0 633 [.int x, .int y, .int z] := by
  have e : ([.int x, .int y, .int z] : List PyData) = [.int x] ++ ([.int y] ++ [.int z]) := rfl
  rw [e]
  exact (BA.append (BA.one (Bd.int hx)) (BA.append (BA.one (Bd.int hy)) (BA.one (Bd.int hz)))).mono (Nat.le_refl _) (by decide)
def noteOf (ns : List Int) : PyData := .tuple (ns.map PyData.int)
theorem bd_note {ns : List Int} (h : Sm ns) : Bd 1 633 (noteOf ns) := by
  rcases h with rfl | ⟨x, y, z, rfl, hx, hy, hz⟩
  · exact Bd.flat0 (.inr (.inr (.inr (.inr (.inl rfl))))) (by decide) (by decide)
  · exact (bd3 hx hy hz).tuple
theorem da_ints {f : Bool} {H : Hp} : ∀ ns : List Int, DA f H (ns.map V.int) (ns.map PyData.int)
  | [] => .nil
  | n :: ns => .cons (.int n) (da_ints ns)
theorem d_note {H : Hp} {key : V → List Int} {xs : List V} (h : Rows H key xs) {x : V} (hx : x ∈ xs) : D true H x (noteOf (key x)) := by
  obtain ⟨t, e, g⟩ := h x hx
  have g' : H t = some (.tup ((key x).map V.int)) := g
  generalize key x = ns at g'
  subst e
  exact .tup g' (da_ints ns)
theorem da_rows {H : Hp} {key : V → List Int} : ∀ {xs : List V}, Rows H key xs → DA true H xs (xs.map fun x => noteOf (key x))
  | [], _ => .nil
  | x :: xs, h => .cons (d_note h List.mem_cons_self) (da_rows fun y hy => h y (List.mem_cons_of_mem _ hy))
theorem ok_rows {key : V → List Int} {xs : List V} (h : ∀ x ∈ xs, Sm (key x)) (hz : xs.length ≤ 100) : Ok (.tuple (xs.map fun x => noteOf (key x))) := by
  have b : ∀ d ∈ xs.map (fun x => noteOf (key x)), Bd 1 633 d := by
    intro d hd
    obtain ⟨x, hx, rfl⟩ := List.mem_map.mp hd
    exact bd_note (h x hx)
  refine (Bd.tuple (n := 1) (m := 633) (k := 100 * 634) b ?_).ok (by decide) (by decide)
  rw [List.length_map]
  exact Nat.mul_le_mul_right _ hz
theorem kth_exists {α : Type} (key : α → List Int) (xs : List α) {k : Nat} (h : k < xs.length) : ∃ v ∈ xs, IsKth key xs (k + 1) v := by
  let le : α → α → Bool := fun x y => !lex (key x) (key y)
  have p : (xs.mergeSort le).Perm xs := List.mergeSort_perm xs le
  have s : (xs.mergeSort le).Pairwise fun x y => le x y = true := by
    refine List.pairwise_mergeSort ?_ ?_ xs
    · intro a b c h1 h2
      have h1' : lex (key a) (key b) = false := by simpa [le] using h1
      have h2' : lex (key b) (key c) = false := by simpa [le] using h2
      have h3 := lex_tr _ _ _ h2' h1'
      simp [le, h3]
    · intro a b
      cases h1 : lex (key a) (key b) with
      | false => simp [le, h1]
      | true => simp [le, h1, lex_asym _ _ h1]
  have s' : (xs.mergeSort le).Pairwise fun x y => lex (key x) (key y) = false := s.imp fun h => by simpa [le] using h
  have hk : k < (xs.mergeSort le).length := by
    rw [p.length_eq]
    exact h
  exact ⟨_, p.mem_iff.mp (List.getElem_mem hk), kth_of_sorted p s' (List.getElem?_eq_getElem hk)⟩
theorem kth_perm {α : Type} {key : α → List Int} {xs ys : List α} {k : Nat} {v : α} (h : IsKth key xs k v) (p : xs.Perm ys) : IsKth key ys k v := by
  refine ⟨?_, ?_⟩
  · have e : above key ys v = above key xs v := (p.filter _).length_eq.symm
    rw [e]
    exact h.up
  · have e : below key ys v = below key xs v := (p.filter _).length_eq.symm
    rw [e, ← p.length_eq]
    exact h.dn
def sp_right : Sp := fun vs H Q _ => ∃ (a : Addr) (xs : List V) (key : V → List Int), vs = [.ref a] ∧ H a = some (.tup xs) ∧ Rows H key xs ∧ (∀ x ∈ xs, Sm (key x)) ∧ xs.length ≤ 100 ∧ ∀ H', Same H H' → Q (.bl true) H'
theorem ok_right (T : Txt K mg) {k : Nat} : FnG P w K mg base (k + 3) T.f__law_right T.fd__law_right ["_law_row"] sp_right := by
  have G__law_due := ok_due (P := P) (w := w) (base := base) T (k := k)
  have G_kth := ok_kth (P := P) (w := w) (base := base) T (k := k + 1)
  refine okG T.F__law_right sc__law_right (fun vs H Q E h => ?_) (fun cdv A outer s H vs Q E hgd hr h => ?_)
  · obtain ⟨a, xs, key, rfl, _⟩ := h
    rfl
  obtain ⟨a, xs, key, rfl, ha, hR, hM, hz, q⟩ := h
  refine ⟨_, (pss_cons (ps_set (i := 1) sc__law_right.nd rfl (.inl rfl) (pe_callB (call_repr hgd hr) (by rfl) T.m_repr (by decide +kernel) (pa_cons (pv 0) pa_nil)))
      (pss_cons (ps_for PassesOwn.never rfl (pi_range2 (by rfl) T.m_range (pa_cons pe_int (pa_cons (pe_op op_add (pe_callB call_len_seq (by rfl) T.m_len (by decide +kernel) (pa_cons (pv 0) pa_nil)) pe_int) pa_nil))) (pg_name (i := 2) sc__law_right.nd rfl (.inl rfl)) (pss_cons (ps_set (i := 3) sc__law_right.nd rfl (.inr rfl) (pe_call G__law_due hr (by rfl) T.g__law_due T.k__law_due T.b__law_due .nil pass0 (pa_cons (pv 0) (pa_cons (pv 2) pa_nil))))
      (pss_cons (ps_set (i := 4) sc__law_right.nd rfl (.inl rfl) (pe_lst (pa_cons (pe_call G_kth hr (by rfl) T.g_kth T.k_kth T.b_kth .nil pass0 (pa_cons (pv 0) (pa_cons (pv 2) pa_nil))) (pa_cons (pe_call G_kth hr (by rfl) T.g_kth T.k_kth T.b_kth .nil pass0 (pa_cons (pe_revT (pv 0)) (pa_cons (pv 2) pa_nil))) (pa_cons (pe_kw0 G_kth hr (by rfl) T.g_kth T.k_kth T.kb_kth (pk_cons (pv 2) (pk_cons (pv 0) pk_nil))) pa_nil)))))
      (pss_one (ps_if (pt_not (pt_val (pe_callB (cr_all rfl) (by rfl) T.m_all (by decide +kernel) (pa_cons (pe_lc (own := [("_law_item", 5)]) (g := gName 5) (tt := tYes) rfl sc__law_right.nd (pi_list (pv 4)) (blkOk_by (N := ["_law_row", "_law_looked", "_law_turn", "_law_due_here", "_law_told_so", "_law_item"]) (sc := defScope s__law_right) (by decide +kernel)) (fun _ _ _ _ _ => (pg_name (i := 5) sc__law_right.nd rfl (Or.inl rfl))) (fun _ _ _ _ _ => pts_nil) (fun _ _ _ _ _ => (pe_cmpR op_eq (pe_callB (call_repr hgd hr) (by rfl) T.m_repr (by decide +kernel) (pa_cons (pv 5) pa_nil)) (pe_callB (call_repr hgd hr) (by rfl) T.m_repr (by decide +kernel) (pa_cons (pv 3) pa_nil)) (nomark _)))) pa_nil)))) (pss_one (ps_ret pe_bl)) pss_nil)))))
      (pss_one (ps_ret (pe_cmpR op_eq (pe_callB (call_repr hgd hr) (by rfl) T.m_repr (by decide +kernel) (pa_cons (pv 0) pa_nil)) (pv 1) (nomark _)))))), ?_⟩
  have ok := ok_rows hM hz
  have dr : ∀ H', Same H H' → D true H' (.ref a) (.tuple (xs.map fun x => noteOf (key x))) := fun H' s' => .tup (s' _ _ ha) (da_rows (hR.same s'))
  refine ⟨_, rfl, .ref a, _, true, rfl, dr H (Same.refl H), fun _ => rfl, ok, ?_⟩
  refine ⟨_, rfl, a, xs, rfl, .inr (SqT.of ha), _, _, rfl, rfl, _, _, rfl, ⟨by omega, by omega, by omega, by omega⟩, for_range (lo := 1) (fun i σ H' => (∃ y2 y3 y4 y5, σ = [some (.ref a), some (.str (PyData.shown (.tuple (xs.map fun x => noteOf (key x))))), y2, y3, y4, y5]) ∧ Same H H') ?_ ?_ ?_⟩
  · exact ⟨⟨_, _, _, _, rfl⟩, Same.refl H⟩
  · rintro i σ H1 hi ⟨⟨y2, y3, y4, y5, rfl⟩, s1⟩
    have hi' : i < xs.length := by omega
    have e0 : (1 : Int) + (i : Int) = ((i + 1 : Nat) : Int) := by omega
    show tSeq _ _ _ _ _
    rw [e0]
    refine ⟨_, rfl, _, rfl, a, xs, key, i + 1, rfl, s1 _ _ ha, hR.same s1, hM, by omega, kth_exists key xs hi', fun u H2 hu ku s2 => ?_⟩
    have s12 := s1.trans s2
    refine ⟨_, rfl, _, rfl, a, xs, key, i + 1, rfl, .inl (SqT.of (s12 _ _ ha)), hR.same s12, by omega, by omega, fun v1 H3 m1 k1 s3 => ?_⟩
    have s13 := s12.trans s3
    refine ⟨_, rfl, a, xs, rfl, SqT.of (s13 _ _ ha), fun p np => ?_⟩
    have s4 := same_new (o := .tup xs.reverse) np
    have s14 := s13.trans s4
    refine ⟨_, rfl, p, xs.reverse, key, i + 1, rfl, .inl (SqT.of upd_same), fun x hx => hR.same s14 x (List.mem_reverse.mp hx), by omega, by rw [List.length_reverse]; omega, fun v2 H5 m2 k2 s5 => ?_⟩
    have s15 := s14.trans s5
    refine ⟨_, rfl, _, rfl, a, xs, key, i + 1, rfl, .inl (SqT.of (s15 _ _ ha)), hR.same s15, by omega, by omega, fun v3 H6 m3 k3 s6 => ?_⟩
    have s16 := s15.trans s6
    refine ⟨(by show 3 ≤ sizeLine; decide), fun ll nl => ?_⟩
    have s7 := same_new (o := .lst [v1, v2, v3]) nl
    have s17 := s16.trans s7
    have k2' := kth_perm k2 (List.reverse_perm xs)
    have all3 : ∀ v ∈ [v1, v2, v3], v ∈ xs ∧ key v = key u := by
      intro v hv
      simp only [List.mem_cons, List.not_mem_nil, or_false] at hv
      rcases hv with e | e | e
      · subst e; exact ⟨m1, kth_same k1 ku⟩
      · subst e; exact ⟨List.mem_reverse.mp m2, kth_same k2' ku⟩
      · subst e; exact ⟨m3, kth_same k3 ku⟩
    refine ⟨_, rfl, ll, rfl, ⟨_, SqL.of upd_same⟩, fun D1 n1 => ?_⟩
    refine lc_list (xs := [v1, v2, v3]) (fun j H' => Same (upd H6 ll (.lst [v1, v2, v3])) H' ∧ H' D1 = some (.lst (List.replicate j (V.bl true)))) ⟨same_new n1, upd_same⟩ ?_ ?_ ?_
    · rintro j H' _ ⟨s8, _⟩
      exact SqL.of (s8 _ _ upd_same)
    · rintro j x H' hx ⟨s8, e8⟩
      obtain ⟨hx1, hx2⟩ := all3 x (List.mem_of_getElem? hx)
      have s18 := s17.trans s8
      refine ⟨rfl, ?_⟩
      dsimp only [tYes]
      refine iteT ?_
      refine ⟨_, rfl, x, _, true, rfl, d_note (hR.same s18) hx1, fun _ => rfl, (bd_note (hM x hx1)).ok (by decide) (by decide), _, rfl, u, _, true, rfl, d_note (hR.same s18) hu, fun _ => rfl, (bd_note (hM u hu)).ok (by decide) (by decide), rfl, ?_⟩
      rw [hx2, decide_eq_true rfl]
      refine ⟨_, e8, ?_, ?_, ?_⟩
      · have hj := (List.getElem?_eq_some_iff.mp hx).1
        rw [List.length_replicate]
        exact Nat.lt_of_lt_of_le hj (by show 3 ≤ sizeLine; decide)
      · intro b o e
        have nb : b ≠ D1 := fun z => by
          rw [z, n1] at e
          cases e
        rw [upd_ne nb]
        exact s8 _ _ e
      · rw [upd_same, List.replicate_succ']
    · rintro H' ⟨s8, e8⟩
      have e2 : List.replicate ([v1, v2, v3] : List V).length (V.bl true) = [true, true, true].map V.bl := rfl
      rw [e2] at e8
      refine ⟨D1, [true, true, true], rfl, SqL.of e8, _, rfl, ?_⟩
      exact iteF ⟨⟨_, _, _, _, rfl⟩, s17.trans s8⟩
  · rintro σ H1 ⟨⟨y2, y3, y4, y5, rfl⟩, s1⟩
    refine ⟨_, rfl, .ref a, _, true, rfl, dr H1 s1, fun _ => rfl, ok, _, rfl, rfl, ?_⟩
    rw [decide_eq_true rfl]
    exact q _ s1
end

end Z

namespace Z
open PySem PySem.Spec PyProof.Rows L2 Lw

section
variable {P : Program} {w : World} {K : PySem.W.Frag} {mg : Str → Option Value} {base : Heap}
def intOf : V → Option Int
  | .int i => some i
  | _ => none
def keyH (H : Hp) : V → List Int
  | .ref t => match H t with
    | some (.tup ys) => ys.filterMap intOf
    | _ => []
  | _ => []
theorem ints_back : ∀ ns : List Int, (ns.map V.int).filterMap intOf = ns
  | [] => rfl
  | n :: ns => by
    rw [List.map_cons, List.filterMap_cons]
    show n :: _ = _
    rw [ints_back ns]
theorem keyH_at {H : Hp} {t : Addr} {ns : List Int} (h : H t = some (.tup (ns.map V.int))) : keyH H (.ref t) = ns := by
  show (match H t with | some (.tup ys) => ys.filterMap intOf | _ => []) = ns
  rw [h]
  exact ints_back ns
/-- each a tuple of a note's ints, or none -/
def RowsE (H : Hp) (xs : List V) : Prop := ∀ x ∈ xs, ∃ t ns, x = V.ref t ∧ H t = some (.tup (ns.map V.int)) ∧ Sm ns
theorem RowsE.key {H : Hp} {xs : List V} (h : RowsE H xs) : Rows H (keyH H) xs ∧ ∀ x ∈ xs, Sm (keyH H x) := by
  refine ⟨fun x hx => ?_, fun x hx => ?_⟩
  · obtain ⟨t, ns, e, g, _⟩ := h x hx
    subst e
    exact ⟨t, rfl, by rw [keyH_at g]; exact g⟩
  · obtain ⟨t, ns, e, g, s⟩ := h x hx
    subst e
    rw [keyH_at g]
    exact s
theorem RowsE.keep {H H' : Hp} {xs : List V} (h : RowsE H xs) (k : ∀ b ys, H b = some (.tup ys) → H' b = some (.tup ys)) : RowsE H' xs := fun x hx => by
  obtain ⟨t, ns, e, g, s⟩ := h x hx
  exact ⟨t, ns, e, k _ _ g, s⟩
theorem kp_tup {a : Addr} {n : Nat} {H H' : Hp} (k : Kp a H H') (h : Hd H a n) : ∀ b ys, H b = some (.tup ys) → H' b = some (.tup ys) := fun b ys e => k b _ (fun z => by
  obtain ⟨g, m, c, e', _⟩ := h
  rw [z, e'] at e
  cases e) e
def sp_law (K : PySem.W.Frag) : Sp := fun vs H Q _ => ∃ (a : Addr) (ns : List Int), vs = [.ref a] ∧ SqL K H a (ns.map V.int) ∧ ns.length ≤ 63 ∧ ∀ H', Q (.bl true) H'
theorem ok_law (T : Txt K mg) {k : Nat} : FnG P w K mg base (k + 4) T.f_law T.fd_law ["_law_script"] (sp_law K) := by
  have G__law_hand := ok_hand (P := P) (w := w) (base := base) T (k := k + 2)
  have G__law_take := ok_take (P := P) (w := w) (base := base) T (k := k + 2)
  have G__law_thing := ok_thing (P := P) (w := w) (base := base) T (k := k)
  have G__law_right := ok_right (P := P) (w := w) (base := base) T (k := k)
  refine okG T.F_law sc_law (fun vs H Q E h => ?_) (fun cdv A outer s H vs Q E hgd hr h => ?_)
  · obtain ⟨a, ns, rfl, _⟩ := h
    rfl
  obtain ⟨a, ns, rfl, hS, h63, q⟩ := h
  refine ⟨_, (pss_cons (ps_for PassesOwn.never rfl (pi_range1 (by rfl) T.m_range (pa_cons (pe_op op_add pe_int (pe_callB (call_min2 rfl) (by rfl) T.m_min (by decide +kernel) (pa_cons pe_int (pa_cons (pe_callB call_len_seq (by rfl) T.m_len (by decide +kernel) (pa_cons (pv 0) pa_nil)) pa_nil)))) pa_nil)) (pg_name (i := 1) sc_law.nd rfl (.inl rfl)) (pss_cons (ps_set (i := 2) sc_law.nd rfl (.inr rfl) (pe_call G__law_hand hr (by rfl) T.g__law_hand T.k__law_hand T.b__law_hand .nil pass0 (pa_cons (pv 0) (pa_cons (pv 1) pa_nil))))
      (pss_one (ps_for PassesOwn.never rfl (pi_range1 (by rfl) T.m_range (pa_cons pe_int pa_nil)) (pg_name (i := 3) sc_law.nd rfl (.inl rfl)) (pss_cons (ps_set (i := 4) sc_law.nd rfl (.inl rfl) (pe_callTy call_tuple_of (by rfl) T.m_tuple (by decide +kernel) (pa_cons (pe_lc (own := [("_law_spot", 5)]) (g := gName 5) (tt := tYes) rfl sc_law.nd (pi_range1 (by rfl) T.m_range (pa_cons (pe_op op_add pe_int (pe_call G__law_take hr (by rfl) T.g__law_take T.k__law_take T.b__law_take .nil pass0 (pa_cons (pv 2) (pa_cons pe_int pa_nil)))) pa_nil)) (blkOk_by (N := ["_law_script", "_law_nth", "_law_hand_here", "_law_turn", "_law_row", "_law_spot"]) (sc := defScope s_law) (by decide +kernel)) (fun _ _ _ _ _ => (pg_name (i := 5) sc_law.nd rfl (Or.inl rfl))) (fun _ _ _ _ _ => pts_nil) (fun _ _ _ _ _ => (pe_call G__law_thing hr (by rfl) T.g__law_thing T.k__law_thing T.b__law_thing .nil pass0 (pa_cons (pv 2) pa_nil)))) pa_nil)))
      (pss_cons (ps_if (pt_cmpR op_eq (pe_op op_mod (pv 3) pe_int) pe_int (nomark _)) (pss_one (ps_set (i := 4) sc_law.nd rfl (.inl rfl) (pe_slice sl_U (pe_op op_catU (pv 4) (pv 4)) po_none (po_some pe_int)))) pss_nil)
      (pss_one (ps_if (pt_not (pt_val (pe_callG G__law_right hgd hr (by rfl) T.g__law_right T.k__law_right T.b__law_right (pa_cons (pv 4) pa_nil)))) (pss_one (ps_ret pe_bl)) pss_nil))))))))
      (pss_one (ps_ret pe_bl))), ?_⟩
  have hl : (ns.map V.int).length = ns.length := List.length_map _
  refine ⟨_, rfl, a, _, rfl, .inl hS, _, _, rfl, _, _, rfl, rfl, _, rfl, ?_, ?_, for_range (lo := 0) (fun i σ H' => (∃ y1 y2 y3 y4 y5, σ = [some (.ref a), y1, y2, y3, y4, y5]) ∧ Same H H') ?_ ?_ ?_⟩
  · show -(2 ^ 62) ≤ 1 + (if (((ns.map V.int).length : Nat) : Int) < 3 then (((ns.map V.int).length : Nat) : Int) else 3)
    split <;> omega
  · show 1 + (if (((ns.map V.int).length : Nat) : Int) < 3 then (((ns.map V.int).length : Nat) : Int) else 3) < 2 ^ 62
    split <;> omega
  · exact ⟨⟨_, _, _, _, _, rfl⟩, Same.refl H⟩
  · rintro i σ Hs hi ⟨⟨y1, y2, y3, y4, y5, rfl⟩, sS⟩
    have hi4 : i ≤ 4 := by
      have hi' : i < (1 + (if (((ns.map V.int).length : Nat) : Int) < 3 then (((ns.map V.int).length : Nat) : Int) else 3)).toNat := by simpa using hi
      split at hi' <;> omega
    have e0 : (0 : Int) + (i : Int) = ((i : Nat) : Int) := Int.zero_add _
    show tSeq _ _ _ _ _
    rw [e0]
    refine ⟨_, rfl, _, rfl, a, ns, i, rfl, sS.seq hS, by omega, fun hp Ha sa nhp ga => ?_⟩
    refine ⟨_, rfl, by decide, by decide, for_range (lo := 0) (fun j σ H' => (∃ y3 y4 y5, σ = [some (.ref a), some (.int (i : Int)), some (.ref hp), y3, y4, y5]) ∧ Same Hs H' ∧ Hd H' hp (100 * j)) ?_ ?_ ?_⟩
    · exact ⟨⟨_, _, _, rfl⟩, sa, ga⟩
    · rintro j σ H1 hj ⟨⟨y3, y4, y5, rfl⟩, s1, g1⟩
      have ontoS : ∀ {Hx Hy : Hp}, Same Hs Hx → Kp hp Hx Hy → Same Hs Hy := fun sx k b o e => k b o (fun z => by rw [z, nhp] at e; cases e) (sx b o e)
      refine ⟨_, rfl, hp, 100 * j, 9, rfl, g1, by omega, by decide, by decide, fun r H2 hr2 g2 k2 => ?_⟩
      have ontoU : ∀ {Hx : Hp} {p : Addr} {o : HO}, Same Hs Hx → Hs p = none → Same Hs (upd Hx p o) := fun sx np b u e => by
        rw [upd_ne (ne_of_none e np)]
        exact sx b u e
      have s2 := ontoS s1 k2
      refine ⟨_, _, rfl, rfl, _, rfl, by omega, by omega, fun D1 n1 => ?_⟩
      have hsD : Hs D1 = none := s2.free n1
      have hn : ((1 : Int) + (r : Int)).toNat = r + 1 := by omega
      refine Lw.lc_range (lo := 0) (n := ((1 : Int) + (r : Int)).toNat) (fun m H' => Same Hs H' ∧ Hd H' hp (100 * j + 1 + 4 * m) ∧ ∃ acc, H' D1 = some (.lst acc) ∧ acc.length = m ∧ RowsE H' acc) ?_ ?_ ?_
      · exact ⟨s2.trans (same_new n1), g2.same (same_new n1), [], upd_same, rfl, fun x hx => by cases hx⟩
      · rintro m H' hm ⟨sH, gH, acc, eD, lD, rD⟩
        refine ⟨rfl, ?_⟩
        dsimp only [tYes]
        refine iteT ?_
        refine ⟨_, rfl, hp, 100 * j + 1 + 4 * m, rfl, gH, by omega, fun t ms H'' ht sm gg kk => ?_⟩
        have nD : D1 ≠ hp := fun z => by
          obtain ⟨g, mm, c, e, _⟩ := g2
          rw [z, e] at n1
          cases n1
        have eD2 := kk _ _ nD eD
        have nt : t ≠ D1 := ne_of ht eD2 (by intro z; cases z)
        have keepD : ∀ b ys, H'' b = some (.tup ys) → upd H'' D1 (.lst (acc ++ [.ref t])) b = some (.tup ys) := fun b ys e => by
          rw [upd_ne (ne_of e eD2 (by intro z; cases z))]
          exact e
        refine ⟨acc, eD2, ?_, ontoU (ontoS sH kk) hsD, ?_, acc ++ [.ref t], upd_same, by rw [List.length_append, lD]; rfl, ?_⟩
        · rw [lD]
          exact Nat.lt_of_le_of_lt (show m ≤ 1000 by omega) (by decide)
        · obtain ⟨g, mm, c, e, r1, r2, r3, r4⟩ := gg
          exact ⟨g, mm, c, by rw [upd_ne nD.symm]; exact e, r1, r2, r3, by omega⟩
        · intro x hx
          rcases List.mem_append.mp hx with hx | hx
          · exact (rD.keep fun b ys e => keepD b ys (kp_tup kk gH b ys e)) x hx
          · rw [List.mem_singleton.mp hx]
            exact ⟨t, ms, rfl, keepD _ _ ht, sm⟩
      · rintro H' ⟨sH, gH, acc, eD, lD, rD⟩
        rw [hn] at lD gH
        refine ⟨D1, acc, rfl, .inl ⟨SqL.of eD, fun l nl => ?_⟩⟩
        have s5 := same_new (o := .tup acc) nl
        have rE := rD.keep fun b ys e => s5 b _ e
        have gl : (upd H' l (.tup acc)) l = some (.tup acc) := upd_same
        have sHs := sH.trans s5
        have g5 := gH.same s5
        generalize upd H' l (.tup acc) = H5 at s5 rE gl sHs g5 ⊢
        -- the row is looked at
        have look : ∀ (rr : Addr) (xs : List V) (H6 : Hp), H6 rr = some (.tup xs) → RowsE H6 xs → xs.length ≤ 100 → Same Hs H6 → Hd H6 hp (100 * (j + 1)) →
            tIfS (tNot (tB (tCall sp_right [] E0 (tCons (tVar 4) tNil)))) (tRet (tC (.bl false))) tNext
              { nx := fun σ H' => (∃ y3 y4 y5, σ = [some (.ref a), some (.int (i : Int)), some (.ref hp), y3, y4, y5]) ∧ Same Hs H' ∧ Hd H' hp (100 * (j + 1)), rt := Q,
                ct := fun σ H' => (∃ y3 y4 y5, σ = [some (.ref a), some (.int (i : Int)), some (.ref hp), y3, y4, y5]) ∧ Same Hs H' ∧ Hd H' hp (100 * (j + 1)),
                bk := fun σ H' => True } [some (.ref a), some (.int (i : Int)), some (.ref hp), some (.int (0 + (j : Int))), some (.ref rr), y5] H6 := by
          intro rr xs H6 e6 r6 z6 s6 g6
          refine ⟨_, rfl, rr, xs, keyH H6, rfl, e6, r6.key.1, r6.key.2, z6, fun H7 s7 => ⟨_, rfl, ?_⟩⟩
          exact iteF ⟨⟨_, _, _, rfl⟩, s6.trans s7, g6.same s7⟩
        refine ⟨_, rfl, _, _, rfl, rfl, (by show (0 : Int) < 4; decide), rfl, _, rfl, ite2 (fun _ => ?_) (fun _ => ?_)⟩
        · refine ⟨_, rfl, _, rfl, l, l, acc, acc, rfl, rfl, gl, gl, Nat.le_trans (show acc.length + acc.length ≤ 1000 by omega) (by decide), fun p7 H7 s7 e7 _ => ?_⟩
          refine ⟨_, rfl, p7, _, rfl, e7, fun p8 H8 s8 e8 _ => ?_⟩
          have r8 : RowsE H8 (cutV (acc ++ acc) none (some 9)) := by
            intro x hx
            have hx' : x ∈ acc := by
              have := List.mem_of_mem_drop (List.mem_of_mem_take hx)
              rcases List.mem_append.mp this with z | z <;> exact z
            exact (rE.keep fun b ys e => (s7.trans s8) b _ e) x hx'
          have z8 := cutV_le (acc ++ acc) none (some 9)
          rw [List.length_append] at z8
          exact look p8 _ H8 e8 r8 (by omega) (sHs.trans (s7.trans s8)) ((g5.same (s7.trans s8)).mono (by omega))
        · exact look l acc H5 gl rE (by omega) sHs (g5.mono (by omega))
    · rintro σ H' ⟨⟨y3, y4, y5, rfl⟩, s1, _⟩
      exact ⟨⟨_, _, _, _, _, rfl⟩, sS.trans s1⟩
  · rintro σ H' ⟨_, _⟩
    exact q H'
end

end Z

namespace Z
open PySem PySem.Spec PyProof.Rows L2 Lw
theorem kb_rel {vs zs : List V} {us ws : List Value} (r1 : Vals vs us) (r2 : Vals zs ws) : Vals (kbG vs zs) (kbG us ws) := by
  cases r1 with
  | nil =>
    cases r2 with
    | nil => exact .nil
    | cons a t =>
      cases t with
      | nil => exact .cons a .nil
      | cons b t =>
        cases t with
        | nil => exact .cons b (.cons a .nil)
        | cons c t => exact .cons a (.cons b (.cons c t))
  | cons a t => exact Vals.append (.cons a t) r2
theorem all_mk {l : PySem.W.OpenLaw} {w : World} {K : PySem.W.Frag} {h : Heap} {mg : Str → Option Value} {fa f0 f1 f2 f3 f4 f5 f6 f7 f8 : Addr} {od0 an0 od1 an1 od2 an2 od3 an3 od4 an4 od5 an5 od6 an6 od7 an7 od8 an8 : Option Addr} {sl0 sl1 sl2 sl3 sl4 sl5 sl6 sl7 sl8 : Array (Option Value)} {oc0 kV0 dc0 pm0 cd0 ct0 oc1 kV1 dc1 pm1 cd1 ct1 oc2 kV2 dc2 pm2 cd2 ct2 oc3 kV3 dc3 pm3 cd3 ct3 oc4 kV4 dc4 pm4 cd4 ct4 oc5 kV5 dc5 pm5 cd5 ct5 oc6 kV6 dc6 pm6 cd6 ct6 oc7 kV7 dc7 pm7 cd7 ct7 oc8 kV8 dc8 pm8 cd8 ct8 : Value}
    (X : K.In h) (G : h.Ns mainGlobals mg) (hfa : mg "law" = some (.ref fa))
    (a0 : PySem.W.nsIn K mainGlobals "kth" = some (some (.ref f0)))
    (l0 : K.lookup f0 = some ⟨oc0, od0, .func (PySem.W.fnOf "kth" "kth" (defArgs s_kth) (defBody s_kth) (defScope s_kth) .none kV0 dc0 pm0 an0 cd0 ct0), sl0⟩)
    (c0 : PySem.W.codeIn K cd0 "kth" = true) (k0 : PySem.W.keepIn K (.ref f0) = true)
    (a1 : PySem.W.nsIn K mainGlobals "_law_hand" = some (some (.ref f1)))
    (l1 : K.lookup f1 = some ⟨oc1, od1, .func (PySem.W.fnOf "_law_hand" "_law_hand" (defArgs s__law_hand) (defBody s__law_hand) (defScope s__law_hand) .none kV1 dc1 pm1 an1 cd1 ct1), sl1⟩)
    (c1 : PySem.W.codeIn K cd1 "_law_hand" = true) (k1 : PySem.W.keepIn K (.ref f1) = true)
    (a2 : PySem.W.nsIn K mainGlobals "_law_take" = some (some (.ref f2)))
    (l2 : K.lookup f2 = some ⟨oc2, od2, .func (PySem.W.fnOf "_law_take" "_law_take" (defArgs s__law_take) (defBody s__law_take) (defScope s__law_take) .none kV2 dc2 pm2 an2 cd2 ct2), sl2⟩)
    (c2 : PySem.W.codeIn K cd2 "_law_take" = true) (k2 : PySem.W.keepIn K (.ref f2) = true)
    (a3 : PySem.W.nsIn K mainGlobals "_law_of" = some (some (.ref f3)))
    (l3 : K.lookup f3 = some ⟨oc3, od3, .func (PySem.W.fnOf "_law_of" "_law_of" (defArgs s__law_of) (defBody s__law_of) (defScope s__law_of) .none kV3 dc3 pm3 an3 cd3 ct3), sl3⟩)
    (c3 : PySem.W.codeIn K cd3 "_law_of" = true) (k3 : PySem.W.keepIn K (.ref f3) = true)
    (a4 : PySem.W.nsIn K mainGlobals "_law_thing" = some (some (.ref f4)))
    (l4 : K.lookup f4 = some ⟨oc4, od4, .func (PySem.W.fnOf "_law_thing" "_law_thing" (defArgs s__law_thing) (defBody s__law_thing) (defScope s__law_thing) .none kV4 dc4 pm4 an4 cd4 ct4), sl4⟩)
    (c4 : PySem.W.codeIn K cd4 "_law_thing" = true) (k4 : PySem.W.keepIn K (.ref f4) = true)
    (a5 : PySem.W.nsIn K mainGlobals "_law_above" = some (some (.ref f5)))
    (l5 : K.lookup f5 = some ⟨oc5, od5, .func (PySem.W.fnOf "_law_above" "_law_above" (defArgs s__law_above) (defBody s__law_above) (defScope s__law_above) .none kV5 dc5 pm5 an5 cd5 ct5), sl5⟩)
    (c5 : PySem.W.codeIn K cd5 "_law_above" = true) (k5 : PySem.W.keepIn K (.ref f5) = true)
    (a6 : PySem.W.nsIn K mainGlobals "_law_due" = some (some (.ref f6)))
    (l6 : K.lookup f6 = some ⟨oc6, od6, .func (PySem.W.fnOf "_law_due" "_law_due" (defArgs s__law_due) (defBody s__law_due) (defScope s__law_due) .none kV6 dc6 pm6 an6 cd6 ct6), sl6⟩)
    (c6 : PySem.W.codeIn K cd6 "_law_due" = true) (k6 : PySem.W.keepIn K (.ref f6) = true)
    (a7 : PySem.W.nsIn K mainGlobals "_law_right" = some (some (.ref f7)))
    (l7 : K.lookup f7 = some ⟨oc7, od7, .func (PySem.W.fnOf "_law_right" "_law_right" (defArgs s__law_right) (defBody s__law_right) (defScope s__law_right) .none kV7 dc7 pm7 an7 cd7 ct7), sl7⟩)
    (c7 : PySem.W.codeIn K cd7 "_law_right" = true) (k7 : PySem.W.keepIn K (.ref f7) = true)
    (a8 : PySem.W.nsIn K mainGlobals "law" = some (some (.ref f8)))
    (l8 : K.lookup f8 = some ⟨oc8, od8, .func (PySem.W.fnOf "law" "law" (defArgs s_law) (defBody s_law) (defScope s_law) .none kV8 dc8 pm8 an8 cd8 ct8), sl8⟩)
    (c8 : PySem.W.codeIn K cd8 "law" = true) (k8 : PySem.W.keepIn K (.ref f8) = true)
    (z0 : PySem.W.nsIn K mainGlobals "abs" = some none)
    (z1 : PySem.W.nsIn K mainGlobals "all" = some none)
    (z2 : PySem.W.nsIn K mainGlobals "int" = some none)
    (z3 : PySem.W.nsIn K mainGlobals "len" = some none)
    (z4 : PySem.W.nsIn K mainGlobals "min" = some none)
    (z5 : PySem.W.nsIn K mainGlobals "range" = some none)
    (z6 : PySem.W.nsIn K mainGlobals "repr" = some none)
    (z7 : PySem.W.nsIn K mainGlobals "sorted" = some none)
    (z8 : PySem.W.nsIn K mainGlobals "tuple" = some none)
    (z9 : PySem.W.nsIn K mainGlobals "zip" = some none) :
    ∃ fd : FuncData, (∀ (s : Shared) (v : Value), BindsTo s fd ⟨[v], []⟩ [("_law_script", v)]) ∧ ∀ base : Heap, K.In base → base.Ns mainGlobals mg → FnG l.prog w K mg base 4 fa fd ["_law_script"] (sp_law K) := by
  have e := hfa.symm.trans (PySem.W.mg_of X G a8)
  cases e
  have F0 := fun_mk (st := s_kth) l0 c0 k0
  have b0 := F0.binds (ps := ["things", "k"]) fun _ _ _ _ _ _ us hl => match us, hl with | [_, _], _ => rfl
  have F1 := fun_mk (st := s__law_hand) l1 c1 k1
  have b1 := F1.binds (ps := ["_law_script", "_law_nth"]) fun _ _ _ _ _ _ us hl => match us, hl with | [_, _], _ => rfl
  have F2 := fun_mk (st := s__law_take) l2 c2 k2
  have b2 := F2.binds (ps := ["_law_hand_here", "_law_upon"]) fun _ _ _ _ _ _ us hl => match us, hl with | [_, _], _ => rfl
  have F3 := fun_mk (st := s__law_of) l3 c3 k3
  have b3 := F3.binds (ps := ["_law_hand_here", "_law_some"]) fun _ _ _ _ _ _ us hl => match us, hl with | [_, _], _ => rfl
  have F4 := fun_mk (st := s__law_thing) l4 c4 k4
  have b4 := F4.binds (ps := ["_law_hand_here"]) fun _ _ _ _ _ _ us hl => match us, hl with | [_], _ => rfl
  have F5 := fun_mk (st := s__law_above) l5 c5 k5
  have b5 := F5.binds (ps := ["_law_one", "_law_other"]) fun _ _ _ _ _ _ us hl => match us, hl with | [_, _], _ => rfl
  have F6 := fun_mk (st := s__law_due) l6 c6 k6
  have b6 := F6.binds (ps := ["_law_row", "_law_turn"]) fun _ _ _ _ _ _ us hl => match us, hl with | [_, _], _ => rfl
  have F7 := fun_mk (st := s__law_right) l7 c7 k7
  have b7 := F7.binds (ps := ["_law_row"]) fun _ _ _ _ _ _ us hl => match us, hl with | [_], _ => rfl
  have F8 := fun_mk (st := s_law) l8 c8 k8
  have b8 := F8.binds (ps := ["_law_script"]) fun _ _ _ _ _ _ us hl => match us, hl with | [_], _ => rfl
  let T : Txt K mg := {
    f_kth := f0, fd_kth := _, F_kth := F0, g_kth := PySem.W.mg_of X G a0, b_kth := b0,
    f__law_hand := f1, fd__law_hand := _, F__law_hand := F1, g__law_hand := PySem.W.mg_of X G a1, b__law_hand := b1,
    f__law_take := f2, fd__law_take := _, F__law_take := F2, g__law_take := PySem.W.mg_of X G a2, b__law_take := b2,
    f__law_of := f3, fd__law_of := _, F__law_of := F3, g__law_of := PySem.W.mg_of X G a3, b__law_of := b3,
    f__law_thing := f4, fd__law_thing := _, F__law_thing := F4, g__law_thing := PySem.W.mg_of X G a4, b__law_thing := b4,
    f__law_above := f5, fd__law_above := _, F__law_above := F5, g__law_above := PySem.W.mg_of X G a5, b__law_above := b5,
    f__law_due := f6, fd__law_due := _, F__law_due := F6, g__law_due := PySem.W.mg_of X G a6, b__law_due := b6,
    f__law_right := f7, fd__law_right := _, F__law_right := F7, g__law_right := PySem.W.mg_of X G a7, b__law_right := b7,
    f_law := fa, fd_law := _, F_law := F8, g_law := PySem.W.mg_of X G a8, b_law := b8,
    kb_kth := ⟨fun s us ws _ hl => match us, ws, hl with | [], [_, _], _ => .of_eq rfl | [_], [_], hl => .of_eq rfl | [_, _], [], _ => .of_eq rfl | [], [], hl => nomatch hl | [], [_], hl => nomatch hl | [], _ :: _ :: _ :: _, hl => absurd hl (by simp [kbG]) | [_], [], hl => nomatch hl | [_], _ :: _ :: _, hl => absurd hl (by simp [kbG]) | [_, _], _ :: _, hl => absurd hl (by simp [kbG]) | _ :: _ :: _ :: _, _, hl => absurd hl (by simp [kbG]), fun r1 r2 => kb_rel r1 r2⟩,
    m_abs := PySem.W.mg_none_of X G z0,
    m_all := PySem.W.mg_none_of X G z1,
    m_int := PySem.W.mg_none_of X G z2,
    m_len := PySem.W.mg_none_of X G z3,
    m_min := PySem.W.mg_none_of X G z4,
    m_range := PySem.W.mg_none_of X G z5,
    m_repr := PySem.W.mg_none_of X G z6,
    m_sorted := PySem.W.mg_none_of X G z7,
    m_tuple := PySem.W.mg_none_of X G z8,
    m_zip := PySem.W.mg_none_of X G z9 }
  exact ⟨T.fd_law, fun s v => .of_eq rfl, fun base _ _ => ok_law (k := 0) T⟩
end Z
open PySem PySem.W PyProof.Rows
set_option maxHeartbeats 0 in
theorem PySem.Challenge.cw_stilltold_k02_the_kth_greatest_holds : PySem.Challenge.rw_stilltold_k02_the_kth_greatest.Holds := by
  w_on; o_law; k_head; (case hw => w_witness2)
  k_fill
  refine Lw.walkG (l := PySem.Challenge.rw_stilltold_k02_the_kth_greatest) (n := 63) (k := 4) (x := "_law_script") (sp := Z.sp_law) rfl (by decide) rfl ⟨rfl, by decide, by decide⟩ (fun w h Y => PySem.W.kIn_of Y) ?F (fun K _ a ns hl _ hS => ⟨a, ns, rfl, hS, hl, fun _ => rfl⟩)
  case F =>
    intro w mg fa h KX G hmg
    refine' Z.all_mk KX G hmg ?a0 ?l0 ?c0 ?k0 ?a1 ?l1 ?c1 ?k1 ?a2 ?l2 ?c2 ?k2 ?a3 ?l3 ?c3 ?k3 ?a4 ?l4 ?c4 ?k4 ?a5 ?l5 ?c5 ?k5 ?a6 ?l6 ?c6 ?k6 ?a7 ?l7 ?c7 ?k7 ?a8 ?l8 ?c8 ?k8 ?z0 ?z1 ?z2 ?z3 ?z4 ?z5 ?z6 ?z7 ?z8 ?z9
    (case a0 => k_is); (case l0 => k_is); (case c0 => k_is); (case k0 => k_is); (case a1 => k_is); (case l1 => k_is); (case c1 => k_is); (case k1 => k_is); (case a2 => k_is); (case l2 => k_is); (case c2 => k_is); (case k2 => k_is); (case a3 => k_is); (case l3 => k_is); (case c3 => k_is); (case k3 => k_is); (case a4 => k_is); (case l4 => k_is); (case c4 => k_is); (case k4 => k_is); (case a5 => k_is); (case l5 => k_is); (case c5 => k_is); (case k5 => k_is); (case a6 => k_is); (case l6 => k_is); (case c6 => k_is); (case k6 => k_is); (case a7 => k_is); (case l7 => k_is); (case c7 => k_is); (case k7 => k_is); (case a8 => k_is); (case l8 => k_is); (case c8 => k_is); (case k8 => k_is); (case z0 => k_is); (case z1 => k_is); (case z2 => k_is); (case z3 => k_is); (case z4 => k_is); (case z5 => k_is); (case z6 => k_is); (case z7 => k_is); (case z8 => k_is); (case z9 => k_is)
